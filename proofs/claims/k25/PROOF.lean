import PyProof.Rows.All
import Wide.All
import OpenK.AllK
import Wide.FinOn
import KE.KStateDown
import KE.KExcInit
import KE.KExcIs
import HandS.ForMost
import HandS.ForExc
import HandS.ExcInit
import HandS.ExcValue
import HandS.ExcField
import HandS.IsInst
import HandS.Conv
import HandS.Defaults
import HandS.Wide
import HandS.Head0
import HandS.Head1
import HandS.Head2
import HandS.HeadEnd
import HandS.HeadHook1
import HandS.HeadHook2
import HandS.HeadHook3
import KE.GoesEnum
import HandS.OwnEq
import HandS.Zip
import HandS.Strs
import HandS.DictComp
import HandS.Flow
import HandS.Style
import HandS.More
import HandS.NoneIn
import HandS.WideBits
import HandS.Codes
import HandS.TupAny
import HandS.Star
import HandS.RevTup
import PyProof.ReprRoads
import HandS.Deep
import KE.KRevSl
import HandS.Walk
import PySem.Challenge.RW_pairlaws_k25_forms_of_terms
set_option Elab.async false
set_option linter.all false
set_option maxRecDepth 100000
set_option maxHeartbeats 0
/-! Operators and comparisons that a class of the text defines, between two of its instances; ~ of one. -/
namespace Ow
open PySem PySem.Spec PyProof.Rows L2
section
variable {X : Cx} {n : Nat} {C f : Addr} {fd : FuncData} {ps : List Str} {sp : Sp}
/-- what a class must tell for one of its special defs -/
structure OwnFn (X : Cx) (n : Nat) (C : Addr) (nm : Str) (f : Addr) (fd : FuncData) (ps : List Str) (sp : Sp) : Prop where
  ok : FnOk X.prog X.w X.K X.mg X.base CX0 n f fd ps sp
  rm : Room n X.A
  at_ : PySem.W.findIn X.K (.ref C) nm = some (some (.ref f))
  fn : PySem.W.isFn X.K (.ref f) = true
  bd : Binds X.K fd ps []
theorem backs {Q : VK} {pins : List (Addr × Obj)} {σ : L2.St} {u : Value} {s : Shared} (h : EP X pins σ Q u s) : PySem.W.CmpBack (EP X pins σ Q) u s := by
  cases u with
  | notImplemented =>
    obtain ⟨v, H, _, r, _⟩ := h
    cases v with
    | non => exact nomatch (show Value.notImplemented = Value.none from r)
    | bl b => exact nomatch (show Value.notImplemented = Value.bool b from r)
    | int i => obtain ⟨t, e⟩ := r; exact nomatch e
    | str x => obtain ⟨t, e⟩ := r; exact nomatch e
    | byt b => obtain ⟨t, e⟩ := r; exact nomatch e
    | flt b => obtain ⟨t, e⟩ := r; exact nomatch e
    | ref a => exact nomatch (show Value.notImplemented = Value.ref a from r)
    | ty m => exact nomatch (show Value.notImplemented = Value.type m from r)
  | _ => exact h
theorem OwnFn.run {nm : Str} (O : OwnFn X n C nm f fd ps sp) {pins : List (Addr × Obj)} {σ : L2.St} {H : Hp} {s : Shared} {Q : VK} {vs : List V} {us : List Value} (I : Inv X pins σ H s) (r : Vals vs us) (h : sp vs H Q E0) :
    wpAny (model X.prog X.w) X.A (call (.ref f) us) (EP X pins σ Q) X.xe s :=
  run_fn O.ok O.rm O.bd .nil pass0 I r (by rw [List.append_nil]; exact h)
/-- the two operands are instances of C -/
def rOwn (C : Addr) (sp : Sp) : R2 := fun x y H Q => ∃ a b dx dy fs gs, x = .ref a ∧ y = .ref b ∧ H a = some (.ins C dx fs) ∧ H b = some (.ins C dy gs) ∧ sp [.ref a, .ref b] H Q E0
def rOwn1 (C : Addr) (sp : Sp) : V → Hp → VK → Prop := fun x H Q => ∃ a dx fs, x = .ref a ∧ H a = some (.ins C dx fs) ∧ sp [.ref a] H Q E0
theorem op_own {op : Operator} (O : OwnFn X n C (PySem.dunder op.info.2) f fd ps sp) (hc : PySem.W.selfFirst X.K C = true) : OpR X (binaryOp op) (rOwn C sp) := by
  intro pins s σ H x y v u Q I rx ry hq
  obtain ⟨a, b, dx, dy, fs, gs, rfl, rfl, ha, hb, h⟩ := hq
  cases rx
  cases ry
  obtain ⟨mA, J, _⟩ := ins_get I.hok ha
  obtain ⟨mB, J', _⟩ := ins_get I.hok hb
  obtain ⟨od, J, _⟩ := J.look
  obtain ⟨od', J', _⟩ := J'.look
  obtain ⟨m, F⟩ := I.fr
  exact PySem.W.binop_K F I.ok.mod.kin J J'.type hc O.at_ O.fn (wpAny_mono (O.run (vs := [.ref a, .ref b]) I (.cons rfl (.cons rfl .nil)) h) (fun _ _ z => backs z) fun _ _ z => z)
theorem un_own (O : OwnFn X n C "__invert__" f fd ps sp) : UnR X (unaryOp .Invert) (rOwn1 C sp) := by
  intro pins s σ H x v Q I rx hq
  obtain ⟨a, dx, fs, rfl, ha, h⟩ := hq
  cases rx
  obtain ⟨mA, J, _⟩ := ins_get I.hok ha
  obtain ⟨od, J, _⟩ := J.look
  obtain ⟨m, F⟩ := I.fr
  exact PySem.W.ksp_inv F I.ok.mod.kin J O.at_ O.fn (O.run (vs := [.ref a]) I (.cons rfl .nil) h)
/-- a <= b and the like -/
theorem cmp_own {op : CmpOp} (he : ∀ u v, compareOp op u v = richCompare op u v) (O : OwnFn X n C (cmpInfo op).2.1 f fd ps sp) : OpR X (compareOp op) (rOwn C sp) := by
  intro pins s σ H x y v u Q I rx ry hq
  obtain ⟨a, b, dx, dy, fs, gs, rfl, rfl, ha, hb, h⟩ := hq
  cases rx
  cases ry
  obtain ⟨mA, J, _⟩ := ins_get I.hok ha
  obtain ⟨mB, J', _⟩ := ins_get I.hok hb
  obtain ⟨od, J, _⟩ := J.look
  obtain ⟨od', J', _⟩ := J'.look
  obtain ⟨m, F⟩ := I.fr
  rw [he]
  exact PySem.W.cmp_K (tb := .ref C) O.rm.units0 F I.ok.mod.kin J J'.type (by simp [PySem.W.notFirst]) O.at_ O.fn (wpAny_mono (O.run (vs := [.ref a, .ref b]) I (.cons rfl (.cons rfl .nil)) h) (fun _ _ z => backs z) fun _ _ z => z)
theorem op_own_le (O : OwnFn X n C "__le__" f fd ps sp) : OpR X (compareOp .LtE) (rOwn C sp) := cmp_own (fun _ _ => rfl) O
theorem op_own_lt (O : OwnFn X n C "__lt__" f fd ps sp) : OpR X (compareOp .Lt) (rOwn C sp) := cmp_own (fun _ _ => rfl) O
theorem op_own_eq (O : OwnFn X n C "__eq__" f fd ps sp) : OpR X (compareOp .Eq) (rOwn C sp) := cmp_own (fun _ _ => rfl) O
/-! != of two instances: object.__ne__ asks the class's own == -/
def rOwnNe (C : Addr) (sp : Sp) : R2 := fun x y H Q => ∃ a b dx dy fs gs, x = .ref a ∧ y = .ref b ∧ H a = some (.ins C dx fs) ∧ H b = some (.ins C dy gs) ∧ sp [.ref a, .ref b] H (fun v H' => ∃ k, v = .bl k ∧ Q (.bl (!k)) H') E0
theorem ne_bind (u : Value) : bindSpecial (.builtin "object.__ne__") u = pure (.builtin "object.__ne__", [u]) := by kernel_rfl
theorem op_own_ne (ok : FnOk X.prog X.w X.K X.mg X.base CX0 n f fd ps sp) (rm : Room (n + 1) X.A) (at_ : PySem.W.findIn X.K (.ref C) "__eq__" = some (some (.ref f))) (fn : PySem.W.isFn X.K (.ref f) = true) (bd : Binds X.K fd ps [])
    (ne_ : PySem.W.findIn X.K (.ref C) "__ne__" = some (some (.builtin "object.__ne__"))) (hm : PySem.W.mroIn X.K C (.type "object") = some true) : OpR X (compareOp .NotEq) (rOwnNe C sp) := by
  intro pins s σ H x y v u Q I rx ry hq
  obtain ⟨a, b, dx, dy, fs, gs, rfl, rfl, ha, hb, h⟩ := hq
  cases rx
  cases ry
  obtain ⟨mA, J, _⟩ := ins_get I.hok ha
  obtain ⟨mB, J', _⟩ := ins_get I.hok hb
  obtain ⟨od, J, _⟩ := J.look
  obtain ⟨od', J', _⟩ := J'.look
  have K' := I.kIn
  have hl := ok.len _ _ _ _ h
  have e0 : Env0 X.prog X.w X.K X.mg X.base X.A.in1 X.stack s H := by
    have e := I.env0
    exact ⟨e.frames, e.mod, e.bs, e.bsz, e.funs, e.frf, e.hok, e.bare⟩
  have r2 : Vals [V.ref a, V.ref b] [Value.ref a, Value.ref b] := .cons rfl (.cons rfl .nil)
  have go : wpAny (model X.prog X.w) X.A.in1 (call (.ref f) [.ref a, .ref b]) (fun v s' => ∃ k, v = .bool k ∧ EP X pins σ Q (.bool (!k)) s') X.xe s := by
    refine wpAny_call (codeAny_mono (ok.run X.A.in1 X.stack s H ⟨[.ref a, .ref b], []⟩ [.ref a, .ref b] [.ref a, .ref b] _ E0 rm.in1 e0 (by
      have z := bd s [.ref a, .ref b] I.kIn (by simpa using hl)
      simpa using z) r2 h) fun r s' hq => ?_)
    cases r with
    | error e => exact pass0 pins σ H s e s' I hq
    | ok fl =>
      cases fl with
      | ret w =>
        obtain ⟨z, H', I', rz, k, ez, q⟩ := I.after hq
        subst ez
        cases rz
        exact ⟨k, rfl, .bl (!k), H', I', rfl, q⟩
      | next => exact False.elim hq
      | brk => exact False.elim hq
      | cont => exact False.elim hq
  show wpAny (model X.prog X.w) X.A (richCompare .NotEq (.ref a) (.ref b)) (EP X pins σ Q) X.xe s
  have one : wpAny (model X.prog X.w) X.A (tryCompare (.ref a) "__ne__" (.ref b)) (fun r s' => ∃ v, r = some v ∧ EP X pins σ Q v s') X.xe s := by
    unfold tryCompare
    refine wpAny_bind (m := callSpecialIfBound? (.ref a) "__ne__" [.ref b]) ?_
    simp only [callSpecialIfBound?, bindSpecialIfBound?]
    refine wpAny_holding (wpAny_bind (wpAny_bind (wpAny_bind (J.type.here ((PySem.W.looks_findIn K' ne_).here ?_)))))
    refine wpAny_bind (wpAny_askSetting (wpAny_ite ?_))
    have fin : wpAny (model X.prog X.w) X.A (call (.builtin "object.__ne__") ([.ref a] ++ [.ref b]) >>= fun v => pure (some v)) (fun r s' => wpAny (model X.prog X.w) X.A (match r with | some .notImplemented | none => pure none | some v => pure (some v)) (fun r s' => ∃ v, r = some v ∧ EP X pins σ Q v s') X.xe s') X.xe s := by
      refine wpAny_bind (wpAny_call (codeAny_call_builtin PySem.F.cmp_object.ne.plain PySem.F.cmpEntry_ne (PySem.W.check_slot PySem.F.cmpKind_ne PySem.F.cmpSplit_ne (J.type.andThen (PySem.W.looks_mroIn K' hm)) (PySem.F.cmpArgs_ne _ _) ?_)))
      unfold Builtin.«object.__ne__»
      refine wpAny_bind (m := slotArgs "__ne__" 1 _) (wpAny_pure ?_)
      refine wpAny_bind (m := cRoomFor _ _) (wpAny_cRoomFor rm.in1.units0 ?_)
      refine wpAny_bind (m := callSpecialIfBound? (.ref a) (PySem.Str.ofString "__eq__") _) (PySem.W.ifBound_K K' J at_ fn (wpAny_mono go (fun r s' hq => ?_) fun _ _ y => y))
      obtain ⟨k, rfl, q⟩ := hq
      refine wpAny_bind (m := truthy (.bool k)) (wpAny_truthy_bool ?_)
      exact wpAny_pure (wpAny_pure (wpAny_pure ⟨_, rfl, q⟩))
    split
    · exact wpAny_bind ((PySem.W.Looks.of_pure (ne_bind _)).here (wpAny_pure (by exact fin)))
    · exact wpAny_tryCatch (wpAny_bind ((PySem.W.Looks.of_pure (ne_bind _)).here (wpAny_pure (by exact fin))))
  unfold richCompare
  simp only [oneThing_ref]
  refine wpAny_holding (wpAny_bind (wpAny_cRoomFor rm.units0 ?_))
  refine wpAny_bind (J.type.here (wpAny_bind (J'.type.here ?_)))
  rw [show (Value.ref C != Value.ref C) = false from by simp]
  simp only [Bool.false_eq_true, if_false]
  refine wpAny_bind (wpAny_pure ?_)
  simp only [Bool.false_eq_true, if_false]
  refine wpAny_bind (wpAny_mono one (fun r s' z => ?_) fun _ _ e => e)
  obtain ⟨v, rfl, hq⟩ := z
  exact wpAny_pure hq
end
end Ow

/-! for i, x in enumerate(a tuple) -/
namespace Ow
open PySem PySem.Spec PyProof.Rows L2
theorem enum_new1 {v : Value} {o : Obj} {H : Heap → Prop} (B : Begins v o H) :
    Meets (Builtin.«enumerate.__new__» ⟨[.type "enumerate", v], []⟩) (fun _ R s => H s.heap ∧
      R (.ok (.ret (.ref (s.heap.push o).objs.size))) { s with heap := (s.heap.push o).push { cls := .type "enumerate", data := .fields #[.none, .bool false, .ref s.heap.objs.size, rawInt 0, .none, .none] } }) :=
  .of_wp fun prog w A R s h => by
    obtain ⟨hp, g, d, tk, os⟩ := s
    obtain ⟨h1, h⟩ := h
    have hsub := sub_enumerate
    have q1 : ∀ {A' : Around} {E : Value → Shared → Prop} {Q : Value → Shared → Prop}, Q (.ref hp.objs.size) ⟨hp.push o, g, d, tk, os⟩ → wpAny (model prog w) A' (pyIter v) Q E ⟨hp, g, d, tk, os⟩ :=
      fun q => B.iter prog w _ _ ⟨hp, g, d, tk, os⟩ _ h1 q
    wp_walk using q1
    refine wpAny_stack_any fun st => wpAny_pure ?_
    split
    · rename_i c _ _ _ _ _
      cases (c == Value.type "enumerate")
      · wp_walk using q1
        exact ⟨_, rfl, h⟩
      · wp_walk using q1
        exact ⟨_, rfl, h⟩
    · wp_walk using q1
      exact ⟨_, rfl, h⟩
section
variable {prog : Program} {w : World} {A : Around} {E : Value → Shared → Prop} {s : Shared}
theorem enum_tup {l : Addr} {items : Array Value} {Q : Value → Shared → Prop} (hL : s.heap.IsTuple l items)
    (h : ∀ h', IsEnum h' (s.heap.objs.size + 1) s.heap.objs.size 0 .none → h'.IsTupleIter s.heap.objs.size l 0 → h'.objs.size = s.heap.objs.size + 2 →
      (∀ b o, s.heap.get? b = some o → h'.get? b = some o) → Q (.ref (s.heap.objs.size + 1)) { s with heap := h' }) :
    wpAny (model prog w) A (call (.type "enumerate") [.ref l]) Q E s := by
  refine callType_new F.called_enumerate (by decide) (F.typeCall_enumerate_1 _) (F.newCall_enumerate_1 _) (fun obj => F.args_object_init_2 obj _) F.entry_enumerate_new
    (enum_new1 (begins_tuple l items)) ⟨hL, ?_⟩
  have hz : (s.heap.push { cls := .type "tuple_iterator", data := .fields #[.ref l, .int 0 0] }).objs.size = s.heap.objs.size + 1 := Heap.size_push ..
  show _ ∧ _
  rw [hz]
  have he : IsEnum ((s.heap.push { cls := .type "tuple_iterator", data := .fields #[.ref l, .int 0 0] }).push
      { cls := .type "enumerate", data := .fields #[.none, .bool false, .ref s.heap.objs.size, rawInt 0, .none, .none] }) (s.heap.objs.size + 1) s.heap.objs.size 0 .none := by
    have z := Heap.get?_push_size (s.heap.push { cls := .type "tuple_iterator", data := .fields #[.ref l, .int 0 0] })
      (o := { cls := .type "enumerate", data := .fields #[.none, .bool false, .ref s.heap.objs.size, rawInt 0, .none, .none] }) rfl
    rw [hz] at z
    exact z
  refine ⟨⟨_, he, rfl⟩, h _ he ⟨_, Heap.get?_push_of_some _ (Heap.get?_push_size _ rfl), rfl, rfl⟩ (by rw [Heap.size_push, hz]) fun b o x => Heap.get?_push_of_some _ (Heap.get?_push_of_some _ x)⟩
end
/-- the tuple at a, each item in a new pair -/
def IteT (K : PySem.W.Frag) (a : Addr) : It :=
  ⟨fun i H => ∃ (xs : List V) (x : V), SqT K H a xs ∧ xs[i]? = some x, fun i H v H' => ∃ T x, v = .ref T ∧ H T = none ∧ H' = upd H T (.tup [.int (i : Nat), x]) ∧ ∀ xs, SqT K H a xs → xs[i]? = some x, fun i H => ∃ xs : List V, SqT K H a xs ∧ xs.length = i⟩
theorem turn_enumT {P : Program} {w : World} {K : PySem.W.Frag} {elts : List Expr} {kk : Nat} {tpos : Pos} (a e it : Addr) :
    Turn P w K (.Tuple elts kk tpos) (IteT K a) [e, it] e (fun i h => (∃ old, IsEnum h e it ((i : Nat) : Int) old) ∧ h.IsTupleIter it a i ∧ e ≠ it ∧ a ≠ it ∧ e ≠ a) where
  mem := by simp
  obj := fun i h st b hb => by
    obtain ⟨⟨old, he⟩, ⟨o, ho, hc, hd⟩, _⟩ := st
    have e' : b = e ∨ b = it := by simpa using hb
    rcases e' with z | z
    · rw [z]; exact ⟨_, he, fun v q => nomatch q⟩
    · rw [z]; exact ⟨o, ho, fun v q => by rw [hd] at q; cases q⟩
  keep := fun i h h' st k => by
    obtain ⟨⟨old, he⟩, hi, hne⟩ := st
    exact ⟨⟨old, k e (by simp) _ he⟩, hi.at fun o q => k it (by simp) o q, hne⟩
  item := by
    intro X hP hw hK hc i pins s σ H E I hf st hg
    subst hP hw hK
    obtain ⟨⟨old, he⟩, hit, hne, hai, hea⟩ := st
    obtain ⟨xs, x, hq, hx⟩ := hg
    obtain ⟨its, rv, p, hz⟩ := I.tuple hq
    obtain ⟨u, hu, ru⟩ := rv.get hx
    have p : s.heap.IsTuple a its.toArray := p
    have hel : e < s.heap.objs.size := Heap.lt_size he
    have hil : it < s.heap.objs.size := by obtain ⟨_, q, _⟩ := hit; exact Heap.lt_size q
    have hlt : i < its.toArray.size := by
      have z : i < its.length := List.getElem?_eq_some_iff.mp hu |>.1
      simpa using z
    refine wpAny_pyNext_enum_itemD (Draws.tuple (A := X.A.in1) (show X.A.in1.handled = none from I.ok.hd hc) it a hai its.toArray) he ⟨hit, p⟩ hlt hne (by simp [hne, hea]) fun u' h' tk hP ho hst' hT hsz hk => ?_
    have eu : u' = u := by
      have z : its.toArray[i]? = some u := by simpa using hu
      rw [z] at hP
      exact (Option.some.inj hP).symm
    subst eu
    have hit' := hst'.1
    refine ⟨_, rfl, wpAny_letOwnedTupleGo_enum (s := { s with heap := h', toks := tk + 1 }) ho fun h'' he' sb => ?_⟩
    have hT2 : h''.get? s.heap.objs.size = some { cls := .type "tuple", data := .seq #[.int i tk, u'] } := (sb.2 _ (Nat.ne_of_gt hel)).trans hT
    have new : ObjOk X.prog X.w (upd H s.heap.objs.size (.tup [.int (i : Nat), x])) h'' s.heap.objs.size (.tup [.int (i : Nat), x]) :=
      ⟨by show 2 ≤ sizeLine; decide, [.int i tk, u'], .cons ⟨_, rfl⟩ (.cons ru .nil), ⟨_, hT2, rfl, _, rfl⟩⟩
    have I1 : Inv X pins σ (upd H s.heap.objs.size (.tup [.int (i : Nat), x])) { s with heap := h'', toks := tk + 1 } :=
      I.turnedNew (ch := [e, it]) (fun b ob hb q => (sb.2 b (fun z => hb (by simp [z]))).trans (hk b ob (fun z => hb (by simp [z])) (fun z => hb (by simp [z])) q)) hf (Nat.le_refl _) new
    refine ⟨.ref s.heap.objs.size, _, I1, rfl, ⟨_, x, rfl, I.hok.fresh (Nat.le_refl _), rfl, fun ys hy => by rw [I.tuple_inj hy hq]; exact hx⟩, ⟨⟨u', ?_⟩, hit'.at fun o q => (sb.2 it (Ne.symm hne)).trans q, hne, hai, hea⟩, fun b hb => ?_⟩
    · have e1 : ((i + 1 : Nat) : Int) = (i : Int) + 1 := by omega
      rw [e1]; exact he'
    · have hb' : b < s.heap.objs.size := by
        have e' : b = e ∨ b = it := by simpa using hb
        rcases e' with z | z
        · rw [z]; exact hel
        · rw [z]; exact hil
      rw [upd_ne (Nat.ne_of_lt hb')]
      exact (hf b hb).1
  done := by
    intro X hP hw hK hc i pins s σ H E I hf st hg
    subst hP hw hK
    obtain ⟨⟨old, he⟩, hit, hne, hai, hea⟩ := st
    obtain ⟨xs, hq, hx⟩ := hg
    obtain ⟨its, rv, p, hz⟩ := I.tuple hq
    have p : s.heap.IsTuple a its.toArray := p
    obtain ⟨f0, f1, f2, f3, f4, f5⟩ := hf it (by simp)
    have hl := rv.length
    have ez : i = its.toArray.size := by simp; omega
    subst ez
    exact wpAny_pyNext_enum_endD (Draws.tuple (A := X.A.in1) (show X.A.in1.handled = none from I.ok.hd hc) it a hai its.toArray) he ⟨hit, p⟩ fun h' eb => ⟨rfl, I.turned (t' := s.toks) (fun b o hb q => eb b o hb q) f0 f1 f3 f4 f5⟩
  self := fun A i s Q E st h => let ⟨⟨_, he⟩, _⟩ := st; wpAny_pyIter_enum he h
def iEnumT (K : PySem.W.Frag) (ta : TA) : TI := fun σ H R => ta σ H fun vs H1 => ∃ a xs, vs = [.ref a] ∧ SqT K H1 a xs ∧ R (IteT K a) H1
theorem pi_enumT {X : Cx} {e : Expr} {ta : TA} {p pos tpos : Pos} {elts : List Expr} {kk : Nat} (hg : Gl X "enumerate") (hm : X.mg "enumerate" = none) (ha : PA X [e] ta) (hs : starEach [e] X.env = [(false, eval e X.env)] := by rfl) :
    PI X (.Tuple elts kk tpos) (.Call (.Name "enumerate" p) [e] [] pos) (iEnumT X.K ta) := by
  refine ⟨fun pins s σ H R I h => ?_⟩
  refine Call_ (ld_blt I hg hm boot_enumerate (PyProof.Rows.callWith_type1 (thn (ha.run pos pins s σ H _ I h) fun us s1 ⟨vs, H1, I1, r1, q1⟩ => ?_) hs rfl))
  obtain ⟨a, xs, ex, hq, q⟩ := q1
  subst ex
  cases r1 with
  | cons r rr =>
    cases rr
    cases r
    obtain ⟨its, rv, p', hz⟩ := I1.tuple hq
    have p' : s1.heap.IsTuple a its.toArray := p'
    have al : a < s1.heap.objs.size := by obtain ⟨o, q, _⟩ := p'; exact Heap.lt_size q
    refine enum_tup p' fun h' he hit hsz hk => wpAny_pyIter_enum he ?_
    have I2 : Inv X pins σ H1 { s1 with heap := h' } := I1.kept (t' := s1.toks) hk
    refine ⟨s1.heap.objs.size + 1, [s1.heap.objs.size + 1, s1.heap.objs.size], _, _, H1, rfl, I2, turn_enumT a (s1.heap.objs.size + 1) s1.heap.objs.size, ⟨⟨.none, he⟩, hit, Nat.succ_ne_self _, Nat.ne_of_lt al, Nat.ne_of_gt (Nat.lt_succ_of_lt al)⟩, fun b hb => ?_, q⟩
    have e' : b = s1.heap.objs.size + 1 ∨ b = s1.heap.objs.size := by simpa using hb
    have hle : s1.heap.objs.size ≤ b := by
      rcases e' with z | z
      · rw [z]; exact Nat.le_add_right _ _
      · rw [z]; exact Nat.le_refl _
    exact I1.fpOk hle (I1.hok.fresh hle)
end Ow

/-! len(set(xs)), xs a list or a tuple of unlike texts -/
namespace Ow
open PySem PySem.Spec PyProof.Rows L2
theorem nd_take {xs : List Str} (nd : xs.Nodup) {i : Nat} (hi : i < xs.length) : (xs.take i).any (· == xs.getD i Str.empty) = false := by
  have e : xs.getD i Str.empty = xs[i] := by rw [List.getD_eq_getElem?_getD, List.getElem?_eq_getElem hi]; rfl
  refine Bool.eq_false_iff.mpr fun h => ?_
  obtain ⟨y, hy, q⟩ := List.any_eq_true.mp h
  rw [e] at q
  have ey : y = xs[i] := beq_iff_eq.mp q
  obtain ⟨j, hj, e3⟩ := List.getElem_of_mem hy
  have hl : j < i := by rw [List.length_take] at hj; omega
  rw [List.getElem_take] at e3
  exact List.pairwise_iff_getElem.mp nd j i (Nat.lt_trans hl hi) hi hl (e3.trans ey)
theorem any_take {xs : List Str} {i : Nat} (hi : i < xs.length) (k : Str) : (xs.take (i + 1)).any (· == k) = ((xs.take i).any (· == k) || decide (k = xs.getD i Str.empty)) := by
  have e : xs.getD i Str.empty = xs[i] := by rw [List.getD_eq_getElem?_getD, List.getElem?_eq_getElem hi]; rfl
  rw [List.take_succ, List.getElem?_eq_getElem hi, List.any_append, e]
  congr 1
  show ((xs[i] == k) || false) = decide (k = xs[i])
  rw [Bool.or_false]
  by_cases z : k = xs[i]
  · rw [z]; simp
  · rw [decide_eq_false z]; exact beq_eq_false_iff_ne.mpr fun y => z y.symm
section
variable {prog : Program} {w : World} {A : Around} {R : Result → Shared → Prop} {I : Addr} {fp wr : List Addr} {G : Array GenState → Array GenState → Prop} {n : Nat} {P : Nat → Value → Prop} {St : Nat → Shared → Prop}
theorem grow_set (Wk : WalksS prog w A.in1 I fp wr G n P St) (D : Addr) (dF : D ∉ fp) (xs : List Str) (len : xs.length = n) (nd : xs.Nodup) (few : n < 64) (val : ∀ i v, P i v → ∃ t, v = .str (xs.getD i Str.empty) t) :
    ∀ (k i : Nat) (s : Shared), n - i = k → i ≤ n → St i s → s.heap.SetOf (PySem.strKind prog w) D (fun z => (xs.take i).any (· == z)) i →
      (∀ s', Moved (D :: wr) G s s' → s'.heap.SetOf (PySem.strKind prog w) D (fun z => (xs.take n).any (· == z)) n → R (.ok (.ret .none)) s') → codeAny (model prog w) A (.builtin "set.update.loop" ⟨[.ref D, .ref I], []⟩) R s := by
  have dW : D ∉ wr := fun z => dF (Wk.sub _ z)
  have up : ∀ b ∈ wr, b ∈ D :: wr := fun b z => List.mem_cons_of_mem _ z
  intro k
  induction k with
  | zero =>
    intro i s hk hi st hS fin
    have ein : i = n := by omega
    subst ein
    refine codeAny_builtin PyProof.Rows.F.entry_set_update_loop ?_
    rw [Around.under_plainId PyProof.Rows.F.plain_set_update_loop _]
    show wpAny _ A.in1 (pyNext (.ref I) >>= _) _ _ s
    refine wpAny_bind (Wk.done s _ _ st fun s' mv => wpAny_pure (fin s' (mv.mono up) ?_))
    obtain ⟨o, es, ep, t, ho, more⟩ := hS
    exact ⟨o, es, ep, t, mv.heap D _ dW ho, more⟩
  | succ k ih =>
    intro i s hk hi st hS fin
    have lt : i < n := by omega
    have lx : i < xs.length := by omega
    refine codeAny_builtin PyProof.Rows.F.entry_set_update_loop ?_
    rw [Around.under_plainId PyProof.Rows.F.plain_set_update_loop _]
    show wpAny _ A.in1 (pyNext (.ref I) >>= _) _ _ s
    refine wpAny_bind (Wk.item i s _ _ lt st fun v s' pv st' mv => ?_)
    obtain ⟨t, rfl⟩ := val i v pv
    have hS' : s'.heap.SetOf (PySem.strKind prog w) D (fun z => (xs.take i).any (· == z)) i := by
      obtain ⟨o, es, ep, tb, ho, more⟩ := hS
      exact ⟨o, es, ep, tb, mv.heap D _ dW ho, more⟩
    show wpAny _ A.in1 (holding [Value.str (xs.getD i Str.empty) t] (setAdd D (.str (xs.getD i Str.empty) t)) >>= _) _ _ s'
    refine wpAny_bind (wpAny_holding ?_)
    unfold setAdd
    refine wpAny_holding (wpAny_bind ((PySem.strKind prog w).pyHash (k := xs.getD i Str.empty) (strKind_is _ _ _ _) ?_))
    refine wpAny_setAddHashed_of (knd := PySem.strKind prog w) (s := { s' with toks := s'.toks + 1 }) (strKind_is _ _ _ _) rfl hS' (by unfold scanBound; omega) fun h' sb grown => ?_
    have grown' : h'.SetOf (PySem.strKind prog w) D (fun z => (xs.take (i + 1)).any (· == z)) (i + 1) :=
      PyProof.Rows.SetOf_congr grown (fun z => (any_take lx z).symm) (by rw [nd_take nd lx]; rfl)
    refine wpAny_pure ⟨plainId_quiet PyProof.Rows.F.plain_set_update_loop _, ih (i + 1) _ (by omega) lt (Wk.frame _ s' _ _ st' (Nat.le_succ _) fun b hb o e => ?_) grown' fun s'' mv2 done => ?_⟩
    · rw [sb.2 b (fun z : b = D => dF (by rw [← z]; exact hb))]
      exact e
    · refine fin s'' (Moved.trans Wk.gtrans ((mv.mono up).then_heap (Nat.le_succ _) fun b o hb e => ?_) mv2) done
      rw [sb.2 b (fun z : b = D => hb (by rw [z]; exact List.mem_cons_self))]
      exact e
end
section
variable {prog : Program} {w : World} {A : Around} {E : Value → Shared → Prop} {s : Shared}
/-- what set() asks of its argument -/
structure Src (prog : Program) (w : World) (T TI : String) (l : Addr) (items : Array Value) (Is : Heap → Prop) (At : Addr → Nat → Heap → Prop) : Prop where
  keep : ∀ h h', Is h → (∀ b o, h.get? b = some o → h'.get? b = some o) → Is h'
  obj : ∀ h, Is h → ∃ o, h.get? l = some o ∧ o.cls = .type T
  s1 : isSubtype (.type T) (.type "set") = pure false
  s2 : isSubtype (.type T) (.type "frozenset") = pure false
  s3 : (Value.type T == Value.type "dict") = false
  iter : ∀ (A' : Around) (E : Value → Shared → Prop) (s : Shared) (Q : Value → Shared → Prop), Is s.heap → Q (.ref s.heap.objs.size) { s with heap := s.heap.push { cls := .type TI, data := .fields #[.ref l, .int 0 0] } } → wpAny (model prog w) A' (pyIter (.ref l)) Q E s
  walk : ∀ (A' : Around) (I : Addr), A'.handled = none → l ≠ I → Walks prog w A' I [I, l] [I] items.size (fun i v => items[i]? = some v) (fun i h => At I i h ∧ Is h)
  at0 : ∀ (h : Heap) (I : Addr), h.get? I = some { cls := .type TI, data := .fields #[.ref l, .int 0 0] } → At I 0 h
set_option maxHeartbeats 3200000 in
theorem set_from {T TI : String} {l : Addr} {items : Array Value} {Is : Heap → Prop} {At : Addr → Nat → Heap → Prop} {xs : List Str} {Q : Value → Shared → Prop} (S : Src prog w T TI l items Is At) (hh : A.handled = none) (is0 : Is s.heap) (ia : StrsAre items.toList xs) (nd : xs.Nodup) (few : xs.length < 64)
    (h : ∀ (h' : Heap) (tk : Nat), h'.SetOf (PySem.strKind prog w) s.heap.objs.size (fun z => (xs.take items.size).any (· == z)) items.size → (∀ b o, b < s.heap.objs.size → s.heap.get? b = some o → h'.get? b = some o) → Q (.ref s.heap.objs.size) { s with heap := h', toks := tk }) :
    wpAny (model prog w) A (call (.type "set") [.ref l]) Q E s := by
  obtain ⟨c, tl, hmro⟩ := PySem.F.called_set.mro
  have hmade := PySem.F.called_set.made
  have hsub := PySem.F.called_set.sub
  refine wpAny_call (codeAny_of_tree ?_)
  show wpAny _ _ (callAny (.type "set") _) _ _ _
  refine wpAny_pure ⟨Code.quiet_builtin _ (by decide +kernel), codeAny_builtin PySem.F.entry_type_call ?_⟩
  rw [Around.under_plain (weight_type_call_type "set" [.ref l] []) rfl]
  have k1 := PySem.F.called_set.notType
  have k2 := PySem.F.called_set.canCreate
  have k3 := PySem.F.typeCall_set_1 (.ref l)
  repeat (any_goals (first | assumption | wp_step))
  refine codeAny_mono (code_set_new_1 (.ref l) (E := E) (Q₁ := fun obj z => ∃ led : Bool, obj = .ref s.heap.objs.size ∧ z = { s with heap := s.heap.push { cls := .type "set", dict := none, data := .set #[] 0 (.fresh 0 0 led) } }) fun led => ⟨led, rfl, rfl⟩) fun r z hr => ?_
  cases r with
  | error e => exact hr
  | ok fl =>
    cases fl with
    | ret obj =>
      obtain ⟨led, rfl, rfl⟩ := hr
      generalize eN : s.heap.push { cls := .type "set", dict := none, data := .set #[] 0 (.fresh 0 0 led) } = N
      have at_ : N.get? s.heap.objs.size = some { cls := .type "set", dict := none, data := .set #[] 0 (.fresh 0 0 led) } := by rw [← eN]; exact Heap.get?_push_size _ rfl
      have zN : N.objs.size = s.heap.objs.size + 1 := by rw [← eN]; exact Heap.size_push ..
      have kN : ∀ b o, s.heap.get? b = some o → N.get? b = some o := fun b o e => by rw [← eN]; exact Heap.get?_push_of_some _ e
      have ty : Shared.TypeIs { s with heap := N } (.ref s.heap.objs.size) "set" := ⟨_, at_, rfl⟩
      have isN : Is N := S.keep _ _ is0 kN
      have hli := PySem.F.called_set.init.lookup
      have hbi := PySem.F.called_set.init.bind (.ref s.heap.objs.size)
      repeat (any_goals (first | assumption | wp_step))
      refine codeAny_mono (codeAny_call_builtin (R := wants (fun r z => r = .none ∧ ∃ h' tk, z = { s with heap := h', toks := tk } ∧ h'.SetOf (PySem.strKind prog w) s.heap.objs.size (fun y => (xs.take items.size).any (· == y)) items.size ∧
          (∀ b o, b < s.heap.objs.size → s.heap.get? b = some o → h'.get? b = some o)) E) PySem.F.called_set.init.plain PySem.F.entry_set_init (check_set_init_1 ty ?_)) fun r₂ z hr₂ => ?_
      · obtain ⟨ol, gl, cl⟩ := S.obj _ isN
        obtain ⟨ocls, odict, odata, oslots⟩ := ol
        simp only at cl
        subst cl
        have g1 := S.s1
        have g2 := S.s2
        have g3 := S.s3
        unfold Builtin.«set.__init__» noKeywords Builtin.Frozenset.updateFrom
        generalize ePI : pyIter = PI
        wp_walk
        subst ePI
        refine S.iter _ _ _ _ isN ?_
        refine wpAny_bind (wpAny_runValue ?_)
        have lS : l < s.heap.objs.size := by
          obtain ⟨o, g, _⟩ := S.obj _ is0
          exact Heap.lt_size g
        have h3 : A.in1.in1.in1.handled = none := by simp [hh]
        have lI : l ≠ N.objs.size := by rw [zN]; exact Nat.ne_of_lt (Nat.lt_succ_of_lt lS)
        have dF : s.heap.objs.size ∉ [N.objs.size, l] := by
          rw [zN]
          simp only [List.mem_cons, List.mem_singleton, List.not_mem_nil, or_false, not_or]
          exact ⟨Nat.ne_of_lt (Nat.lt_succ_self _), Nat.ne_of_gt lS⟩
        have len : xs.length = items.size := by rw [← StrsAre.len_eq ia, Array.length_toList]
        have gI : (N.push { cls := .type TI, data := .fields #[.ref l, .int 0 0] }).get? N.objs.size = some { cls := .type TI, data := .fields #[.ref l, .int 0 0] } := Heap.get?_push_size _ rfl
        have kI : ∀ b o, N.get? b = some o → (N.push { cls := .type TI, data := .fields #[.ref l, .int 0 0] }).get? b = some o := fun b o e => Heap.get?_push_of_some _ e
        refine grow_set ((S.walk _ _ h3 lI).toS) s.heap.objs.size dF xs len nd (by rw [← len]; exact few) (fun i v hv => SS.strs_at ia i v (by rw [Array.getElem?_toList]; exact hv)) (items.size - 0) 0 _ (by omega) (Nat.zero_le _)
          ⟨S.at0 _ _ gI, S.keep _ _ isN kI⟩ ?start0 ?fin0
        case start0 => exact PyProof.Rows.SetOf_congr ((PyProof.Rows.setObjOf_fresh (knd := PySem.strKind prog w) led).setOf (kI _ _ at_) (by unfold scanBound; omega)) (fun _ => rfl) rfl
        case fin0 =>
          intro s' mv hS'
          obtain ⟨h', g', d', tk', os'⟩ := s'
          have eg : g' = s.gens := mv.gens
          have ed : d' = s.drawn := mv.drawn
          have eo : os' = s.os := mv.os
          subst eg; subst ed; subst eo
          show wpAny _ _ _ _ _ _
          refine wpAny_pure ?_
          show wpAny _ _ (ret Value.none) _ _ _
          refine wpAny_pure ⟨rfl, h', tk', rfl, hS', fun b o hb e => mv.heap b o ?_ (kI _ _ (kN _ _ e))⟩
          simp only [List.mem_cons, List.mem_singleton, List.not_mem_nil, or_false, not_or]
          exact ⟨Nat.ne_of_lt hb, by show b ≠ N.objs.size; rw [zN]; exact Nat.ne_of_lt (Nat.lt_succ_of_lt hb)⟩
      · cases r₂ with
        | error e => exact hr₂
        | ok fl₂ =>
          cases fl₂ with
          | ret r =>
            obtain ⟨rfl, h', tk, rfl, hS', hk'⟩ := hr₂
            repeat (any_goals (first | assumption | wp_step))
            exact h _ _ hS' hk'
          | _ => exact hr₂.elim
    | _ => exact hr.elim
end
end Ow

namespace Ow
open PySem PySem.Spec PyProof.Rows L2
section
variable {prog : Program} {w : World}
theorem src_list (l : Addr) (items : Array Value) : Src prog w "list" "list_iterator" l items (fun h => h.IsList l items) (fun I i h => h.IsListIter I l i) where
  keep := fun h h' z k => z.at fun o e => k l o e
  obj := fun h z => by obtain ⟨o, g, c, _⟩ := z; exact ⟨o, g, c⟩
  s1 := PySem.F.sub_list_set
  s2 := PySem.F.sub_list_frozenset
  s3 := by decide
  iter := fun A' E s Q z q => wpAny_pyIter_list z q
  walk := fun A' I hh ne => Walks.list hh I l ne items
  at0 := fun h I g => ⟨_, g, rfl, rfl⟩
theorem src_tup (l : Addr) (items : Array Value) : Src prog w "tuple" "tuple_iterator" l items (fun h => h.IsTuple l items) (fun I i h => h.IsTupleIter I l i) where
  keep := fun h h' z k => z.at fun o e => k l o e
  obj := fun h z => by obtain ⟨o, g, c, _⟩ := z; exact ⟨o, g, c⟩
  s1 := PySem.F.sub_tuple_set
  s2 := PySem.F.sub_tuple_frozenset
  s3 := by decide
  iter := fun A' E s Q z q => wpAny_pyIter_tuple z q
  walk := fun A' I hh ne => Walks.tuple hh I l ne items
  at0 := fun h I g => ⟨_, g, rfl, rfl⟩
end
section
variable {X : Cx}
def tLenSetT (K : PySem.W.Frag) (ta : TE) : TE := fun σ H Q => ta σ H fun x H1 => ∃ l, ∃ xs : List Str, x = .ref l ∧ (SqL K H1 l (xs.map V.str) ∨ SqT K H1 l (xs.map V.str)) ∧ xs.Nodup ∧ xs.length < 64 ∧ Q (.int xs.length) H1
theorem pe_lenSetT {a : Expr} {ta : TE} {p p2 q pos : Pos} (hc : X.calm = true) (hg : Gl X "len") (hm : X.mg "len" = none) (hg2 : Gl X "set") (hm2 : X.mg "set" = none) (ha : PE X a ta)
    (na : starEach [a] X.env = (false, eval a X.env) :: starEach [] X.env := by rfl) : PE X (.Call (.Name "len" p) [.Call (.Name "set" p2) [a] [] q] [] pos) (tLenSetT X.K ta) := by
  refine ⟨fun pins s σ H Q I h => ?_⟩
  refine Call_ (ld_blt I hg hm boot_len (PyProof.Rows.callWith_builtin1 (PyProof.Rows.args_cons ?_ rfl) rfl rfl))
  refine Call_ (ld_blt I hg2 hm2 boot_set ?_)
  refine PyProof.Rows.callWith_type1 (PyProof.Rows.args_cons (thn (ha.run pins s σ H _ I h) fun v s1 ⟨x, H1, I1, r1, q1⟩ => PyProof.Rows.args_nil ?_) na) na rfl
  obtain ⟨l, xs, rfl, hq, nd, few, q1⟩ := q1
  cases r1
  have last : ∀ (its : List Value), Vals (xs.map V.str) its → ∀ (h' : Heap) (tk : Nat), h'.SetOf (PySem.strKind X.prog X.w) s1.heap.objs.size (fun z => (xs.take its.toArray.size).any (· == z)) its.toArray.size →
      (∀ b o, b < s1.heap.objs.size → s1.heap.get? b = some o → h'.get? b = some o) →
      wpAny (model X.prog X.w) X.A (spliced (backTo pos (starEach [] X.env))) (fun vs z => wpAny (model X.prog X.w) X.A (call (.builtin "len") (Value.ref s1.heap.objs.size :: vs)) (EP X pins σ Q) X.xe z) X.xe { s1 with heap := h', toks := tk } := fun its r h' tk hS hk => by
    refine PyProof.Rows.args_nil ?_
    have hl : its.toArray.size = xs.length := by rw [List.size_toArray, ← r.length, List.length_map]
    rw [hl] at hS
    obtain ⟨o, es, ep, t, ho, hex, hd, _, _, _, hf, hn⟩ := hS
    have I2 : Inv X pins σ H1 { s1 with heap := h', toks := tk } := I1.kept fun b o e => hk b o (Heap.lt_size e) e
    exact call_len_set ho hex hd hf (by rw [hn]; omega) ⟨.int xs.length, H1, I2.tok _, ⟨_, by rw [hn]⟩, q1⟩
  rcases hq with hq | hq
  · obtain ⟨its, r, pl, hz⟩ := I1.list hq
    exact set_from (src_list l its.toArray) (I1.ok.hd hc) pl.isList (by simpa using strsAre_of r) nd few fun h' tk hS hk => last its r h' tk hS hk
  · obtain ⟨its, r, pl, hz⟩ := I1.tuple hq
    exact set_from (src_tup l its.toArray) (I1.ok.hd hc) pl (by simpa using strsAre_of r) nd few fun h' tk hS hk => last its r h' tk hS hk
end
end Ow

/-! what walks lists and tuples alike -/
namespace Ow
open PySem PySem.Spec PyProof.Rows L2
def SqA (K : PySem.W.Frag) (H : Hp) (a : Addr) (xs : List V) : Prop := SqL K H a xs ∨ SqT K H a xs
theorem sqt_same {K : PySem.W.Frag} {H H' : Hp} {a : Addr} {xs : List V} (s : Same H H') (h : SqT K H a xs) : SqT K H' a xs :=
  h.elim (fun h => .inl (h.elim (fun h => .inl (s _ _ h)) fun ⟨o, h⟩ => .inr ⟨o, s _ _ h⟩)) fun h => .inr h
theorem SqA.same {K : PySem.W.Frag} {H H' : Hp} {a : Addr} {xs : List V} (s : Same H H') (h : SqA K H a xs) : SqA K H' a xs := h.elim (fun h => .inl (s.seq h)) fun h => .inr (sqt_same s h)
theorem walk_enumT {K : PySem.W.Frag} {a : Addr} {xs : List V} : Walk (IteT K a) xs.length (fun H => SqT K H a xs) (YPair (fun i => some (.int (i : Nat))) (fun i => xs[i]?)) := by
  refine ⟨fun i _ hi q => ⟨xs, xs[i], q, by simp [hi]⟩, fun _ q => ⟨xs, q, rfl⟩, fun i H v H' _ q y => ?_⟩
  obtain ⟨T, x, h1, h2, h3, h4⟩ := y
  exact ⟨T, .int (i : Nat), x, h1, h2, h3, rfl, h4 xs q⟩
/-- for x in a list or a tuple: the walker is one that gives xs[i] while the heap only grows -/
def iSeqA (K : PySem.W.Frag) (tl : TE) : TI := fun σ H R => tl σ H fun x H1 => ∃ a xs, x = .ref a ∧ SqA K H1 a xs ∧ ∀ (J : It) (G : Hp → Prop), Walk J xs.length G (YAt xs) → (∀ H', Same H1 H' → G H') → R J H1
theorem pi_seqA {X : Cx} {tg l : Expr} {tl : TE} (hl : PE X l tl) : PI X tg l (iSeqA X.K tl) := by
  refine ⟨fun pins s σ H R I h => ?_⟩
  refine thn (hl.run pins s σ H _ I h) fun v s1 ⟨x, H1, I1, r1, a, xs, e, hA, q⟩ => ?_
  subst e
  cases r1
  rcases hA with hq | hq
  · obtain ⟨its, rv, p, hz⟩ := I1.list hq
    refine wpAny_pyIter_list p.isList ?_
    refine ⟨s1.heap.objs.size, [s1.heap.objs.size], _, _, H1, rfl, I1.kept (t' := s1.toks) fun b o e => Heap.get?_push_of_some _ e, turn_list a _, ⟨_, Heap.get?_push_size _ rfl, rfl, rfl⟩, fun b hb => ?_, q _ _ walk_list fun H' z => z.seq hq⟩
    have e : b = s1.heap.objs.size := by simpa using hb
    subst e
    exact I1.fpOk (Nat.le_refl _) (I1.hok.fresh (Nat.le_refl _))
  · obtain ⟨its, rv, p, hz⟩ := I1.tuple hq
    refine wpAny_pyIter_tuple (show s1.heap.IsTuple a its.toArray from p) ?_
    refine ⟨s1.heap.objs.size, [s1.heap.objs.size], _, _, H1, rfl, I1.kept (t' := s1.toks) fun b o e => Heap.get?_push_of_some _ e, turn_tuple a _, ⟨_, Heap.get?_push_size _ rfl, rfl, rfl⟩, fun b hb => ?_, q _ _ walk_tup fun H' z => sqt_same z hq⟩
    have e : b = s1.heap.objs.size := by simpa using hb
    subst e
    exact I1.fpOk (Nat.le_refl _) (I1.hok.fresh (Nat.le_refl _))
/-- for i, x in enumerate(a list or a tuple) -/
def iEnumA (K : PySem.W.Frag) (ta : TA) : TI := fun σ H R => ta σ H fun vs H1 => ∃ a xs, vs = [.ref a] ∧ SqA K H1 a xs ∧ ∀ (J : It) (G : Hp → Prop), Walk J xs.length G (YPair (fun i => some (.int (i : Nat))) (fun i => xs[i]?)) → (∀ H', Same H1 H' → G H') → R J H1
theorem pi_enumA {X : Cx} {e : Expr} {ta : TA} {p pos tpos : Pos} {elts : List Expr} {kk : Nat} (hg : Gl X "enumerate") (hm : X.mg "enumerate" = none) (ha : PA X [e] ta) (hs : starEach [e] X.env = [(false, eval e X.env)] := by rfl) :
    PI X (.Tuple elts kk tpos) (.Call (.Name "enumerate" p) [e] [] pos) (iEnumA X.K ta) := by
  refine ⟨fun pins s σ H R I h => ?_⟩
  refine Call_ (ld_blt I hg hm boot_enumerate (PyProof.Rows.callWith_type1 (thn (ha.run pos pins s σ H _ I h) fun us s1 ⟨vs, H1, I1, r1, q1⟩ => ?_) hs rfl))
  obtain ⟨a, xs, ex, hA, q⟩ := q1
  subst ex
  cases r1 with
  | cons r rr =>
    cases rr
    cases r
    have fpo : ∀ b, b ∈ [s1.heap.objs.size + 1, s1.heap.objs.size] → s1.heap.objs.size ≤ b := fun b hb => by
      have e' : b = s1.heap.objs.size + 1 ∨ b = s1.heap.objs.size := by simpa using hb
      omega
    rcases hA with hq | hq
    · obtain ⟨its, rv, p', hz⟩ := I1.list hq
      refine call_enumerate_list p'.isList fun h' he hit hsz hk => wpAny_pyIter_enum he ?_
      have I2 : Inv X pins σ H1 { s1 with heap := h' } := I1.kept (t' := s1.toks) hk
      exact ⟨s1.heap.objs.size + 1, [s1.heap.objs.size + 1, s1.heap.objs.size], _, _, H1, rfl, I2, turn_enum a (s1.heap.objs.size + 1) s1.heap.objs.size, ⟨⟨.none, he⟩, hit, Nat.succ_ne_self _⟩, fun b hb => I1.fpOk (fpo b hb) (I1.hok.fresh (fpo b hb)), q _ _ walk_enum fun H' z => z.seq hq⟩
    · obtain ⟨its, rv, p', hz⟩ := I1.tuple hq
      have p' : s1.heap.IsTuple a its.toArray := p'
      have al : a < s1.heap.objs.size := by obtain ⟨o, q, _⟩ := p'; exact Heap.lt_size q
      refine enum_tup p' fun h' he hit hsz hk => wpAny_pyIter_enum he ?_
      have I2 : Inv X pins σ H1 { s1 with heap := h' } := I1.kept (t' := s1.toks) hk
      exact ⟨s1.heap.objs.size + 1, [s1.heap.objs.size + 1, s1.heap.objs.size], _, _, H1, rfl, I2, turn_enumT a (s1.heap.objs.size + 1) s1.heap.objs.size, ⟨⟨.none, he⟩, hit, Nat.succ_ne_self _, Nat.ne_of_lt al, Nat.ne_of_gt (Nat.lt_succ_of_lt al)⟩, fun b hb => I1.fpOk (fpo b hb) (I1.hok.fresh (fpo b hb)), q _ _ walk_enumT fun H' z => sqt_same z hq⟩
end Ow

/-! xs[::-1] of a list, of a tuple -/
namespace Ow
open PySem PySem.Spec PyProof.Rows L2 HT
section
variable {prog : Program} {w : World} {A : Around} {E : Value → Shared → Prop} {s : Shared}
theorem adj_rev (n : Nat) : Builtin.Slice.sliceAdjust none none (-1) (n : Int) = ((n : Int) - 1, -1) := by
  unfold Builtin.Slice.sliceAdjust
  simp
theorem plc_rev (n : Nat) : Builtin.Slice.slicePlaces ((n : Int) - 1) (-1) (-1) = n := by
  unfold Builtin.Slice.slicePlaces
  by_cases h : n = 0
  · subst h
    simp
  · have g : ((n : Int) - 1) > -1 := by omega
    simp
    omega
theorem appl_rev {sl : Addr} {tk : Tok} {n : Nat} {Q : Int × Int × Nat → Shared → Prop} (hs : s.heap.IsSliceOf sl .none .none (.int (-1) tk)) (q : Q ((n : Int) - 1, -1, n) s) :
    wpAny (model prog w) A (Builtin.Slice.sliceApplied (.ref sl) (pure (n : Int))) Q E s := by
  obtain ⟨ob, e1, e2, e3⟩ := id hs
  unfold Builtin.Slice.sliceApplied Builtin.Slice.sliceFields
  refine wpAny_bind (wpAny_bind (wpAny_field e1 e3 (x := .none) rfl (wpAny_bind (wpAny_field e1 e3 (x := .none) rfl (wpAny_bind (wpAny_field e1 e3 (x := .int (-1) tk) rfl (wpAny_pure ?_)))))))
  refine wpAny_bind (slicePart_int ?_)
  show wpAny _ _ (if ((-1 : Int) == 0) = true then _ else _) _ _ s
  rw [if_neg (by decide)]
  refine wpAny_bind (slicePart_none (wpAny_bind (slicePart_none (wpAny_bind (wpAny_pure ?_)))))
  show wpAny _ _ (match Builtin.Slice.sliceAdjust none none (-1) (n : Int) with | (l, h) => pure (l, (-1 : Int), Builtin.Slice.slicePlaces l h (-1))) _ _ s
  rw [adj_rev]
  show wpAny _ _ (pure ((n : Int) - 1, (-1 : Int), Builtin.Slice.slicePlaces ((n : Int) - 1) (-1) (-1))) _ _ s
  rw [plc_rev]
  exact wpAny_pure q
theorem pick_rev (xs : Array Value) : ((List.range xs.size).filterMap fun (m : Nat) => xs[((xs.size : Int) - 1 + (m : Int) * -1).toNat]?).toArray = xs.toList.reverse.toArray := by
  refine congrArg List.toArray ?_
  have e : ∀ n, n ≤ xs.size → (List.range n).filterMap (fun (m : Nat) => xs[((xs.size : Int) - 1 + (m : Int) * -1).toNat]?) = xs.toList.reverse.take n := by
    intro n
    induction n with
    | zero => intro _; rfl
    | succ n ih =>
      intro hn
      have j : ((xs.size : Int) - 1 + (n : Int) * -1).toNat = xs.size - 1 - n := by omega
      have l2 : xs.size - 1 - n < xs.size := by omega
      have r : xs.toList.reverse[n]? = some xs[xs.size - 1 - n] := by
        rw [List.getElem?_reverse (by simp; omega)]
        simp [Array.getElem?_eq_getElem l2]
      have q : xs[((xs.size : Int) - 1 + (n : Int) * -1).toNat]? = some xs[xs.size - 1 - n] := by
        rw [j]
        exact Array.getElem?_eq_getElem l2
      rw [List.range_succ, List.filterMap_append, ih (by omega), List.take_add_one, r]
      simp only [List.filterMap_cons, q, List.filterMap_nil]
      rfl
  rw [e xs.size (Nat.le_refl _)]
  exact List.take_of_length_le (by simp)
theorem item_rev {t sl : Addr} {items : Array Value} {tk : Tok} {Q : Value → Shared → Prop} (ht : IsTup s.heap t items) (hs : s.heap.IsSliceOf sl .none .none (.int (-1) tk))
    (q : Q (.ref s.heap.objs.size) { s with heap := s.heap.push { cls := .type "tuple", data := .seq items.toList.reverse.toArray } }) (hz : items.size ≤ sizeLine) : wpAny (model prog w) A (getItem (.ref t) (.ref sl)) Q E s := by
  have zz : sizeOk (.seq items.toList.reverse.toArray) := by
    show items.toList.reverse.toArray.size ≤ sizeLine
    simpa using hz
  obtain ⟨ob, e1, e2, e3⟩ := id hs
  have ty : s.TypeIs (.ref sl) "slice" := ⟨ob, e1, e2⟩
  unfold getItem
  try with_reducible refine wpAny_holding ?_
  first | refine wpAny_bind (wpAny_pure ?_) | skip
  refine wpAny_bind (wpAny_sequenceKey ht.typeIs (by decide) ?_)
  refine wpAny_bind (wpAny_callSpecial?_slot (name := Str.ofString "__getitem__") ht.typeIs PyProof.Rows.slot_tuple_getitem (wpAny_call_entry PyProof.Rows.slot_tuple_getitem ht.typeIs entry_tuple_getitem ?_ (args_tuple_getitem _ _)))
  show wpAny _ _ (Builtin.Tuple.tupleItemsOf (.ref t) >>= _) _ _ s
  refine wpAny_bind (tupleItemsOf_ ht (wpAny_bind (wpAny_typeOf ty ?_)))
  rw [if_pos (by decide)]
  refine wpAny_bind (appl_rev hs ?_)
  have no : ¬ ((((items.size : Int) - 1) == 0 && (-1 : Int) == 1 && items.size == items.size) = true) := by simp
  show wpAny _ _ (if (((items.size : Int) - 1) == 0 && (-1 : Int) == 1 && items.size == items.size) = true then _ else _) _ _ s
  rw [if_neg no, pick_rev]
  first
    | exact wpAny_bind (m := Builtin.Tuple.tupleExact _) (wpAny_newObj_type (wpAny_pure ⟨_, rfl, wpAny_pure q⟩) zz)
    | exact wpAny_bind (m := Builtin.Tuple.tupleExact _) (wpAny_newObj_type (wpAny_bind (wpAny_pure (wpAny_pure ⟨_, rfl, wpAny_pure q⟩))) zz)
    | exact wpAny_bind (wpAny_bind (m := Builtin.Tuple.tupleExact _) (wpAny_newObj_type (wpAny_pure (wpAny_pure ⟨_, rfl, wpAny_pure q⟩)) zz))
end
/-- the items the other way round -/
def rRev (K : PySem.W.Frag) : V → Hp → VK → Prop := fun x H Q => ∃ a xs, x = .ref a ∧ ((SqL K H a xs ∧ ∀ p, H p = none → Q (.ref p) (upd H p (.lst xs.reverse))) ∨ (SqT K H a xs ∧ ∀ p, H p = none → Q (.ref p) (upd H p (.tup xs.reverse))))
def tRev (K : PySem.W.Frag) (te ts : TE) : TE := fun σ H Q => te σ H fun x H1 => ts σ H1 fun i H2 => i = .int (-1) ∧ rRev K x H2 Q
section
variable {X : Cx} {e st : Expr} {te ts : TE} {pos p2 : Pos}
theorem pe_rev (he : PE X e te) (hst : PE X st ts) : PE X (.Subscript e (.Slice none none (some st) p2) pos) (tRev X.K te ts) := by
  refine ⟨fun pins s σ H Q I h => ?_⟩
  refine Subscript_ (thn (he.run pins s σ H _ I h) fun v s1 ⟨x, H1, I1, rx, q1⟩ => ?_)
  refine wpAny_Slice ?_
  simp only [evalPart_none, evalPart_some]
  refine wpAny_pure (wpAny_pure ?_)
  refine thn (hst.run pins s1 σ H1 _ I1 q1) fun vs s2 ⟨i, H2, I2, ri, ei, a, xs, ex, q2⟩ => ?_
  subst ei ex
  obtain ⟨tk, rfl⟩ := ri
  obtain rfl : v = Value.ref a := rx
  have I3 : Inv X pins σ H2 { s2 with heap := s2.heap.push { cls := .type "slice", data := .fields #[.none, .none, .int (-1) tk] } } := I2.kept (t' := s2.toks) fun b ob q => Heap.get?_push_of_some _ q
  have hsl : (s2.heap.push { cls := .type "slice", data := .fields #[.none, .none, .int (-1) tk] }).IsSliceOf s2.heap.objs.size .none .none (.int (-1) tk) := Heap.IsSliceOf.new ..
  show wpAny (model X.prog X.w) X.A (subscriptTail e (.Slice none none (some st) p2) (.ref a) (.ref s2.heap.objs.size)) (EP X pins σ Q) X.xe { s2 with heap := s2.heap.push { cls := .type "slice", data := .fields #[.none, .none, .int (-1) tk] } }
  rcases q2 with ⟨hx, q⟩ | ⟨hx, q⟩
  · obtain ⟨its, rv, pl, hz⟩ := I3.list hx
    refine tail_any pl.isList.typeIs slot_list_getitem.lookup (wpAny_getItem_list_slice (hsz := by rw [List.size_toArray, ← rv.length]; exact hz) pl.isList hsl .none .none (.int (-1) tk) (by decide) ?_) (by with_unfolding_all rfl)
    rw [PySem.W.krv_pick]
    refine ⟨.ref _, _, I3.laid (t' := s2.toks) (o := .lst xs.reverse) (fun b ob q => Heap.get?_push_of_some _ q) (Nat.le_refl _) ?_, rfl, q _ (I3.hok.fresh (Nat.le_refl _))⟩
    exact ⟨by rw [List.length_reverse]; exact hz, _, _, rv.reverse, Heap.get?_push_size _ rfl⟩
  · obtain ⟨its, rv, ht, hz⟩ := I3.tuple hx
    refine tail_any ht.typeIs PyProof.Rows.slot_tuple_getitem.lookup (item_rev ht hsl ?_ (by rw [List.size_toArray, ← rv.length]; exact hz)) (by with_unfolding_all rfl)
    refine ⟨.ref _, _, I3.laid (t' := s2.toks) (o := .tup xs.reverse) (fun b ob q => Heap.get?_push_of_some _ q) (Nat.le_refl _) ?_, rfl, q _ (I3.hok.fresh (Nat.le_refl _))⟩
    exact ⟨by rw [List.length_reverse]; exact hz, _, rv.reverse, IsTup.new _ _⟩
end
end Ow

namespace K25
open PySem PySem.Spec PyProof.Rows L2
/-! ### the defs of the text -/
def top (i : Nat) : Stmt := PySem.Challenge.pw_pairlaws_k25_forms_of_terms.main.body.getD i (.Pass ⟨0, 0, 0, 0⟩)
abbrev sPartsBelow : Stmt := top 13
def dPartsBelow : He.DefD := ⟨("parts_below", none), "parts_below", "parts_below", defArgs (top 13), defBody (top 13), defScope (top 13), [], []⟩
abbrev sSortsTold : Stmt := top 14
def dSortsTold : He.DefD := ⟨("sorts_told", none), "sorts_told", "sorts_told", defArgs (top 14), defBody (top 14), defScope (top 14), [], []⟩
abbrev sBelow : Stmt := top 16
def dBelow : He.DefD := ⟨("_below", none), "_below", "_below", defArgs (top 16), defBody (top 16), defScope (top 16), [], []⟩
abbrev sPartsChecked : Stmt := top 17
def dPartsChecked : He.DefD := ⟨("_parts_checked", none), "_parts_checked", "_parts_checked", defArgs (top 17), defBody (top 17), defScope (top 17), [], []⟩
abbrev sPartsOf : Stmt := top 18
def dPartsOf : He.DefD := ⟨("parts_of", none), "parts_of", "parts_of", defArgs (top 18), defBody (top 18), defScope (top 18), [], []⟩
abbrev sHasNoneOf : Stmt := top 23
def dHasNoneOf : He.DefD := ⟨("_has_none_of", none), "_has_none_of", "_has_none_of", defArgs (top 23), defBody (top 23), defScope (top 23), [], []⟩
abbrev sIsFlat : Stmt := top 24
def dIsFlat : He.DefD := ⟨("is_flat", none), "is_flat", "is_flat", defArgs (top 24), defBody (top 24), defScope (top 24), [], []⟩
abbrev sIsKept : Stmt := top 25
def dIsKept : He.DefD := ⟨("is_kept", none), "is_kept", "is_kept", defArgs (top 25), defBody (top 25), defScope (top 25), [], []⟩
abbrev sIsShort : Stmt := top 26
def dIsShort : He.DefD := ⟨("is_short", none), "is_short", "is_short", defArgs (top 26), defBody (top 26), defScope (top 26), [], []⟩
abbrev sIsPlain : Stmt := top 27
def dIsPlain : He.DefD := ⟨("is_plain", none), "is_plain", "is_plain", defArgs (top 27), defBody (top 27), defScope (top 27), [], []⟩
abbrev sSize : Stmt := top 28
def dSize : He.DefD := ⟨("size", none), "size", "size", defArgs (top 28), defBody (top 28), defScope (top 28), [], []⟩
abbrev sWithoutDuplicates : Stmt := top 29
def dWithoutDuplicates : He.DefD := ⟨("without_duplicates", none), "without_duplicates", "without_duplicates", defArgs (top 29), defBody (top 29), defScope (top 29), [], []⟩
abbrev sLettersIn : Stmt := top 30
def dLettersIn : He.DefD := ⟨("letters_in", none), "letters_in", "letters_in", defArgs (top 30), defBody (top 30), defScope (top 30), [], []⟩
abbrev sSortsIn : Stmt := top 31
def dSortsIn : He.DefD := ⟨("sorts_in", none), "sorts_in", "sorts_in", defArgs (top 31), defBody (top 31), defScope (top 31), [], []⟩
abbrev sLedTerm : Stmt := top 32
def dLedTerm : He.DefD := ⟨("led_term", none), "led_term", "led_term", defArgs (top 32), defBody (top 32), defScope (top 32), [], []⟩
abbrev sIsWord : Stmt := top 36
def dIsWord : He.DefD := ⟨("is_word", none), "is_word", "is_word", defArgs (top 36), defBody (top 36), defScope (top 36), [], []⟩
abbrev sCheckNames : Stmt := top 38
def dCheckNames : He.DefD := ⟨("check_names", none), "check_names", "check_names", defArgs (top 38), defBody (top 38), defScope (top 38), [], []⟩
abbrev sCheckEnds : Stmt := top 40
def dCheckEnds : He.DefD := ⟨("_check_ends", none), "_check_ends", "_check_ends", defArgs (top 40), defBody (top 40), defScope (top 40), [], []⟩
abbrev sCheckTotals : Stmt := top 41
def dCheckTotals : He.DefD := ⟨("_check_totals", none), "_check_totals", "_check_totals", defArgs (top 41), defBody (top 41), defScope (top 41), [], []⟩
abbrev sStepOf : Stmt := top 42
def dStepOf : He.DefD := ⟨("_step_of", none), "_step_of", "_step_of", defArgs (top 42), defBody (top 42), defScope (top 42), [], []⟩
abbrev sCheckSteps : Stmt := top 43
def dCheckSteps : He.DefD := ⟨("_check_steps", none), "_check_steps", "_check_steps", defArgs (top 43), defBody (top 43), defScope (top 43), [], []⟩
abbrev sLawSource : Stmt := top 46
def dLawSource : He.DefD := ⟨("_law_source", none), "_law_source", "_law_source", defArgs (top 46), defBody (top 46), defScope (top 46), [], []⟩
abbrev sLawPick : Stmt := top 47
def dLawPick : He.DefD := ⟨("_law_pick", none), "_law_pick", "_law_pick", defArgs (top 47), defBody (top 47), defScope (top 47), [], []⟩
abbrev sLawNames : Stmt := top 48
def dLawNames : He.DefD := ⟨("_law_names", none), "_law_names", "_law_names", defArgs (top 48), defBody (top 48), defScope (top 48), [], []⟩
abbrev sLawFrame : Stmt := top 49
def dLawFrame : He.DefD := ⟨("_law_frame", none), "_law_frame", "_law_frame", defArgs (top 49), defBody (top 49), defScope (top 49), [], []⟩
abbrev sLawFramed : Stmt := top 50
def dLawFramed : He.DefD := ⟨("_law_framed", none), "_law_framed", "_law_framed", defArgs (top 50), defBody (top 50), defScope (top 50), [], []⟩
abbrev sLawLeaf : Stmt := top 51
def dLawLeaf : He.DefD := ⟨("_law_leaf", none), "_law_leaf", "_law_leaf", defArgs (top 51), defBody (top 51), defScope (top 51), [], []⟩
abbrev sLawFlat : Stmt := top 52
def dLawFlat : He.DefD := ⟨("_law_flat", none), "_law_flat", "_law_flat", defArgs (top 52), defBody (top 52), defScope (top 52), [], []⟩
abbrev sLawTerm : Stmt := top 53
def dLawTerm : He.DefD := ⟨("_law_term", none), "_law_term", "_law_term", defArgs (top 53), defBody (top 53), defScope (top 53), [], []⟩
abbrev sLawSomeEnds : Stmt := top 54
def dLawSomeEnds : He.DefD := ⟨("_law_some_ends", none), "_law_some_ends", "_law_some_ends", defArgs (top 54), defBody (top 54), defScope (top 54), [], []⟩
abbrev sLawParts : Stmt := top 55
def dLawParts : He.DefD := ⟨("_law_parts", none), "_law_parts", "_law_parts", defArgs (top 55), defBody (top 55), defScope (top 55), [], []⟩
abbrev sLawAllParts : Stmt := top 56
def dLawAllParts : He.DefD := ⟨("_law_all_parts", none), "_law_all_parts", "_law_all_parts", defArgs (top 56), defBody (top 56), defScope (top 56), [], []⟩
abbrev sLawHas : Stmt := top 57
def dLawHas : He.DefD := ⟨("_law_has", none), "_law_has", "_law_has", defArgs (top 57), defBody (top 57), defScope (top 57), [], []⟩
abbrev sLawOnce : Stmt := top 58
def dLawOnce : He.DefD := ⟨("_law_once", none), "_law_once", "_law_once", defArgs (top 58), defBody (top 58), defScope (top 58), [], []⟩
abbrev sLawLed : Stmt := top 59
def dLawLed : He.DefD := ⟨("_law_led", none), "_law_led", "_law_led", defArgs (top 59), defBody (top 59), defScope (top 59), [], []⟩
abbrev sLaw : Stmt := top 60
def dLaw : He.DefD := ⟨("law", none), "law", "law", defArgs (top 60), defBody (top 60), defScope (top 60), [], []⟩
abbrev sFrame_Init : Stmt := inClass (top 44) 0
def dFrame_Init : He.DefD := ⟨("Frame", some "__init__"), "__init__", "Frame.__init__", defArgs sFrame_Init, defBody sFrame_Init, defScope sFrame_Init, [], []⟩
def fn0 : List He.DefD := [dPartsBelow, dSortsTold, dBelow, dPartsChecked, dPartsOf, dHasNoneOf, dIsFlat, dIsKept, dIsShort, dIsPlain]
def fn1 : List He.DefD := [dSize, dWithoutDuplicates, dLettersIn, dSortsIn, dLedTerm, dIsWord, dCheckNames, dCheckEnds, dCheckTotals, dStepOf]
def fn2 : List He.DefD := [dCheckSteps, dLawSource, dLawPick, dLawNames, dLawFrame, dLawFramed, dLawLeaf, dLawFlat, dLawTerm, dLawSomeEnds]
def fn3 : List He.DefD := [dLawParts, dLawAllParts, dLawHas, dLawOnce, dLawLed, dLaw, dFrame_Init]
def fn : List He.DefD := fn0 ++ (fn1 ++ (fn2 ++ (fn3)))
def fa0 : List He.Fa := [.glo "Frame", .glo "parts_below", .glo "sorts_told", .glo "_below", .glo "_parts_checked", .glo "parts_of", .glo "_has_none_of", .glo "is_flat", .glo "is_kept", .glo "is_short"]
def fa1 : List He.Fa := [.glo "is_plain", .glo "size", .glo "without_duplicates", .glo "letters_in", .glo "sorts_in", .glo "led_term", .glo "is_word", .glo "check_names", .glo "_check_ends", .glo "_check_totals"]
def fa2 : List He.Fa := [.glo "_step_of", .glo "_check_steps", .glo "_law_source", .glo "_law_pick", .glo "_law_names", .glo "_law_frame", .glo "_law_framed", .glo "_law_leaf", .glo "_law_flat", .glo "_law_term"]
def fa3 : List He.Fa := [.glo "_law_some_ends", .glo "_law_parts", .glo "_law_all_parts", .glo "_law_has", .glo "_law_once", .glo "_law_led", .glo "law", .glo "_NOT_FLAT", .glo "_NOT_SHORT", .glo "_NOT_PLAIN"]
def fa4 : List He.Fa := [.glo "_PARTS_BELOW", .glo "_SORTS_TOLD", .free "abs", .free "int", .free "len", .free "range", .free "enumerate", .free "isinstance", .free "str", .free "tuple"]
def fa5 : List He.Fa := [.free "list", .free "set", .free "all", .free "any", .free "dict", .free "repr", .cls "Frame", .mkr "Frame", .str "_LETTERS" "abcdefghijklmnopqrstuvwxyz", .str "_SIGNS" "abcdefghijklmnopqrstuvwxyz0123456789"]
def fa6 : List He.Fa := [.noat "Frame" "_sorts", .noat "Frame" "_letters", .noat "Frame" "_totals", .noat "Frame" "_ends"]
def fa : List He.Fa := fa0 ++ (fa1 ++ (fa2 ++ (fa3 ++ (fa4 ++ (fa5 ++ (fa6))))))
def nm0 : List PySem.Str := ["_wall", "PairError", "BadName", "TwiceTold", "BadFrame", "ComesRound", "BadTerm", "NameMissing", "UnknownName", "parts_below"]
def nm1 : List PySem.Str := ["sorts_told", "has_form", "_below", "_parts_checked", "parts_of", "_has_none_of", "is_flat", "is_kept", "is_short", "is_plain"]
def nm2 : List PySem.Str := ["size", "without_duplicates", "letters_in", "sorts_in", "led_term", "is_word", "first_again", "check_names", "_check_ends", "_check_totals"]
def nm3 : List PySem.Str := ["_step_of", "_check_steps", "Frame", "_law_source", "_law_pick", "_law_names", "_law_frame", "_law_framed", "_law_leaf", "_law_flat"]
def nm4 : List PySem.Str := ["_law_term", "_law_some_ends", "_law_parts", "_law_all_parts", "_law_has", "_law_once", "_law_led", "_PARTS_BELOW", "_SORTS_TOLD", "_NOT_FLAT"]
def nm5 : List PySem.Str := ["_NOT_SHORT", "_NOT_PLAIN", "_LETTERS", "_SIGNS"]
def nm : List PySem.Str := nm0 ++ (nm1 ++ (nm2 ++ (nm3 ++ (nm4 ++ (nm5)))))
def CFrame (K : PySem.W.Frag) : Addr := He.ga K "Frame"
def tNOTFLAT : List He.Dv := [.str "then", .str "closed", .str "walked"]
def tNOTSHORT : List He.Dv := [.str "closed", .str "walked"]
def tNOTPLAIN : List He.Dv := [.str "rest", .str "other", .str "closed", .str "walked"]
def kPARTSBELOW0 : List PySem.Str := ["letter", "same", "other", "none", "all", "rest", "turned", "joined", "cut", "then"]
def kPARTSBELOW1 : List PySem.Str := ["closed", "walked"]
def kPARTSBELOW : List PySem.Str := kPARTSBELOW0 ++ (kPARTSBELOW1)
def vPARTSBELOW0 : List (PySem.Str × He.Dv) := [("letter", .int 0), ("same", .int 0), ("other", .int 0), ("none", .int 0), ("all", .int 0), ("rest", .int 1), ("turned", .int 1), ("joined", .int 2), ("cut", .int 2), ("then", .int 2)]
def vPARTSBELOW1 : List (PySem.Str × He.Dv) := [("closed", .int 1), ("walked", .int 1)]
def vPARTSBELOW : List (PySem.Str × He.Dv) := vPARTSBELOW0 ++ (vPARTSBELOW1)
def kSORTSTOLD0 : List PySem.Str := ["same", "other", "none", "all"]
def kSORTSTOLD : List PySem.Str := kSORTSTOLD0
def vSORTSTOLD0 : List (PySem.Str × He.Dv) := [("same", .int 1), ("other", .int 1), ("none", .int 2), ("all", .int 2)]
def vSORTSTOLD : List (PySem.Str × He.Dv) := vSORTSTOLD0
/-- what else is asked of a class -/
def ocB (K : PySem.W.Frag) : Bool := He.eqO (PySem.W.specialIn K (.builtin "object.__class__") "__get__") (some (some (.builtin "getset_descriptor.__get__"))) && decide (PySem.W.takesIn K (.builtin "object.__class__") = some true)
def icB (K : PySem.W.Frag) (C : Addr) : Bool := He.eqO (PySem.W.findIn K (.ref C) "__class__") (some (some (.builtin "object.__class__"))) && decide (PySem.W.mroIn K C (.type "object") = some true)
def exB (K : PySem.W.Frag) : Bool := (decide (PySem.W.kitOne K (.type "str") (.type "str") = some true)) && ((He.tupB K "_NOT_FLAT" tNOTFLAT) && ((He.tupB K "_NOT_SHORT" tNOTSHORT) && ((He.tupB K "_NOT_PLAIN" tNOTPLAIN) && ((He.valsB K (He.ga K "_PARTS_BELOW") vPARTSBELOW) && ((He.valsB K (He.ga K "_SORTS_TOLD") vSORTSTOLD) && (true))))))
def tabs : List He.Tab := [(fun K => He.ga K "_PARTS_BELOW", kPARTSBELOW), (fun K => He.ga K "_SORTS_TOLD", kSORTSTOLD)]
/-! ### the head's Hook: facts, tables, and one Bool more -/
abbrev AlY : Type := He.AlT × Bool
def obY (n : Nat) (g : Addr → Option Obj) : AlY := (He.obsTG n fa fn tabs g, exB (He.frG g (He.asD g n)))
def hookY (n : Nat) : PySem.W.Hook where
  α := AlY
  obs := fun s => obY n s.heap.get?
  val := fun w => (He.valT fn tabs w, true)
  says := fun w h => ∃ K : PySem.W.Frag, K.In h ∧ He.SaysT fa fn tabs w K ∧ exB K = true
  of := fun _ _ e => ⟨_, He.frG_in, congrArg (fun z : AlY => z.1) e, congrArg (fun z : AlY => z.2) e⟩
  keeps := fun _ _ _ ⟨K, hK, c⟩ k => ⟨K, PySem.W.Frag.In.keeps hK k, c⟩
theorem obY_eq {n : Nat} {g : Addr → Option Obj} {s : Shared} (h : ∀ a, g a = s.heap.get? a) : obY n g = (hookY n).obs s := by
  have e : g = s.heap.get? := funext h
  rw [e] <;> rfl
abbrev R : PySem.W.OpenRow := PySem.W.OpenLaw.row PySem.Challenge.rw_pairlaws_k25_forms_of_terms
abbrev hk : PySem.W.Hook := hookY 4
def ob (s : PySem.W.SharedT) : AlY := obY 4 (HandSHeadRun.getT s)
theorem ob_eq (s : PySem.W.SharedT) : ob s = hk.obs s.abs := obY_eq (HandSHeadRun.getT_eq s)
/-! ### what the head has told, in hand -/
structure Fx (w : World) (K : PySem.W.Frag) (mg : Str → Option Value) : Prop where
  g : ∀ (i : Nat) (x : Str), fa[i]? = some (He.Fa.glo x) → mg x = some (.ref (He.ga K x))
  f : ∀ (i : Nat) (x : Str), fa[i]? = some (He.Fa.free x) → mg x = none
  sLETTERS : ∃ t, mg "_LETTERS" = some (.str "abcdefghijklmnopqrstuvwxyz" t)
  sSIGNS : ∃ t, mg "_SIGNS" = some (.str "abcdefghijklmnopqrstuvwxyz0123456789" t)
  t : He.SaysT fa fn tabs w K
  ex : exB K = true
theorem Fx.of {w : World} {K : PySem.W.Frag} {mg : Str → Option Value} {h : Heap} (X : K.In h) (G : h.Ns mainGlobals mg) (c : He.SaysT fa fn tabs w K) (e : exB K = true) : Fx w K mg :=
  ⟨fun i _ z => He.glo_ok X G (c.d.fact i z), fun i _ z => He.free_ok X G (c.d.fact i z), He.str_ok X G (c.d.fact 58 (f := .str "_LETTERS" "abcdefghijklmnopqrstuvwxyz") rfl), He.str_ok X G (c.d.fact 59 (f := .str "_SIGNS" "abcdefghijklmnopqrstuvwxyz0123456789") rfl), c, e⟩
theorem an {a b : Bool} (h : (a && b) = true) : a = true ∧ b = true := Bool.and_eq_true_iff.mp h
section
variable {w : World} {K : PySem.W.Frag} {mg : Str → Option Value}
theorem Fx.d (Y : Fx w K mg) : He.SaysD fa fn K := Y.t.d
theorem Fx.gFrame (Y : Fx w K mg) : mg "Frame" = some (.ref (He.ga K "Frame")) := Y.g 0 _ rfl
theorem Fx.gPartsBelow (Y : Fx w K mg) : mg "parts_below" = some (.ref (He.ga K "parts_below")) := Y.g 1 _ rfl
theorem Fx.gSortsTold (Y : Fx w K mg) : mg "sorts_told" = some (.ref (He.ga K "sorts_told")) := Y.g 2 _ rfl
theorem Fx.gBelow (Y : Fx w K mg) : mg "_below" = some (.ref (He.ga K "_below")) := Y.g 3 _ rfl
theorem Fx.gPartsChecked (Y : Fx w K mg) : mg "_parts_checked" = some (.ref (He.ga K "_parts_checked")) := Y.g 4 _ rfl
theorem Fx.gPartsOf (Y : Fx w K mg) : mg "parts_of" = some (.ref (He.ga K "parts_of")) := Y.g 5 _ rfl
theorem Fx.gHasNoneOf (Y : Fx w K mg) : mg "_has_none_of" = some (.ref (He.ga K "_has_none_of")) := Y.g 6 _ rfl
theorem Fx.gIsFlat (Y : Fx w K mg) : mg "is_flat" = some (.ref (He.ga K "is_flat")) := Y.g 7 _ rfl
theorem Fx.gIsKept (Y : Fx w K mg) : mg "is_kept" = some (.ref (He.ga K "is_kept")) := Y.g 8 _ rfl
theorem Fx.gIsShort (Y : Fx w K mg) : mg "is_short" = some (.ref (He.ga K "is_short")) := Y.g 9 _ rfl
theorem Fx.gIsPlain (Y : Fx w K mg) : mg "is_plain" = some (.ref (He.ga K "is_plain")) := Y.g 10 _ rfl
theorem Fx.gSize (Y : Fx w K mg) : mg "size" = some (.ref (He.ga K "size")) := Y.g 11 _ rfl
theorem Fx.gWithoutDuplicates (Y : Fx w K mg) : mg "without_duplicates" = some (.ref (He.ga K "without_duplicates")) := Y.g 12 _ rfl
theorem Fx.gLettersIn (Y : Fx w K mg) : mg "letters_in" = some (.ref (He.ga K "letters_in")) := Y.g 13 _ rfl
theorem Fx.gSortsIn (Y : Fx w K mg) : mg "sorts_in" = some (.ref (He.ga K "sorts_in")) := Y.g 14 _ rfl
theorem Fx.gLedTerm (Y : Fx w K mg) : mg "led_term" = some (.ref (He.ga K "led_term")) := Y.g 15 _ rfl
theorem Fx.gIsWord (Y : Fx w K mg) : mg "is_word" = some (.ref (He.ga K "is_word")) := Y.g 16 _ rfl
theorem Fx.gCheckNames (Y : Fx w K mg) : mg "check_names" = some (.ref (He.ga K "check_names")) := Y.g 17 _ rfl
theorem Fx.gCheckEnds (Y : Fx w K mg) : mg "_check_ends" = some (.ref (He.ga K "_check_ends")) := Y.g 18 _ rfl
theorem Fx.gCheckTotals (Y : Fx w K mg) : mg "_check_totals" = some (.ref (He.ga K "_check_totals")) := Y.g 19 _ rfl
theorem Fx.gStepOf (Y : Fx w K mg) : mg "_step_of" = some (.ref (He.ga K "_step_of")) := Y.g 20 _ rfl
theorem Fx.gCheckSteps (Y : Fx w K mg) : mg "_check_steps" = some (.ref (He.ga K "_check_steps")) := Y.g 21 _ rfl
theorem Fx.gLawSource (Y : Fx w K mg) : mg "_law_source" = some (.ref (He.ga K "_law_source")) := Y.g 22 _ rfl
theorem Fx.gLawPick (Y : Fx w K mg) : mg "_law_pick" = some (.ref (He.ga K "_law_pick")) := Y.g 23 _ rfl
theorem Fx.gLawNames (Y : Fx w K mg) : mg "_law_names" = some (.ref (He.ga K "_law_names")) := Y.g 24 _ rfl
theorem Fx.gLawFrame (Y : Fx w K mg) : mg "_law_frame" = some (.ref (He.ga K "_law_frame")) := Y.g 25 _ rfl
theorem Fx.gLawFramed (Y : Fx w K mg) : mg "_law_framed" = some (.ref (He.ga K "_law_framed")) := Y.g 26 _ rfl
theorem Fx.gLawLeaf (Y : Fx w K mg) : mg "_law_leaf" = some (.ref (He.ga K "_law_leaf")) := Y.g 27 _ rfl
theorem Fx.gLawFlat (Y : Fx w K mg) : mg "_law_flat" = some (.ref (He.ga K "_law_flat")) := Y.g 28 _ rfl
theorem Fx.gLawTerm (Y : Fx w K mg) : mg "_law_term" = some (.ref (He.ga K "_law_term")) := Y.g 29 _ rfl
theorem Fx.gLawSomeEnds (Y : Fx w K mg) : mg "_law_some_ends" = some (.ref (He.ga K "_law_some_ends")) := Y.g 30 _ rfl
theorem Fx.gLawParts (Y : Fx w K mg) : mg "_law_parts" = some (.ref (He.ga K "_law_parts")) := Y.g 31 _ rfl
theorem Fx.gLawAllParts (Y : Fx w K mg) : mg "_law_all_parts" = some (.ref (He.ga K "_law_all_parts")) := Y.g 32 _ rfl
theorem Fx.gLawHas (Y : Fx w K mg) : mg "_law_has" = some (.ref (He.ga K "_law_has")) := Y.g 33 _ rfl
theorem Fx.gLawOnce (Y : Fx w K mg) : mg "_law_once" = some (.ref (He.ga K "_law_once")) := Y.g 34 _ rfl
theorem Fx.gLawLed (Y : Fx w K mg) : mg "_law_led" = some (.ref (He.ga K "_law_led")) := Y.g 35 _ rfl
theorem Fx.gLaw (Y : Fx w K mg) : mg "law" = some (.ref (He.ga K "law")) := Y.g 36 _ rfl
theorem Fx.gNOTFLAT (Y : Fx w K mg) : mg "_NOT_FLAT" = some (.ref (He.ga K "_NOT_FLAT")) := Y.g 37 _ rfl
theorem Fx.gNOTSHORT (Y : Fx w K mg) : mg "_NOT_SHORT" = some (.ref (He.ga K "_NOT_SHORT")) := Y.g 38 _ rfl
theorem Fx.gNOTPLAIN (Y : Fx w K mg) : mg "_NOT_PLAIN" = some (.ref (He.ga K "_NOT_PLAIN")) := Y.g 39 _ rfl
theorem Fx.gPARTSBELOW (Y : Fx w K mg) : mg "_PARTS_BELOW" = some (.ref (He.ga K "_PARTS_BELOW")) := Y.g 40 _ rfl
theorem Fx.gSORTSTOLD (Y : Fx w K mg) : mg "_SORTS_TOLD" = some (.ref (He.ga K "_SORTS_TOLD")) := Y.g 41 _ rfl
theorem Fx.bAbs (Y : Fx w K mg) : mg "abs" = none := Y.f 42 _ rfl
theorem Fx.bInt (Y : Fx w K mg) : mg "int" = none := Y.f 43 _ rfl
theorem Fx.bLen (Y : Fx w K mg) : mg "len" = none := Y.f 44 _ rfl
theorem Fx.bRange (Y : Fx w K mg) : mg "range" = none := Y.f 45 _ rfl
theorem Fx.bEnumerate (Y : Fx w K mg) : mg "enumerate" = none := Y.f 46 _ rfl
theorem Fx.bIsinstance (Y : Fx w K mg) : mg "isinstance" = none := Y.f 47 _ rfl
theorem Fx.bStr (Y : Fx w K mg) : mg "str" = none := Y.f 48 _ rfl
theorem Fx.bTuple (Y : Fx w K mg) : mg "tuple" = none := Y.f 49 _ rfl
theorem Fx.bList (Y : Fx w K mg) : mg "list" = none := Y.f 50 _ rfl
theorem Fx.bSet (Y : Fx w K mg) : mg "set" = none := Y.f 51 _ rfl
theorem Fx.bAll (Y : Fx w K mg) : mg "all" = none := Y.f 52 _ rfl
theorem Fx.bAny (Y : Fx w K mg) : mg "any" = none := Y.f 53 _ rfl
theorem Fx.bDict (Y : Fx w K mg) : mg "dict" = none := Y.f 54 _ rfl
theorem Fx.bRepr (Y : Fx w K mg) : mg "repr" = none := Y.f 55 _ rfl
theorem Fx.dPartsBelow (Y : Fx w K mg) : ∃ fd, FunD K "parts_below" "parts_below" (defArgs sPartsBelow) (defBody sPartsBelow) (defScope sPartsBelow) [] [] (He.ga K "parts_below") fd := Y.d.def_ 0 (d := K25.dPartsBelow) rfl
theorem Fx.dSortsTold (Y : Fx w K mg) : ∃ fd, FunD K "sorts_told" "sorts_told" (defArgs sSortsTold) (defBody sSortsTold) (defScope sSortsTold) [] [] (He.ga K "sorts_told") fd := Y.d.def_ 1 (d := K25.dSortsTold) rfl
theorem Fx.dBelow (Y : Fx w K mg) : ∃ fd, FunD K "_below" "_below" (defArgs sBelow) (defBody sBelow) (defScope sBelow) [] [] (He.ga K "_below") fd := Y.d.def_ 2 (d := K25.dBelow) rfl
theorem Fx.dPartsChecked (Y : Fx w K mg) : ∃ fd, FunD K "_parts_checked" "_parts_checked" (defArgs sPartsChecked) (defBody sPartsChecked) (defScope sPartsChecked) [] [] (He.ga K "_parts_checked") fd := Y.d.def_ 3 (d := K25.dPartsChecked) rfl
theorem Fx.dPartsOf (Y : Fx w K mg) : ∃ fd, FunD K "parts_of" "parts_of" (defArgs sPartsOf) (defBody sPartsOf) (defScope sPartsOf) [] [] (He.ga K "parts_of") fd := Y.d.def_ 4 (d := K25.dPartsOf) rfl
theorem Fx.dHasNoneOf (Y : Fx w K mg) : ∃ fd, FunD K "_has_none_of" "_has_none_of" (defArgs sHasNoneOf) (defBody sHasNoneOf) (defScope sHasNoneOf) [] [] (He.ga K "_has_none_of") fd := Y.d.def_ 5 (d := K25.dHasNoneOf) rfl
theorem Fx.dIsFlat (Y : Fx w K mg) : ∃ fd, FunD K "is_flat" "is_flat" (defArgs sIsFlat) (defBody sIsFlat) (defScope sIsFlat) [] [] (He.ga K "is_flat") fd := Y.d.def_ 6 (d := K25.dIsFlat) rfl
theorem Fx.dIsKept (Y : Fx w K mg) : ∃ fd, FunD K "is_kept" "is_kept" (defArgs sIsKept) (defBody sIsKept) (defScope sIsKept) [] [] (He.ga K "is_kept") fd := Y.d.def_ 7 (d := K25.dIsKept) rfl
theorem Fx.dIsShort (Y : Fx w K mg) : ∃ fd, FunD K "is_short" "is_short" (defArgs sIsShort) (defBody sIsShort) (defScope sIsShort) [] [] (He.ga K "is_short") fd := Y.d.def_ 8 (d := K25.dIsShort) rfl
theorem Fx.dIsPlain (Y : Fx w K mg) : ∃ fd, FunD K "is_plain" "is_plain" (defArgs sIsPlain) (defBody sIsPlain) (defScope sIsPlain) [] [] (He.ga K "is_plain") fd := Y.d.def_ 9 (d := K25.dIsPlain) rfl
theorem Fx.dSize (Y : Fx w K mg) : ∃ fd, FunD K "size" "size" (defArgs sSize) (defBody sSize) (defScope sSize) [] [] (He.ga K "size") fd := Y.d.def_ 10 (d := K25.dSize) rfl
theorem Fx.dWithoutDuplicates (Y : Fx w K mg) : ∃ fd, FunD K "without_duplicates" "without_duplicates" (defArgs sWithoutDuplicates) (defBody sWithoutDuplicates) (defScope sWithoutDuplicates) [] [] (He.ga K "without_duplicates") fd := Y.d.def_ 11 (d := K25.dWithoutDuplicates) rfl
theorem Fx.dLettersIn (Y : Fx w K mg) : ∃ fd, FunD K "letters_in" "letters_in" (defArgs sLettersIn) (defBody sLettersIn) (defScope sLettersIn) [] [] (He.ga K "letters_in") fd := Y.d.def_ 12 (d := K25.dLettersIn) rfl
theorem Fx.dSortsIn (Y : Fx w K mg) : ∃ fd, FunD K "sorts_in" "sorts_in" (defArgs sSortsIn) (defBody sSortsIn) (defScope sSortsIn) [] [] (He.ga K "sorts_in") fd := Y.d.def_ 13 (d := K25.dSortsIn) rfl
theorem Fx.dLedTerm (Y : Fx w K mg) : ∃ fd, FunD K "led_term" "led_term" (defArgs sLedTerm) (defBody sLedTerm) (defScope sLedTerm) [] [] (He.ga K "led_term") fd := Y.d.def_ 14 (d := K25.dLedTerm) rfl
theorem Fx.dIsWord (Y : Fx w K mg) : ∃ fd, FunD K "is_word" "is_word" (defArgs sIsWord) (defBody sIsWord) (defScope sIsWord) [] [] (He.ga K "is_word") fd := Y.d.def_ 15 (d := K25.dIsWord) rfl
theorem Fx.dCheckNames (Y : Fx w K mg) : ∃ fd, FunD K "check_names" "check_names" (defArgs sCheckNames) (defBody sCheckNames) (defScope sCheckNames) [] [] (He.ga K "check_names") fd := Y.d.def_ 16 (d := K25.dCheckNames) rfl
theorem Fx.dCheckEnds (Y : Fx w K mg) : ∃ fd, FunD K "_check_ends" "_check_ends" (defArgs sCheckEnds) (defBody sCheckEnds) (defScope sCheckEnds) [] [] (He.ga K "_check_ends") fd := Y.d.def_ 17 (d := K25.dCheckEnds) rfl
theorem Fx.dCheckTotals (Y : Fx w K mg) : ∃ fd, FunD K "_check_totals" "_check_totals" (defArgs sCheckTotals) (defBody sCheckTotals) (defScope sCheckTotals) [] [] (He.ga K "_check_totals") fd := Y.d.def_ 18 (d := K25.dCheckTotals) rfl
theorem Fx.dStepOf (Y : Fx w K mg) : ∃ fd, FunD K "_step_of" "_step_of" (defArgs sStepOf) (defBody sStepOf) (defScope sStepOf) [] [] (He.ga K "_step_of") fd := Y.d.def_ 19 (d := K25.dStepOf) rfl
theorem Fx.dCheckSteps (Y : Fx w K mg) : ∃ fd, FunD K "_check_steps" "_check_steps" (defArgs sCheckSteps) (defBody sCheckSteps) (defScope sCheckSteps) [] [] (He.ga K "_check_steps") fd := Y.d.def_ 20 (d := K25.dCheckSteps) rfl
theorem Fx.dLawSource (Y : Fx w K mg) : ∃ fd, FunD K "_law_source" "_law_source" (defArgs sLawSource) (defBody sLawSource) (defScope sLawSource) [] [] (He.ga K "_law_source") fd := Y.d.def_ 21 (d := K25.dLawSource) rfl
theorem Fx.dLawPick (Y : Fx w K mg) : ∃ fd, FunD K "_law_pick" "_law_pick" (defArgs sLawPick) (defBody sLawPick) (defScope sLawPick) [] [] (He.ga K "_law_pick") fd := Y.d.def_ 22 (d := K25.dLawPick) rfl
theorem Fx.dLawNames (Y : Fx w K mg) : ∃ fd, FunD K "_law_names" "_law_names" (defArgs sLawNames) (defBody sLawNames) (defScope sLawNames) [] [] (He.ga K "_law_names") fd := Y.d.def_ 23 (d := K25.dLawNames) rfl
theorem Fx.dLawFrame (Y : Fx w K mg) : ∃ fd, FunD K "_law_frame" "_law_frame" (defArgs sLawFrame) (defBody sLawFrame) (defScope sLawFrame) [] [] (He.ga K "_law_frame") fd := Y.d.def_ 24 (d := K25.dLawFrame) rfl
theorem Fx.dLawFramed (Y : Fx w K mg) : ∃ fd, FunD K "_law_framed" "_law_framed" (defArgs sLawFramed) (defBody sLawFramed) (defScope sLawFramed) [] [] (He.ga K "_law_framed") fd := Y.d.def_ 25 (d := K25.dLawFramed) rfl
theorem Fx.dLawLeaf (Y : Fx w K mg) : ∃ fd, FunD K "_law_leaf" "_law_leaf" (defArgs sLawLeaf) (defBody sLawLeaf) (defScope sLawLeaf) [] [] (He.ga K "_law_leaf") fd := Y.d.def_ 26 (d := K25.dLawLeaf) rfl
theorem Fx.dLawFlat (Y : Fx w K mg) : ∃ fd, FunD K "_law_flat" "_law_flat" (defArgs sLawFlat) (defBody sLawFlat) (defScope sLawFlat) [] [] (He.ga K "_law_flat") fd := Y.d.def_ 27 (d := K25.dLawFlat) rfl
theorem Fx.dLawTerm (Y : Fx w K mg) : ∃ fd, FunD K "_law_term" "_law_term" (defArgs sLawTerm) (defBody sLawTerm) (defScope sLawTerm) [] [] (He.ga K "_law_term") fd := Y.d.def_ 28 (d := K25.dLawTerm) rfl
theorem Fx.dLawSomeEnds (Y : Fx w K mg) : ∃ fd, FunD K "_law_some_ends" "_law_some_ends" (defArgs sLawSomeEnds) (defBody sLawSomeEnds) (defScope sLawSomeEnds) [] [] (He.ga K "_law_some_ends") fd := Y.d.def_ 29 (d := K25.dLawSomeEnds) rfl
theorem Fx.dLawParts (Y : Fx w K mg) : ∃ fd, FunD K "_law_parts" "_law_parts" (defArgs sLawParts) (defBody sLawParts) (defScope sLawParts) [] [] (He.ga K "_law_parts") fd := Y.d.def_ 30 (d := K25.dLawParts) rfl
theorem Fx.dLawAllParts (Y : Fx w K mg) : ∃ fd, FunD K "_law_all_parts" "_law_all_parts" (defArgs sLawAllParts) (defBody sLawAllParts) (defScope sLawAllParts) [] [] (He.ga K "_law_all_parts") fd := Y.d.def_ 31 (d := K25.dLawAllParts) rfl
theorem Fx.dLawHas (Y : Fx w K mg) : ∃ fd, FunD K "_law_has" "_law_has" (defArgs sLawHas) (defBody sLawHas) (defScope sLawHas) [] [] (He.ga K "_law_has") fd := Y.d.def_ 32 (d := K25.dLawHas) rfl
theorem Fx.dLawOnce (Y : Fx w K mg) : ∃ fd, FunD K "_law_once" "_law_once" (defArgs sLawOnce) (defBody sLawOnce) (defScope sLawOnce) [] [] (He.ga K "_law_once") fd := Y.d.def_ 33 (d := K25.dLawOnce) rfl
theorem Fx.dLawLed (Y : Fx w K mg) : ∃ fd, FunD K "_law_led" "_law_led" (defArgs sLawLed) (defBody sLawLed) (defScope sLawLed) [] [] (He.ga K "_law_led") fd := Y.d.def_ 34 (d := K25.dLawLed) rfl
theorem Fx.dLaw (Y : Fx w K mg) : ∃ fd, FunD K "law" "law" (defArgs sLaw) (defBody sLaw) (defScope sLaw) [] [] (He.ga K "law") fd := Y.d.def_ 35 (d := K25.dLaw) rfl
theorem Fx.cFrame (Y : Fx w K mg) : Cls K (CFrame K) := He.cls_ok (Y.d.fact 56 (f := .cls "Frame") rfl)
theorem Fx.mFrame (Y : Fx w K mg) : Mk K (CFrame K) (He.ma K (CFrame K) "__init__") := He.mkr_ok (Y.d.fact 57 (f := .mkr "Frame") rfl)
theorem Fx.dFrame_Init (Y : Fx w K mg) : ∃ fd, FunD K "__init__" "Frame.__init__" (defArgs sFrame_Init) (defBody sFrame_Init) (defScope sFrame_Init) [] [] (He.ma K (CFrame K) "__init__") fd := Y.d.def_ 36 (d := K25.dFrame_Init) rfl
theorem Fx.nFrameSorts (Y : Fx w K mg) : NoAttr K (CFrame K) "_sorts" := He.noat_ok (Y.d.fact 60 (f := .noat "Frame" "_sorts") rfl)
theorem Fx.nFrameLetters (Y : Fx w K mg) : NoAttr K (CFrame K) "_letters" := He.noat_ok (Y.d.fact 61 (f := .noat "Frame" "_letters") rfl)
theorem Fx.nFrameTotals (Y : Fx w K mg) : NoAttr K (CFrame K) "_totals" := He.noat_ok (Y.d.fact 62 (f := .noat "Frame" "_totals") rfl)
theorem Fx.nFrameEnds (Y : Fx w K mg) : NoAttr K (CFrame K) "_ends" := He.noat_ok (Y.d.fact 63 (f := .noat "Frame" "_ends") rfl)
theorem Fx.x0 (Y : Fx w K mg) : (decide (PySem.W.kitOne K (.type "str") (.type "str") = some true)) = true := (an Y.ex).1
theorem Fx.x1 (Y : Fx w K mg) : (He.tupB K "_NOT_FLAT" tNOTFLAT) = true := (an (an Y.ex).2).1
theorem Fx.x2 (Y : Fx w K mg) : (He.tupB K "_NOT_SHORT" tNOTSHORT) = true := (an (an (an Y.ex).2).2).1
theorem Fx.x3 (Y : Fx w K mg) : (He.tupB K "_NOT_PLAIN" tNOTPLAIN) = true := (an (an (an (an Y.ex).2).2).2).1
theorem Fx.x4 (Y : Fx w K mg) : (He.valsB K (He.ga K "_PARTS_BELOW") vPARTSBELOW) = true := (an (an (an (an (an Y.ex).2).2).2).2).1
theorem Fx.x5 (Y : Fx w K mg) : (He.valsB K (He.ga K "_SORTS_TOLD") vSORTSTOLD) = true := (an (an (an (an (an (an Y.ex).2).2).2).2).2).1
theorem Fx.kPARTSBELOW (Y : Fx w K mg) : ∃ es n, KDict K w (He.ga K "_PARTS_BELOW") es n := Y.t.tab 0 (t := (fun K => He.ga K "_PARTS_BELOW", K25.kPARTSBELOW)) rfl
theorem Fx.kSORTSTOLD (Y : Fx w K mg) : ∃ es n, KDict K w (He.ga K "_SORTS_TOLD") es n := Y.t.tab 1 (t := (fun K => He.ga K "_SORTS_TOLD", K25.kSORTSTOLD)) rfl
end
/-- the world, its one habit that the top asks for told by a Bool -/
def wB (w : World) (b : Bool) : World := { w with params := { w.params with followText := fun s => if s == "special-get-raises" then b else w.params.followText s } }
theorem wB_eq (w : World) : wB w (w.params.followText "special-get-raises") = w := by
  have e : (fun s : String => if s == "special-get-raises" then w.params.followText "special-get-raises" else w.params.followText s) = w.params.followText := by
    funext s
    by_cases h : s = "special-get-raises"
    · subst h
      simp
    · simp [h]
  unfold wB
  rw [e]
theorem runT (w : World) : HandSHeadRun.RunEq R (PySem.W.view R.prog [60]) hk ob 40000 nm (wB w true) := by
  intro os
  kernel_rfl
theorem runF (w : World) : HandSHeadRun.RunEq R (PySem.W.view R.prog [60]) hk ob 40000 nm (wB w false) := by
  intro os
  kernel_rfl
theorem run (w : World) : HandSHeadRun.RunEq R (PySem.W.view R.prog [60]) hk ob 40000 nm w := by
  have h : ∀ b, HandSHeadRun.RunEq R (PySem.W.view R.prog [60]) hk ob 40000 nm (wB w b) := fun b => match b with
    | true => runT w
    | false => runF w
  rw [← wB_eq w]
  exact h _

end K25

namespace K25
open PySem PySem.Spec PyProof.Rows L2
abbrev sSrc : Stmt := sLawSource
abbrev sPick : Stmt := sLawPick
abbrev FnP (K : PySem.W.Frag) (x : Str) (st : Stmt) (f : Addr) (fd : FuncData) : Prop := FunD K x x (defArgs st) (defBody st) (defScope st) [] [] f fd
/-! an if whose test is known not to hold -/
def tIfN (tc : TT) (u : TS) : TS := fun D σ H => tc σ H fun k H1 => k = false ∧ u D σ H1
theorem ps_ifN {X : Cx} {c : Expr} {a b : List Stmt} {tc : TT} {u : TS} {pos : Pos} (hc : PT X c tc) (hb : PSs X b u) : PS X (.If c a b pos) (tIfN tc u) := by
  refine ⟨fun pins s σ H D I h => ?_⟩
  refine wpAny_If (thn (hc.run pins s σ H _ I h) fun d s1 ⟨H1, I1, e, q1⟩ => ?_)
  subst e
  exact hb.run pins s1 σ H1 D I1 q1
/-- the source's pairs -/
def skv (c : Addr) (l m t : Int) : List (Key × V) := [(.inr "cells", .ref c), (.inr "left", .int l), (.inr "mixed", .int m), (.inr "turn", .int t)]
theorem skv_cells (c : Addr) (l m t : Int) : valV (skv c l m t) (.inr "cells") = some (.ref c) := by rfl
theorem skv_left (c : Addr) (l m t : Int) : valV (skv c l m t) (.inr "left") = some (.int l) := by rfl
theorem skv_mixed (c : Addr) (l m t : Int) : valV (skv c l m t) (.inr "mixed") = some (.int m) := by rfl
theorem skv_turn (c : Addr) (l m t : Int) : valV (skv c l m t) (.inr "turn") = some (.int t) := by rfl
theorem put_left (c : Addr) (l m t y : Int) : putK (skv c l m t) (.inr "left") (.int y) = skv c y m t := by rfl
theorem put_turn (c : Addr) (l m t y : Int) : putK (skv c l m t) (.inr "turn") (.int y) = skv c l m y := by rfl
theorem skv_merge (c : Addr) (l m t : Int) : mergeK [] (skv c l m t) = skv c l m t := by rfl

theorem dg_cells {H : Hp} {d c : Addr} {l m t : Int} (h : H d = some (.dK (skv c l m t))) : DGet H d (.str "cells") (some (.ref c)) := by
  have z : DGet H d (kV (.inr "cells")) (valV (skv c l m t) (.inr "cells")) := DGet.k h
  rw [skv_cells] at z
  exact z
theorem dg_left {H : Hp} {d c : Addr} {l m t : Int} (h : H d = some (.dK (skv c l m t))) : DGet H d (.str "left") (some (.int l)) := by
  have z : DGet H d (kV (.inr "left")) (valV (skv c l m t) (.inr "left")) := DGet.k h
  rw [skv_left] at z
  exact z
theorem dg_mixed {H : Hp} {d c : Addr} {l m t : Int} (h : H d = some (.dK (skv c l m t))) : DGet H d (.str "mixed") (some (.int m)) := by
  have z : DGet H d (kV (.inr "mixed")) (valV (skv c l m t) (.inr "mixed")) := DGet.k h
  rw [skv_mixed] at z
  exact z
theorem dg_turn {H : Hp} {d c : Addr} {l m t : Int} (h : H d = some (.dK (skv c l m t))) : DGet H d (.str "turn") (some (.int t)) := by
  have z : DGet H d (kV (.inr "turn")) (valV (skv c l m t) (.inr "turn")) := DGet.k h
  rw [skv_turn] at z
  exact z
theorem dp_left {H : Hp} {d c : Addr} {l m t y : Int} (h : H d = some (.dK (skv c l m t))) : DPut H d (.str "left") (.int y) (upd H d (.dK (skv c y m t))) := by
  have z : DPut H d (kV (.inr "left")) (.int y) (upd H d (.dK (putK (skv c l m t) (.inr "left") (.int y)))) := DPut.k h (by show 4 < sizeLine; decide)
  rw [put_left] at z
  exact z
theorem dp_turn {H : Hp} {d c : Addr} {l m t y : Int} (h : H d = some (.dK (skv c l m t))) : DPut H d (.str "turn") (.int y) (upd H d (.dK (skv c l m y))) := by
  have z : DPut H d (kV (.inr "turn")) (.int y) (upd H d (.dK (putK (skv c l m t) (.inr "turn") (.int y)))) := DPut.k h (by show 4 < sizeLine; decide)
  rw [put_turn] at z
  exact z
theorem scS : FnScope ["_law_script", "_law_mixed", "_law_cell", "_law_cells", "_law_k"] ["_law_script"] (defScope sSrc) := ⟨rfl, rfl, rfl, by decide +kernel, rfl, by decide +kernel, by decide +kernel⟩
theorem scP : FnScope ["_law_source_here", "_law_many", "_law_cells", "_law_left", "_law_turn", "_law_mixed"] ["_law_source_here", "_law_many"] (defScope sPick) := ⟨rfl, rfl, rfl, by decide +kernel, rfl, by decide +kernel, by decide +kernel⟩
/-- the source at d, its cells at c -/
def SrcAt (H : Hp) (d c : Addr) : Prop := ∃ (xs : List Int) (l m t : Int), H c = some (.lst (xs.map V.int)) ∧ xs.length ≤ 63 ∧ H d = some (.dK (skv c l m t))
def spSrc (K : PySem.W.Frag) : Sp := fun vs H Q _ => ∃ (a : Addr) (ns : List Int), vs = [.ref a] ∧ SqL K H a (ns.map V.int) ∧ ns.length ≤ 63 ∧
  ∀ (d c : Addr) (H' : Hp), Same H H' → H d = none → H c = none → SrcAt H' d c → Q (.ref d) H'
def spPick : Sp := fun vs H Q _ => ∃ (d c : Addr) (n : Int), vs = [.ref d, .int n] ∧ SrcAt H d c ∧ 1 ≤ n ∧ n ≤ 1000 ∧
  ∀ (r : Int) (H' : Hp), 0 ≤ r → r < n → SrcAt H' d c → (∀ b, b ≠ d → b ≠ c → H' b = H b) → Q (.int r) H'
/-- the built-in names that the text reads -/
structure Bl (mg : Str → Option Value) : Prop where
  abs : mg "abs" = none
  int : mg "int" = none
  len : mg "len" = none
  range : mg "range" = none
  str : mg "str" = none
theorem Fx.bl {w : World} {K : PySem.W.Frag} {mg : Str → Option Value} (Y : Fx w K mg) : Bl mg := ⟨Y.bAbs, Y.bInt, Y.bLen, Y.bRange, Y.bStr⟩
section
variable {P : Program} {w : World} {K : PySem.W.Frag} {mg : Str → Option Value} {base : Heap}
theorem nosl {i : Expr} (h : ∀ ov iv, subscripted i false ov iv = operate [ov, iv] (getItem ov iv) := by intro _ _; rfl) : NoSl i := h
theorem okD {x qual : Str} {params : Arguments} {body : List Stmt} {scope : Scope} {dvs : List V} {kws : List (Str × V)} {f : Addr} {fd : FuncData} {N ps : List Str} {k : Nat} {sp : Sp} (F : FunD K x qual params body scope dvs kws f fd) (S : FnScope N ps scope) (len : ∀ vs H Q E, sp vs H Q E → vs.length = ps.length)
    (hb : ∀ (cdv : Value) (A : Around) (outer : List Env) (s : Shared) (H : Hp) (vs : List V) (Q : VK) (E : XK), Room k (A.deeper (envOfC qual scope s.heap.objs.size f cdv)) → sp vs H Q E →
      ∃ t, PSs (cxOf CX0 P w K mg base N qual scope f cdv A outer s H E).nox body t ∧ t { nx := fun _ H' => Q .non H', rt := Q } (start N vs) H) : FnOk P w K mg base CX0 (k + 1) f fd ps sp :=
  F.ok S len fun cdv A outer s H vs Q E hr h => let ⟨t, h1, h2⟩ := hb cdv A outer s H vs Q E hr h; ⟨t, h1.nox, h2⟩
theorem ok_pick {f : Addr} {fd : FuncData} (F : FnP K "_law_pick" sPick f fd) (B : Bl mg) : FnOk P w K mg base CX0 1 f fd ["_law_source_here", "_law_many"] spPick := by
  refine okD F scP (fun vs H Q E h => ?_) (fun cdv A outer s H vs Q E hr h => ?_)
  · obtain ⟨d, c, n, rfl, _⟩ := h
    rfl
  · have hu := hu_of hr
    have nd := scP.nd
    have TL : ∃ tl, PSs (cxOf CX0 P w K mg base ["_law_source_here", "_law_many", "_law_cells", "_law_left", "_law_turn", "_law_mixed"] "_law_pick" (defScope sPick) f cdv A outer s H E).nox ((defBody sPick).drop 3) tl ∧
        (∀ (Q : VK) (d c : Addr) (n l' m t : Int) (H' : Hp), 1 ≤ n → n ≤ 1000 → H' d = some (.dK (skv c l' m t)) →
          (∀ (r y t' : Int), 0 ≤ r → r < n → Q (.int r) (upd H' d (.dK (skv c y m t')))) → tl { nx := fun _ H' => Q .non H', rt := Q } [some (.ref d), some (.int n), some (.ref c), none, none, none] H') := by
      refine ⟨_, pss_cons (ps_set (i := 3) nd rfl (Or.inl rfl) (pe_dget hu (pv 0) pe_str nosl))
      (pss_cons (ps_if (pt_cmpR op_gt (pv 3) pe_int (nomark _))
        (pss_cons (ps_dput hu (pv 0) pe_str (pe_op op_fdiv (pv 3) (pv 1)) rfl)
          (pss_one (ps_ret (pe_op op_mod (pe_callTy call_int1 (by rfl) B.int boot_int (pa_cons (pv 3) pa_nil)) (pv 1))))) pss_nil)
      (pss_cons (ps_dput hu (pv 0) pe_str (pe_op op_add (pe_dget hu (pv 0) pe_str nosl) pe_int) rfl)
      (pss_cons (ps_set (i := 4) nd rfl (Or.inl rfl) (pe_dget hu (pv 0) pe_str nosl))
      (pss_cons (ps_set (i := 5) nd rfl (Or.inl rfl) (pe_op op_mod (pe_callTy call_int1 (by rfl) B.int boot_int (pa_cons (pe_op op_add (pe_dget hu (pv 0) pe_str nosl) (pe_op op_mul (pv 4) pe_int)) pa_nil)) pe_int))
      (pss_cons (ps_set (i := 5) nd rfl (Or.inl rfl) (pe_op op_mod (pe_callTy call_int1 (by rfl) B.int boot_int (pa_cons (pe_op op_add (pe_op op_mul (pv 5) (pv 5)) (pe_op op_mul (pv 4) pe_int)) pa_nil)) pe_int))
      (pss_cons (ps_ifN (pt_cmpR op_gt (pv 1) (pe_op op_pow pe_int pe_int) (nomark _)) pss_nil)
      (pss_one (ps_ret (pe_op op_mod (pe_callTy call_int1 (by rfl) B.int boot_int (pa_cons (pe_op op_fdiv (pv 5) pe_int) pa_nil)) (pv 1)))))))))), ?_⟩
      intro Q d c n l' m t H' h1 h2 hd' k
      refine ⟨_, rfl, d, .int l', rfl, dg_left hd', ?_⟩
      refine ⟨_, rfl, _, _, rfl, rfl, _, rfl, ite2 (fun c2 => ?_) (fun _ => ?_)⟩
      · refine ⟨_, rfl, _, rfl, _, _, rfl, rfl, ⟨by omega, by omega⟩, _, rfl, d, _, rfl, dp_left hd', ?_⟩
        exact ⟨_, rfl, .inl ⟨_, rfl, _, rfl, _, _, rfl, rfl, (by omega), k _ _ _ (Int.emod_nonneg _ (by omega)) (Int.emod_lt_of_pos _ (by omega))⟩⟩
      · refine ⟨_, rfl, d, .int t, rfl, dg_turn hd', _, _, rfl, rfl, _, rfl, d, _, rfl, dp_turn hd', ?_⟩
        refine ⟨_, rfl, d, .int (t + 1), rfl, dg_turn upd_same, ?_⟩
        refine ⟨_, rfl, d, .int m, rfl, dg_mixed upd_same, _, rfl, _, _, rfl, rfl, .inr ⟨by decide, by decide⟩, _, _, rfl, rfl, .inl ⟨_, rfl, _, _, rfl, rfl, (show (0 : Int) < 998244353 by decide), ?_⟩⟩
        have b1 := Int.emod_nonneg (m + (t + 1) * 104729) (show (998244353 : Int) ≠ 0 by decide)
        have b2 := Int.emod_lt_of_pos (m + (t + 1) * 104729) (show (0 : Int) < 998244353 by decide)
        refine ⟨_, rfl, _, rfl, _, _, rfl, rfl, .inl ⟨by omega, by omega⟩, _, rfl, _, _, rfl, rfl, .inr ⟨by decide, by decide⟩, _, _, rfl, rfl, .inl ⟨_, rfl, _, _, rfl, rfl, (show (0 : Int) < 2147483647 by decide), ?_⟩⟩
        refine ⟨_, rfl, _, _, rfl, rfl, (by unfold CPow; decide), _, _, rfl, rfl, _, rfl, decide_eq_false (by show ¬ (n > (10:Int) ^ (7:Int).toNat); rw [show (10:Int) ^ (7:Int).toNat = 10000000 from by decide]; omega), ?_⟩
        refine ⟨_, rfl, _, _, rfl, rfl, ⟨by decide, by decide⟩, .inl ⟨_, rfl, _, rfl, _, _, rfl, rfl, (by omega), ?_⟩⟩
        exact k _ _ _ (Int.emod_nonneg _ (by omega)) (Int.emod_lt_of_pos _ (by omega))
    obtain ⟨tl, htl, rtl⟩ := TL
    refine ⟨_, pss_cons (ps_if (pt_cmpR op_lt (pv 1) pe_int (nomark _)) (pss_one (ps_ret pe_int)) pss_nil)
      (pss_cons (ps_set (i := 2) nd rfl (Or.inl rfl) (pe_dget hu (pv 0) pe_str nosl))
      (pss_cons (ps_while PassesOwn.never (pw_and (pt_cmpR op_lt (pe_dget hu (pv 0) pe_str nosl) pe_int (nomark _)) (pw_and1 (pt_cmpR op_gt (pe_callB call_len_seq (by rfl) B.len PySem.boot_len (pa_cons (pv 2) pa_nil)) pe_int (nomark _)))).pt
        (pss_one (ps_dput hu (pv 0) pe_str (pe_bm0 PySem.F.plainAttrs_list PySem.F.slot_list_pop PySem.F.type_list_pop mt_pop (pv 2)) rfl))) htl)), ?_⟩
    obtain ⟨d, c, n, rfl, ⟨xs, l, m, t, hc, hx, hd⟩, h1, h2, k⟩ := h
    have ncd : c ≠ d := ne_of hc hd (by intro z; cases z)
    have tail : ∀ (ys : List Int) (l' : Int) (H' : Hp), H' c = some (.lst (ys.map V.int)) → ys.length ≤ 63 → H' d = some (.dK (skv c l' m t)) → (∀ b, b ≠ d → b ≠ c → H' b = H b) →
        tl { nx := fun _ H' => Q .non H', rt := Q } [some (.ref d), some (.int n), some (.ref c), none, none, none] H' := fun ys l' H' hc' hy hd' keep =>
      rtl Q d c n l' m t H' h1 h2 hd' fun r y t' r0 r1 => k r _ r0 r1 ⟨ys, _, m, _, (by rw [upd_ne ncd]; exact hc'), hy, upd_same⟩ (fun b hb hb2 => by rw [upd_ne hb]; exact keep b hb hb2)
    refine ⟨_, rfl, _, _, rfl, rfl, _, rfl, ite2 (fun _ => k 0 H (Int.le_refl 0) (by omega) ⟨xs, l, m, t, hc, hx, hd⟩ fun _ _ _ => rfl) (fun _ => ?_)⟩
    refine ⟨_, rfl, d, .ref c, rfl, dg_cells hd, ?_⟩
    refine while_by (fun σ H' => ∃ (ys : List Int) (l' : Int), σ = [some (.ref d), some (.int n), some (.ref c), none, none, none] ∧ H' c = some (.lst (ys.map V.int)) ∧ ys.length ≤ 63 ∧ H' d = some (.dK (skv c l' m t)) ∧ ∀ b, b ≠ d → b ≠ c → H' b = H b)
      (fun _ H' => match H' c with | some (.lst zs) => zs.length | _ => 0) ⟨xs, l, rfl, hc, hx, hd, fun _ _ _ => rfl⟩ ?_ ?_
    · rintro σ H' ⟨ys, l', rfl, hc', hy, hd', keep⟩
      refine ⟨_, rfl, d, .int l', rfl, dg_left hd', _, _, rfl, rfl, _, rfl, ite2 (fun _ => ⟨_, rfl, c, ys.map V.int, rfl, .inl (SqL.of hc'), _, _, rfl, rfl, _, rfl, ?w1⟩) (fun _ => iteF ?w2)⟩
      case w1 =>
        refine ite2 (fun c1 => ?_) (fun _ => ?w3)
        · have hl : 0 < ys.length := by
            have e := of_decide_eq_true c1
            rw [List.length_map] at e
            omega
          obtain ⟨y, ey⟩ : ∃ y, ys[ys.length - 1]? = some y := ⟨ys[ys.length - 1], by rw [List.getElem?_eq_getElem (by omega)]⟩
          refine ⟨_, rfl, .inl ⟨rfl, _, SqL.of hc'⟩, c, ys.map V.int, .int y, rfl, rfl, hc', (by rw [List.length_map, List.getElem?_map, ey]; rfl), ?_⟩
          have hd2 : upd H' c (.lst (ys.map V.int).dropLast) d = some (.dK (skv c l' m t)) := by rw [upd_ne ncd.symm]; exact hd'
          refine ⟨_, rfl, d, _, rfl, dp_left hd2, ⟨ys.dropLast, y, rfl, ?_, ?_, upd_same, ?_⟩, ?_⟩
          · rw [upd_ne ncd, upd_same, List.map_dropLast]
          · rw [List.length_dropLast]; omega
          · intro b hb hb2
            rw [upd_ne hb, upd_ne hb2]
            exact keep b hb hb2
          · show (match upd (upd H' c (.lst (ys.map V.int).dropLast)) d _ c with | some (.lst zs) => zs.length | _ => 0) < (match H' c with | some (.lst zs) => zs.length | _ => 0)
            rw [upd_ne ncd, upd_same, hc']
            show (ys.map V.int).dropLast.length < (ys.map V.int).length
            rw [List.length_dropLast, List.length_map]
            omega
        case w3 => exact tail ys l' H' hc' hy hd' keep
      case w2 => exact tail ys l' H' hc' hy hd' keep
    · rintro σ H' Q1 Q2 hq ⟨v, e1, a, u, e2, g, i, j, e3, e4, z⟩
      obtain ⟨b, e5, z⟩ := z
      refine ⟨v, e1, a, u, e2, g, i, j, e3, e4, b, e5, ?_⟩
      cases b with
      | false => exact hq _ _ z
      | true =>
        obtain ⟨v, e1, p, ys, e2, hs, i, j, e3, e4, b, e5, z⟩ := z
        exact ⟨v, e1, p, ys, e2, hs, i, j, e3, e4, b, e5, hq _ _ z⟩

/-- len of a list or a tuple, whatever the block -/
def rLn (K : PySem.W.Frag) : List V → Hp → VK → Prop := fun us G R => ∃ (q : Addr) (zs : List V), us = [.ref q] ∧ (SqL K G q zs ∨ SqT K G q zs) ∧ R (.int zs.length) G
abbrev NSrc : List Str := ["_law_script", "_law_mixed", "_law_cell", "_law_cells", "_law_k"]
/-- the cells, none below nought -/
def ab (ns : List Int) : List Int := ns.map fun i => if i < 0 then -i else i
theorem sq_keep {H H' : Hp} {D a : Addr} {xs : List V} (hD : H D = none) (q : ∀ b, b ≠ D → H' b = H b) (h : SqL K H a xs) : SqL K H' a xs :=
  Same.seq (fun b o e => (q b (ne_of_none e hD)).trans e) h
theorem map_abs (ns : List Int) : (ns.map fun i => V.int (if i < 0 then -i else i)) = (ns.map fun i => if i < 0 then -i else i).map V.int := by rw [List.map_map]; rfl
theorem int_at {ns : List Int} {i : Nat} {y : V} (hi : (ns.map V.int)[i]? = some y) : ∃ z, ns[i]? = some z ∧ y = V.int z := by
  rw [List.getElem?_map] at hi
  cases e : ns[i]? with
  | none => rw [e] at hi; cases hi
  | some z => rw [e] at hi; exact ⟨z, rfl, (Option.some.inj hi).symm⟩
theorem ok_src {f : Addr} {fd : FuncData} (F : FnP K "_law_source" sSrc f fd) (B : Bl mg) : FnOk P w K mg base CX0 1 f fd ["_law_script"] (spSrc K) := by
  refine okD F scS (fun vs H Q E h => ?_) (fun cdv A outer s H vs Q E hr h => ?_)
  · obtain ⟨a, ns, rfl, _⟩ := h
    rfl
  · have hu := hu_of hr
    have nd := scS.nd
    refine ⟨_, pss_cons (ps_set (i := 1) nd rfl (Or.inl rfl) pe_int)
      (pss_cons (ps_for PassesOwn.never rfl (pi_list (pv 0)) (pg_name (i := 2) nd rfl (Or.inl rfl))
        (pss_one (ps_set (i := 1) nd rfl (Or.inl rfl) (pe_op op_mod (pe_callTy call_int1 (by rfl) B.int boot_int (pa_cons (pe_op op_add (pe_op op_add (pe_op op_mul (pv 1) pe_int) (pe_op op_mul (pv 2) pe_int)) pe_int) pa_nil)) pe_int))))
      (pss_cons (ps_set (i := 3) nd rfl (Or.inr rfl) (pe_lc (own := [("_law_cell", 2)]) (g := gName 2) (tt := tYes) rfl nd (pi_list (pv 0)) (blkOk_by (N := NSrc) (sc := defScope sSrc) (by decide +kernel)) (fun _ _ _ _ _ => pg_name (i := 2) nd rfl (Or.inl rfl)) (fun _ _ _ _ _ => pts_nil)
        (fun _ _ _ _ _ => pe_callB call_abs (by rfl) B.abs (by decide +kernel) (pa_cons (pv 2) pa_nil))))
      (pss_one (ps_ret (pe_disp (pps_cons pe_str (pe_lc (own := [("_law_k", 4)]) (g := gName 4) (tt := tYes) rfl nd (pi_range1 (by rfl) B.range (pa_cons (pe_callB call_len_seq (by rfl) B.len PySem.boot_len (pa_cons (pv 3) pa_nil)) pa_nil)) (blkOk_by (N := NSrc) (sc := defScope sSrc) (by decide +kernel)) (fun _ _ _ _ _ => pg_name (i := 4) nd rfl (Or.inl rfl)) (fun _ _ _ _ _ => pts_nil)
          (fun _ _ _ _ _ => pe_ix (r := rIxL K) ix_list (pv 3) (pe_op op_sub (pe_op op_sub (pe_callB (r := rLn K) call_len_seq (by rfl) B.len PySem.boot_len (pa_cons (pv 3) pa_nil)) pe_int) (pv 4)) (fun _ _ => rfl)))
        (pps_cons pe_str pe_int (pps_cons pe_str (pv 1) (pps_cons pe_str pe_int pps_nil)))) rfl rfl (by simp) (by decide)))))), ?_⟩
    obtain ⟨a, ns, rfl, hS, hl, k⟩ := h
    refine ⟨_, rfl, a, rfl, ⟨_, hS⟩, for_list (K := K) (a := a) (xs := ns.map V.int) (fun i σ H2 => ∃ (z : Int) (v : Option V), σ = [some (.ref a), some (.int z), v, none, none] ∧ 0 ≤ z ∧ z < 2147483629 ∧ H2 = H)
      ⟨11, none, rfl, by decide, by decide, rfl⟩ (fun i σ H2 _ ⟨_, _, _, _, _, e⟩ => by rw [e]; exact hS) ?_ ?_⟩
    · rintro i y σ H2 hi ⟨z, v, rfl, z0, z1, rfl⟩
      obtain ⟨x, _, rfl⟩ := int_at hi
      refine ⟨_, rfl, _, _, rfl, rfl, .inr ⟨by decide, by decide⟩, _, rfl, _, _, rfl, rfl, .inr ⟨by decide, by decide⟩, _, _, rfl, rfl, _, _, rfl, rfl, .inl ⟨_, rfl, _, _, rfl, rfl, (show (0 : Int) < 2147483629 by decide), ?_⟩⟩
      exact ⟨_, _, rfl, Int.emod_nonneg _ (by decide), Int.emod_lt_of_pos _ (by decide), rfl⟩
    · rintro σ H2 ⟨z, v, rfl, z0, z1, rfl⟩
      refine ⟨_, rfl, a, rfl, ⟨_, hS⟩, fun D hD => ?_⟩
      refine lc_list (xs := ns.map V.int) (fun i H' => H' D = some (.lst ((ab (ns.take i)).map V.int)) ∧ ∀ b, b ≠ D → H' b = H2 b) ⟨upd_same, fun b hb => upd_ne hb⟩ (fun i H' _ ⟨e, q⟩ => sq_keep hD q hS) ?_ ?_
      · rintro i y H' hi ⟨e, q⟩
        obtain ⟨x, hx, rfl⟩ := int_at hi
        refine ⟨rfl, _, rfl, _, rfl, _, e, ?_, ?_, fun b hb => ?_⟩
        · unfold ab
          rw [List.length_map, List.length_map, List.length_take]
          exact small1000 (by omega)
        · rw [upd_same]
          unfold ab
          rw [List.take_add_one, hx]
          simp
        · rw [upd_ne hb]; exact q b hb
      · rintro H' ⟨e, q⟩
        rw [List.length_map, List.take_length] at e
        intro p hp
        have npD : p ≠ D := (ne_of_none e hp).symm
        have la : (ab ns).length = ns.length := by unfold ab; rw [List.length_map]
        have lm : ((ab ns).map V.int).length = ns.length := by rw [List.length_map, la]
        have eD : upd H' p (.dK []) D = some (.lst ((ab ns).map V.int)) := by rw [upd_ne npD.symm]; exact e
        refine ⟨_, rfl, D, _, rfl, .inl (SqL.of eD), _, rfl, (by rw [lm]; omega), (by rw [lm]; omega), fun C hC => ?_⟩
        rw [lm]
        have nCp : C ≠ p := (ne_of_none upd_same hC).symm
        have nCD : C ≠ D := (ne_of_none eD hC).symm
        refine lc_range (lo := 0) (n := ns.length) (fun i H3 => (∃ ys : List Int, H3 C = some (.lst (ys.map V.int)) ∧ ys.length = i) ∧ ∀ b, b ≠ C → H3 b = upd H' p (.dK []) b) ⟨⟨[], upd_same, rfl⟩, fun b hb => upd_ne hb⟩ ?_ ?_
        · rintro i H3 hi ⟨⟨ys, e3, ly⟩, q3⟩
          obtain ⟨y, ey⟩ : ∃ y, (ab ns)[ns.length - 1 - i]? = some y := ⟨(ab ns)[ns.length - 1 - i], by rw [List.getElem?_eq_getElem (by omega)]⟩
          have e3D : H3 D = some (.lst ((ab ns).map V.int)) := by rw [q3 D nCD.symm]; exact eD
          refine ⟨rfl, _, rfl, _, rfl, D, _, rfl, .inl (SqL.of e3D), _, _, rfl, rfl, _, rfl, _, _, rfl, rfl, D, _, _, .int y, rfl, rfl, SqL.of e3D, ?_, _, e3, ?_, ⟨ys ++ [y], ?_, ?_⟩, fun b hb => ?_⟩
          · exact at_of (j := ns.length - 1 - i) (by rw [lm]; omega) (by rw [List.getElem?_map, ey]; rfl)
          · rw [List.length_map]; exact small1000 (by omega)
          · rw [upd_same]; simp
          · rw [List.length_append, ly]; rfl
          · rw [upd_ne hb]; exact q3 b hb
        · rintro H3 ⟨⟨ys, e3, ly⟩, q3⟩
          refine ⟨_, rfl, ?_⟩
          refine ⟨by rw [q3 p nCp.symm, upd_same], skv C 1 z 0, rfl, (show 4 ≤ 15 by decide), ?_⟩
          rw [skv_merge]
          refine k p C _ (fun b o eb => ?_) ?_ ?_ ⟨ys, 1, z, 0, ?_, by omega, upd_same⟩
          · have hb : b ≠ D := ne_of_none eb hD
            have eb2 : H' b = some o := (q b hb).trans eb
            have hbp : b ≠ p := ne_of_none eb2 hp
            have hbC : b ≠ C := ne_of_none (show upd H' p (.dK []) b = some o by rw [upd_ne hbp]; exact eb2) hC
            rw [upd_ne hbp, q3 b hbC, upd_ne hbp]
            exact eb2
          · rw [← q p npD]; exact hp
          · rw [← q C nCD]
            rw [upd_ne nCp] at hC
            exact hC
          · rw [upd_ne nCp]; exact e3
end
end K25

namespace K25
open PySem PySem.Spec PyProof.Rows L2 Ow
abbrev LT : Str := "abcdefghijklmnopqrstuvwxyz"
abbrev SG : Str := "abcdefghijklmnopqrstuvwxyz0123456789"
/-! ### words -/
/-- a word of the text -/
structure Wd (x : Str) : Prop where
  lo : 1 ≤ x.length
  hi : x.length ≤ 12
  h : ∀ c, x.cps[0]? = some c → c ∈ LT.cps.toList
  s : ∀ (i c : Nat), x.cps[i]? = some c → c ∈ SG.cps.toList
/-- a list of unlike words -/
structure NL (xs : List Str) : Prop where
  nd : xs.Nodup
  w : ∀ x ∈ xs, Wd x
  n : xs.length ≤ 16
theorem scW : FnScope ["value", "sign"] ["value"] (defScope sIsWord) := ⟨rfl, rfl, rfl, by decide +kernel, rfl, by decide +kernel, by decide +kernel⟩
def spWord : Sp := fun vs H Q _ => ∃ x : Str, vs = [.str x] ∧ Wd x ∧ ∀ H', Same H H' → Q (.bl true) H'
section
variable {P : Program} {w : World} {K : PySem.W.Frag} {mg : Str → Option Value} {base : Heap} {f : Addr} {fd : FuncData}
theorem ok_word (F : FnP K "is_word" sIsWord f fd) (Y : Fx w K mg) : FnOk P w K mg base CX0 1 f fd ["value"] spWord := by
  refine okD F scW (fun vs H Q E h => ?_) (fun cdv A outer s H vs Q E hr h => ?_)
  · obtain ⟨x, rfl, _⟩ := h
    rfl
  · have hu := hu_of hr
    have nd := scW.nd
    have B := Y.bl
    obtain ⟨tl, el⟩ := Y.sLETTERS
    obtain ⟨ts, es⟩ := Y.sSIGNS
    refine ⟨_, pss_cons (ps_ifN (pw_or (pt_not (pt_val (pe_callB call_isi (by rfl) Y.bIsinstance boot_isinstance (pa_cons (pv 0) (pa_cons (pe_bltn (v := .ty "str") (u := .type "str") (by rfl) Y.bStr (by decide +kernel) rfl) pa_nil))))) (pw_or1 (pt_not (pt_chain op_le op_le pe_int (pe_callB call_len_str (by rfl) B.len PySem.boot_len (pa_cons (pv 0) pa_nil)) pe_int)))).pt pss_nil)
      (pss_one (ps_ret (pe_and (pe_cmpR op_in_sign (pe_ix ix_str (pv 0) pe_int (fun _ _ => rfl)) (pe_glob (v := .str LT) (by rfl) el ⟨_, rfl⟩) (by rfl)) (pe_one (pe_callB (cr_all rfl) (by rfl) Y.bAll (by decide +kernel) (pa_cons
        (pe_lc (own := [("sign", 1)]) (g := gName 1) (tt := tYes) rfl nd (pi_str (pv 0)) (blkOk_by (N := ["value", "sign"]) (sc := defScope sIsWord) (by decide +kernel)) (fun _ _ _ _ _ => pg_name (i := 1) nd rfl (Or.inl rfl)) (fun _ _ _ _ _ => pts_nil)
          (fun _ _ _ _ _ => pe_cmpR op_in_sign (pv 1) (pe_glob (v := .str SG) (by rfl) es ⟨_, rfl⟩) (by rfl))) pa_nil)))))), ?_⟩
    obtain ⟨x, rfl, hx, k⟩ := h
    have lz : x.length ≤ sizeLine := Nat.le_trans hx.hi (by decide)
    obtain ⟨c, ec⟩ : ∃ c, x.cps[0]? = some c := ⟨x.cps[0]'(show 0 < x.cps.size from hx.lo), Array.getElem?_eq_getElem _⟩
    have l1 : (1 : Int) ≤ (x.length : Int) := by have z := hx.lo; omega
    have l2 : (x.length : Int) ≤ 12 := by have z := hx.hi; omega
    refine ⟨_, rfl, _, _, _, _, true, rfl, .ty _, .base (.str x), (of_decide_eq_true Y.x0), true, rfl, iteF ⟨_, rfl, x, rfl, lz, _, _, rfl, rfl, _, rfl, ite2 (fun _ => ⟨_, _, rfl, rfl, _, rfl, ?_, ?_⟩) (fun n => absurd (decide_eq_true l1) n)⟩⟩
    · rw [decide_eq_true l2]; rfl
    refine ⟨_, rfl, x, 0, c, rfl, rfl, lz, ?_, c, LT, rfl, rfl, _, rfl, ite2 (fun _ => ?_) (fun n => absurd (decide_eq_true (hx.h c ec)) n)⟩
    · exact (show atI x.cps.toList ((0 : Nat) : Int) = some c from atI_nat (by rw [Array.getElem?_toList]; exact ec))
    refine ⟨_, rfl, x, rfl, fun D hD => ?_⟩
    refine lc_it walk_str (fun i H' => H' D = some (.lst ((List.replicate i true).map V.bl)) ∧ Same H H') ⟨upd_same, fun b o e => (upd_ne (ne_of_none e hD)).trans e⟩ (fun _ _ _ _ => trivial) ?_ ?_
    · rintro i v G G' hi ⟨e, q⟩ ⟨rfl, z, ez, rfl⟩
      refine ⟨rfl, _, rfl, z, SG, rfl, rfl, _, e, ?_, ?_, fun b o eb => (upd_ne (ne_of_none eb hD)).trans (q b o eb)⟩
      · rw [List.length_map, List.length_replicate]
        exact Nat.lt_of_lt_of_le hi (Nat.le_trans hx.hi (by decide))
      · rw [upd_same, decide_eq_true (hx.s i z ez), List.replicate_succ', List.map_append]
        rfl
    · rintro G ⟨e, q⟩
      refine ⟨D, List.replicate x.cps.size true, rfl, SqL.of e, ?_⟩
      rw [show (List.replicate x.cps.size true).all id = true by simp]
      exact k G q
end
end K25

namespace K25
open PySem PySem.Spec PyProof.Rows L2 Ow
theorem scCN : FnScope ["lists", "names", "name"] ["lists"] (defScope sCheckNames) := ⟨rfl, rfl, rfl, by decide +kernel, rfl, by decide +kernel, by decide +kernel⟩
/-- at y stands a list or tuple of unlike words -/
def Nms (K : PySem.W.Frag) (H : Hp) (y : V) (xs : List Str) : Prop := ∃ a, y = .ref a ∧ SqA K H a (xs.map V.str) ∧ NL xs
theorem Nms.same {K : PySem.W.Frag} {H H' : Hp} {y : V} {xs : List Str} (s : Same H H') (h : Nms K H y xs) : Nms K H' y xs := by
  obtain ⟨a, e, q, n⟩ := h
  exact ⟨a, e, q.same s, n⟩
def spCheck (K : PySem.W.Frag) : Sp := fun vs H Q _ => ∃ (l : Addr) (y z : V) (xs ys : List Str), vs = [.ref l] ∧ SqL K H l [y, z] ∧ Nms K H y xs ∧ Nms K H z ys ∧ ∀ H', Same H H' → Q .non H'
theorem str_at {xs : List Str} {i : Nat} {y : V} (h : (xs.map V.str)[i]? = some y) : ∃ z, xs[i]? = some z ∧ y = .str z := by
  rw [List.getElem?_map] at h
  cases e : xs[i]? with
  | none => rw [e] at h; cases h
  | some z => rw [e] at h; exact ⟨z, rfl, (Option.some.inj h).symm⟩
section
variable {P : Program} {w : World} {K : PySem.W.Frag} {mg : Str → Option Value} {base : Heap} {f : Addr} {fd : FuncData}
theorem ok_check (F : FnP K "check_names" sCheckNames f fd) (Y : Fx w K mg) : FnOk P w K mg base CX0 2 f fd ["lists"] (spCheck K) := by
  obtain ⟨dW, FW⟩ := Y.dIsWord
  have bW := FunD.bindsN (ps := ["value"]) FW fun _ _ _ _ _ _ us hl => match us, hl with | [_], _ => rfl
  have GW : FnOk P w K mg base CX0 1 _ dW ["value"] spWord := ok_word FW Y
  refine okD F scCN (fun vs H Q E h => ?_) (fun cdv A outer s H vs Q E hr h => ?_)
  · obtain ⟨l, y, z, xs, ys, rfl, _⟩ := h
    rfl
  · have hu := hu_of hr
    have nd := scCN.nd
    have B := Y.bl
    refine ⟨_, pss_cons (ps_for PassesOwn.never rfl (pi_list (pv 0)) (pg_name (i := 1) nd rfl (Or.inl rfl)) (pss_one (ps_for PassesOwn.never rfl (pi_seqA (pv 1)) (pg_name (i := 2) nd rfl (Or.inl rfl))
        (pss_one (ps_ifN (pt_not (pt_val (pe_call GW hr rfl Y.gIsWord FW.kp bW .nil pass0 (pa_cons (pv 2) pa_nil)))) pss_nil)))))
      (pss_one (ps_for PassesOwn.never rfl (pi_list (pv 0)) (pg_name (i := 1) nd rfl (Or.inl rfl))
        (pss_one (ps_ifN (pt_cmpR op_lt (pe_lenSetT rfl (by rfl) B.len (by rfl) Y.bSet (pv 1)) (pe_callB call_len_seq (by rfl) B.len PySem.boot_len (pa_cons (pv 1) pa_nil)) (nomark _)) pss_nil)))), ?_⟩
    obtain ⟨l, y, z, xs, ys, rfl, hl, hy, hz, k⟩ := h
    have it : ∀ (i : Nat) (v : V) (G : Hp), ([y, z] : List V)[i]? = some v → Same H G → ∃ zs, Nms K G v zs := fun i v G hi sm => by
      match i, hi with
      | 0, hi => cases hi; exact ⟨xs, hy.same sm⟩
      | 1, hi => cases hi; exact ⟨ys, hz.same sm⟩
      | (i + 2), hi => cases hi
    refine ⟨_, rfl, l, rfl, ⟨_, hl⟩, for_list (K := K) (a := l) (xs := [y, z]) (fun i σ G => (∃ v1 v2, σ = [some (.ref l), v1, v2]) ∧ Same H G) ⟨⟨_, _, rfl⟩, Same.refl _⟩ (fun i σ G _ q => q.2.seq hl) ?_ ?_⟩
    · rintro i v σ G hi ⟨⟨v1, v2, rfl⟩, sm⟩
      obtain ⟨zs, a, rfl, hA, hn⟩ := it i v G hi sm
      refine ⟨_, rfl, a, zs.map V.str, rfl, hA, fun J GG wk gk => for_it wk (fun j σ G' => (∃ v2, σ = [some (.ref l), some (.ref a), v2]) ∧ Same G G') ⟨⟨_, rfl⟩, Same.refl _⟩ (fun j σ G' _ q => gk _ q.2) ?_ ?_⟩
      · rintro j v σ G' G'' hj ⟨⟨v2, rfl⟩, s2⟩ ⟨rfl, ev⟩
        obtain ⟨x, ex, rfl⟩ := str_at ev
        exact ⟨_, rfl, x, rfl, hn.w x (List.mem_of_getElem? ex), fun G3 s3 => ⟨true, rfl, rfl, ⟨_, rfl⟩, s2.trans s3⟩⟩
      · rintro σ G' ⟨⟨v2, rfl⟩, s2⟩
        exact ⟨⟨_, _, rfl⟩, sm.trans s2⟩
    · rintro σ G ⟨⟨v1, v2, rfl⟩, sm⟩
      refine ⟨_, rfl, l, rfl, ⟨_, sm.seq hl⟩, for_list (K := K) (a := l) (xs := [y, z]) (fun i σ G => (∃ v1 v2, σ = [some (.ref l), v1, v2]) ∧ Same H G) ⟨⟨_, _, rfl⟩, sm⟩ (fun i σ G _ q => q.2.seq hl) ?_ ?_⟩
      · rintro i v σ G hi ⟨⟨v1, v2, rfl⟩, sm⟩
        obtain ⟨zs, a, rfl, hA, hn⟩ := it i v G hi sm
        refine ⟨_, rfl, a, zs, rfl, hA, hn.nd, Nat.lt_of_le_of_lt hn.n (by decide), _, rfl, a, zs.map V.str, rfl, hA, _, _, rfl, rfl, _, rfl, ?_, ⟨_, _, rfl⟩, sm⟩
        rw [List.length_map]
        exact decide_eq_false (Int.lt_irrefl _)
      · rintro σ G ⟨⟨v1, v2, rfl⟩, sm⟩
        exact k G sm
end
end K25

namespace K25
open PySem PySem.Spec PyProof.Rows L2 Ow
/-! ### what stays, and small helps -/
theorem same_upd {H : Hp} {a : Addr} {o : HO} (h : H a = none) : Same H (upd H a o) := fun _ _ e => (upd_ne (ne_of_none e h)).trans e
theorem same_put {H G : Hp} {D : Addr} {o : HO} (hD : H D = none) (s : Same H G) : Same H (upd G D o) := fun b _ e => (upd_ne (ne_of_none e hD)).trans (s b _ e)
theorem szl {n : Nat} (h : n ≤ 1000) : n ≤ sizeLine := Nat.le_of_lt (small1000 h)
def Keep (x : Addr) (H H' : Hp) : Prop := ∀ b o, b ≠ x → H b = some o → H' b = some o
theorem Keep.refl {x : Addr} {H : Hp} : Keep x H H := fun _ _ _ e => e
theorem Keep.trans {x : Addr} {H1 H2 H3 : Hp} (h : Keep x H1 H2) (g : Keep x H2 H3) : Keep x H1 H3 := fun b o n e => g b o n (h b o n e)
theorem Keep.of {x : Addr} {H H' : Hp} (s : Same H H') : Keep x H H' := fun b o _ e => s b o e
theorem Keep.put {x : Addr} {H : Hp} {o : HO} : Keep x H (upd H x o) := fun b u n e => (upd_ne n).trans e
/-- a dict comprehension over a walk -/
theorem dc_it {J : It} {n : Nat} {G : Hp → Prop} {Y : Nat → Hp → V → Hp → Prop} (w : Walk J n G Y) {g : TG} {tt : TT} {tk tv : TE} {vs : List Nat} {σ : L2.St} {H1 : Hp} {D : Addr} {Qd : Hp → Prop} (Pv : Nat → Hp → Prop) (h0 : Pv 0 (upd H1 D (.dK []))) (hG : ∀ i H, i ≤ n → Pv i H → G H)
    (hs : ∀ i x H H', i < n → Pv i H → Y i H x H' → g x (wipe σ vs) H' fun σ2 H2 => wipe σ2 vs = wipe σ vs ∧ tt σ2 H2 fun b H3 =>
      if b = true then tk σ2 H3 fun y H4 => tv σ2 H4 fun z H5 => ∃ kvs k, y = kV k ∧ H5 D = some (.dK kvs) ∧ kvs.length < sizeLine ∧ Pv (i + 1) (upd H5 D (.dK (putK kvs k z))) else Pv (i + 1) H3) (hd : ∀ H, Pv n H → Qd H) :
    ∃ W : Nat → Nat → Hp → Prop, (∃ m, W 0 m (upd H1 D (.dK []))) ∧ ∀ i m H, W i m H →
      (J.stop i H ∧ Qd H) ∨ (J.go i H ∧ ∃ Nx : Hp → Prop, (∀ H', Nx H' → ∃ m', m' < m ∧ W (i + 1) m' H') ∧ ∀ x H', J.yld i H x H' → g x (wipe σ vs) H' fun σ2 H2 => wipe σ2 vs = wipe σ vs ∧ tt σ2 H2 fun b H3 =>
        if b = true then tk σ2 H3 fun y H4 => tv σ2 H4 fun z H5 => ∃ kvs k, y = kV k ∧ H5 D = some (.dK kvs) ∧ kvs.length < sizeLine ∧ Nx (upd H5 D (.dK (putK kvs k z))) else Nx H3) := by
  refine ⟨fun i m H => m = n - i ∧ i ≤ n ∧ Pv i H, ⟨n, rfl, Nat.zero_le _, h0⟩, ?_⟩
  rintro i m H ⟨rfl, le, p⟩
  have q := hG i H le p
  by_cases lt : i < n
  · exact .inr ⟨w.goes i H lt q, Pv (i + 1), fun H' p' => ⟨n - (i + 1), by omega, rfl, lt, p'⟩, fun x H' y => hs i x H H' lt p (w.yields i H x H' lt q y)⟩
  · have e : i = n := by omega
    subst e
    exact .inl ⟨w.stops H q, hd H p⟩
/-- at l stands a list of tuples of these -/
def TupsAt (K : PySem.W.Frag) (H : Hp) (l : Addr) (vss : List (List V)) : Prop := ∃ as : List Addr, SqL K H l (as.map V.ref) ∧ as.length = vss.length ∧ ∀ (i : Nat) (t : Addr), as[i]? = some t → ∃ vs, vss[i]? = some vs ∧ SqT K H t vs
theorem TupsAt.same {K : PySem.W.Frag} {H H' : Hp} {l : Addr} {vss : List (List V)} (s : Same H H') (h : TupsAt K H l vss) : TupsAt K H' l vss := by
  obtain ⟨as, q, e, g⟩ := h
  refine ⟨as, s.seq q, e, fun i t z => ?_⟩
  obtain ⟨vs, e1, e2⟩ := g i t z
  exact ⟨vs, e1, sqt_same s e2⟩
theorem ref_at {as : List Addr} {i : Nat} {v : V} (h : (as.map V.ref)[i]? = some v) : ∃ a, as[i]? = some a ∧ v = .ref a := by
  rw [List.getElem?_map] at h
  cases e : as[i]? with
  | none => rw [e] at h; cases h
  | some a => rw [e] at h; exact ⟨a, rfl, (Option.some.inj h).symm⟩
theorem map_at {α : Type} {f : α → V} {xs : List α} {i : Nat} {v : V} (h : (xs.map f)[i]? = some v) : ∃ x, xs[i]? = some x ∧ v = f x := by
  rw [List.getElem?_map] at h
  cases e : xs[i]? with
  | none => rw [e] at h; cases h
  | some a => rw [e] at h; exact ⟨a, rfl, (Option.some.inj h).symm⟩
theorem flat_strs (xs : List Str) : (xs.map V.str).all flatV = true := by
  rw [List.all_eq_true]
  intro v hv
  obtain ⟨x, _, rfl⟩ := List.mem_map.mp hv
  rfl
theorem inV_strs (x : Str) (xs : List Str) : inV (.str x) (xs.map V.str) = decide (x ∈ xs) := by
  unfold inV
  rw [List.any_map, Bool.eq_iff_iff, List.any_eq_true, decide_eq_true_iff]
  constructor
  · rintro ⟨y, hy, e⟩
    have z : y = x := by simpa [eqV] using e
    exact z ▸ hy
  · intro h
    exact ⟨x, h, by simp [eqV]⟩
/-- a letter: its name, its ends -/
abbrev Lt : Type := Str × Str × Str
def ltV (q : Lt) : List V := [.str q.1, .str q.2.1, .str q.2.2]
/-! ### the frame's checks -/
abbrev NCE : List Str := ["sorts", "letters", "totals", "_", "first", "second", "end", "names", "letter", "name"]
theorem scCE : FnScope NCE ["sorts", "letters", "totals"] (defScope sCheckEnds) := ⟨rfl, rfl, rfl, by decide +kernel, rfl, by decide +kernel, by decide +kernel⟩
def spCE (K : PySem.W.Frag) : Sp := fun vs H Q _ => ∃ (s l t : Addr) (xs : List Str) (ls : List Lt), vs = [.ref s, .ref l, .ref t] ∧ SqL K H s (xs.map V.str) ∧ TupsAt K H l (ls.map ltV) ∧ (∀ q ∈ ls, q.2.1 ∈ xs ∧ q.2.2 ∈ xs) ∧ ls.length ≤ 16 ∧ SqL K H t [] ∧
  ∀ H', Same H H' → Q .non H'
section
variable {P : Program} {w : World} {K : PySem.W.Frag} {mg : Str → Option Value} {base : Heap} {f : Addr} {fd : FuncData}
theorem ok_ce (F : FnP K "_check_ends" sCheckEnds f fd) (Y : Fx w K mg) : FnOk P w K mg base CX0 1 f fd ["sorts", "letters", "totals"] (spCE K) := by
  refine okD F scCE (fun vs H Q E h => ?_) (fun cdv A outer s H vs Q E hr h => ?_)
  · obtain ⟨a, b, c, xs, ls, rfl, _⟩ := h
    rfl
  · have nd := scCE.nd
    refine ⟨_, pss_cons (ps_for PassesOwn.never rfl (pi_list (pv 1)) (pg_tup rfl (pgs_cons (pg_name (i := 3) nd rfl (Or.inl rfl)) (pgs_cons (pg_name (i := 4) nd rfl (Or.inl rfl)) (pgs_cons (pg_name (i := 5) nd rfl (Or.inl rfl)) pgs_nil))))
        (pss_one (ps_for PassesOwn.never rfl (pi_tup (pe_tup (pa_cons (pv 4) (pa_cons (pv 5) pa_nil)))) (pg_name (i := 6) nd rfl (Or.inl rfl))
          (pss_one (ps_ifN (pt_cmpR op_notIn_seq (pv 6) (pv 0) (by rfl)) pss_nil)))))
      (pss_cons (ps_setLc (i := 7) (own := [("letter", 8)]) (g := gName 8) (tt := tYes) (te := tOp (rIxT K) (tVar 8) (tC (.int 0))) rfl nd rfl rfl (by rfl) (pi_list (pv 1)) (blkOk_by (N := NCE) (sc := defScope sCheckEnds) (by decide +kernel)) (fun _ _ _ _ _ => pg_name (i := 8) nd rfl (Or.inl rfl)) (fun _ _ _ _ _ => pts_nil)
        (fun _ _ _ _ _ => pe_ix ix_tup (pv 8) pe_int (fun _ _ => rfl)))
      (pss_one (ps_for PassesOwn.never rfl (pi_list (pv 2)) (pg_tup rfl (pgs_cons (pg_name (i := 9) nd rfl (Or.inl rfl)) (pgs_cons (pg_name (i := 3) nd rfl (Or.inl rfl)) pgs_nil)))
        (pss_one (ps_ifN (pt_cmpR op_notIn_seq (pv 9) (pv 7) (by rfl)) pss_nil))))), ?_⟩
    obtain ⟨a, l, t, xs, ls, rfl, hs, hl, hin, hn, ht, k⟩ := h
    obtain ⟨as, q, la, g⟩ := id hl
    rw [List.length_map] at la
    refine ⟨_, rfl, l, rfl, ⟨_, q⟩, for_list (K := K) (a := l) (xs := as.map V.ref) (fun i σ G => (∃ v3 v4 v5 v6, σ = [some (.ref a), some (.ref l), some (.ref t), v3, v4, v5, v6, none, none, none]) ∧ Same H G) ⟨⟨_, _, _, _, rfl⟩, Same.refl _⟩ (fun i σ G _ p => p.2.seq q) ?_ ?_⟩
    · rintro i v σ G hi ⟨⟨v3, v4, v5, v6, rfl⟩, sm⟩
      obtain ⟨b, eb, rfl⟩ := ref_at hi
      obtain ⟨vs, e1, hT⟩ := g i b eb
      obtain ⟨lt, e2, rfl⟩ : ∃ lt, ls[i]? = some lt ∧ vs = ltV lt := by
        rw [List.getElem?_map] at e1
        cases e : ls[i]? with
        | none => rw [e] at e1; cases e1
        | some z => rw [e] at e1; exact ⟨z, rfl, (Option.some.inj e1).symm⟩
      obtain ⟨m1, m2⟩ := hin lt (List.mem_of_getElem? e2)
      refine ⟨b, _, rfl, sqt_same sm hT, rfl, _, _, rfl, _, _, rfl, _, _, rfl, rfl, ?_⟩
      refine ⟨_, rfl, _, rfl, szl (by show 2 ≤ 1000; decide), fun p hp => ?_⟩
      have sp : Same G (upd G p (.tup [.str lt.2.1, .str lt.2.2])) := same_upd hp
      refine ⟨p, rfl, ⟨_, SqT.of upd_same⟩, for_tup (K := K) (a := p) (xs := [.str lt.2.1, .str lt.2.2]) (fun j σ G' => (∃ v6, σ = [some (.ref a), some (.ref l), some (.ref t), some (.str lt.1), some (.str lt.2.1), some (.str lt.2.2), v6, none, none, none]) ∧ Same (upd G p (.tup [.str lt.2.1, .str lt.2.2])) G') ⟨⟨_, rfl⟩, Same.refl _⟩ (fun j σ G' _ z => sqt_same z.2 (SqT.of upd_same)) ?_ ?_⟩
      · rintro j v σ G' hj ⟨⟨v6, rfl⟩, s2⟩
        obtain ⟨x, hx, rfl⟩ : ∃ x, x ∈ xs ∧ v = .str x := by
          match j, hj with
          | 0, hj => cases hj; exact ⟨_, m1, rfl⟩
          | 1, hj => cases hj; exact ⟨_, m2, rfl⟩
          | (j + 2), hj => cases hj
        refine ⟨_, rfl, _, rfl, a, xs.map V.str, rfl, .inl ((sm.trans (sp.trans s2)).seq hs), rfl, flat_strs xs, ?_⟩
        rw [inV_strs, decide_eq_true hx]
        exact ⟨false, rfl, rfl, ⟨_, rfl⟩, s2⟩
      · rintro σ G' ⟨⟨v6, rfl⟩, s2⟩
        exact ⟨⟨_, _, _, _, rfl⟩, sm.trans (sp.trans s2)⟩
    · rintro σ G ⟨⟨v3, v4, v5, v6, rfl⟩, sm⟩
      refine ⟨_, rfl, l, rfl, ⟨_, sm.seq q⟩, fun D hD => ?_⟩
      refine lc_list (K := K) (a := l) (xs := as.map V.ref) (fun i G' => (∃ ns : List Str, G' D = some (.lst (ns.map V.str)) ∧ ns.length = i) ∧ Same G G') ⟨⟨[], upd_same, rfl⟩, same_upd hD⟩ (fun i G' _ p => (sm.trans p.2).seq q) ?_ ?_
      · rintro i v G' hi ⟨⟨ns, e, ln⟩, s2⟩
        obtain ⟨b, eb, rfl⟩ := ref_at hi
        obtain ⟨vs, e1, hT⟩ := g i b eb
        obtain ⟨lt, e2, rfl⟩ : ∃ lt, ls[i]? = some lt ∧ vs = ltV lt := by
          rw [List.getElem?_map] at e1
          cases z : ls[i]? with
          | none => rw [z] at e1; cases e1
          | some y => rw [z] at e1; exact ⟨y, rfl, (Option.some.inj e1).symm⟩
        have li : i < ls.length := (List.getElem?_eq_some_iff.mp e2).1
        refine ⟨rfl, _, rfl, b, _, 0, _, rfl, rfl, sqt_same (sm.trans s2) hT, rfl, _, e, ?_, ⟨ns ++ [lt.1], ?_, by rw [List.length_append, ln]; rfl⟩, same_put hD s2⟩
        · rw [List.length_map]
          exact small1000 (by omega)
        · rw [upd_same, List.map_append]
          rfl
      · rintro G' ⟨⟨ns, e, ln⟩, s2⟩
        refine ⟨_, rfl, t, rfl, ⟨_, (sm.trans s2).seq ht⟩, for_list (K := K) (a := t) (xs := []) (fun i σ G2 => Same G' G2) (Same.refl _) (fun i σ G2 _ p => (sm.trans (s2.trans p)).seq ht) (fun i v σ G2 hi _ => nomatch hi) fun σ G2 s3 => k G2 (sm.trans (s2.trans s3))⟩
end
end K25

namespace K25
open PySem PySem.Spec PyProof.Rows L2 Ow
/-! ### data that is compared: lists and tuples of texts, of ints -/
theorem dpa_strs {K : PySem.W.Frag} {H : Hp} : ∀ xs : List Str, DpAll K H (xs.map V.str) (xs.map PyData.str)
  | [] => .nil
  | x :: xs => .cons (.str x) (dpa_strs xs)
theorem sg_low : ∀ c ∈ SG.cps.toList, c < 0x110000 := by decide +kernel
theorem Wd.lay {x : Str} (h : Wd x) : PyData.strOk x = true := by
  unfold PyData.strOk
  rw [Array.all_eq_true]
  intro i hi
  exact decide_eq_true (sg_low _ (h.s i _ (Array.getElem?_eq_getElem hi)))
theorem lay_strs : ∀ xs : List Str, (∀ x ∈ xs, Wd x) → PyData.canLayAll0 (xs.map PyData.str) = true
  | [], _ => by simp [PyData.canLayAll0]
  | x :: xs, h => by simp [PyData.canLayAll0, PyData.canLay0, (h x List.mem_cons_self).lay, lay_strs xs fun y hy => h y (List.mem_cons_of_mem _ hy)]
theorem dep_strs : ∀ xs : List Str, PyData.depthAll (xs.map PyData.str) = 0
  | [] => by simp [PyData.depthAll]
  | x :: xs => by simp [PyData.depthAll, PyData.depth, dep_strs xs]
theorem dpa_ints {K : PySem.W.Frag} {H : Hp} : ∀ xs : List Int, DpAll K H (xs.map V.int) (xs.map PyData.int)
  | [] => .nil
  | x :: xs => .cons (.int x) (dpa_ints xs)
theorem lay_ints : ∀ xs : List Int, PyData.canLayAll0 (xs.map PyData.int) = true
  | [] => by simp [PyData.canLayAll0]
  | x :: xs => by simp [PyData.canLayAll0, PyData.canLay0, lay_ints xs]
theorem dep_ints : ∀ xs : List Int, PyData.depthAll (xs.map PyData.int) = 0
  | [] => by simp [PyData.depthAll]
  | x :: xs => by simp [PyData.depthAll, PyData.depth, dep_ints xs]
theorem shp_of {d : PyData} (h1 : d.canLay0 = true) (h2 : d.depth ≤ 64) : SeqAt.shaped d = true := by
  show (d.canLay0 && decide (d.depth ≤ 64)) = true
  rw [h1, decide_eq_true h2]
  rfl
theorem cl_strs {xs : List Str} (hn : NL xs) : (PyData.list (xs.map PyData.str)).canLay0 = true ∧ (PyData.tuple (xs.map PyData.str)).canLay0 = true := ⟨by simpa [PyData.canLay0] using lay_strs xs hn.w, by simpa [PyData.canLay0] using lay_strs xs hn.w⟩
theorem cl_ints (xs : List Int) : (PyData.tuple (xs.map PyData.int)).canLay0 = true := by simpa [PyData.canLay0] using lay_ints xs
theorem shp_lstr {xs : List Str} (hn : NL xs) : SeqAt.shaped (.list (xs.map PyData.str)) = true := shp_of (cl_strs hn).1 (by simp only [PyData.depth, dep_strs]; omega)
theorem shp_tstr {xs : List Str} (hn : NL xs) : SeqAt.shaped (.tuple (xs.map PyData.str)) = true := shp_of (cl_strs hn).2 (by simp only [PyData.depth, dep_strs]; omega)
theorem shp_tint (xs : List Int) : SeqAt.shaped (.tuple (xs.map PyData.int)) = true := shp_of (cl_ints xs) (by simp only [PyData.depth, dep_ints]; omega)
theorem eqv_lstr {xs : List Str} (hn : NL xs) : PyData.eqv (.list (xs.map PyData.str)) (.list (xs.map PyData.str)) = true := SeqAt.eqv_refl _ (cl_strs hn).1
theorem eqv_tstr {xs : List Str} (hn : NL xs) : PyData.eqv (.tuple (xs.map PyData.str)) (.tuple (xs.map PyData.str)) = true := SeqAt.eqv_refl _ (cl_strs hn).2
theorem eqv_ints : ∀ xs ys : List Int, PyData.eqv (.tuple (xs.map PyData.int)) (.tuple (ys.map PyData.int)) = decide (xs = ys)
  | [], [] => by simp [PyData.eqv, PyData.eqvAll]
  | [], y :: ys => by simp [PyData.eqv, PyData.eqvAll]
  | x :: xs, [] => by simp [PyData.eqv, PyData.eqvAll]
  | x :: xs, y :: ys => by
    have e := eqv_ints xs ys
    simp only [PyData.eqv] at e
    simp only [List.map_cons, PyData.eqv, PyData.eqvAll, e]
    by_cases h : x = y <;> by_cases g : xs = ys <;> simp [h, g]
/-- what != asks of two equal lists of texts -/
theorem ne_lstr {K : PySem.W.Frag} {H : Hp} {a b : Addr} {xs : List Str} {Q : VK} (hn : NL xs) (h1 : SqL K H a (xs.map V.str)) (h2 : SqL K H b (xs.map V.str)) (k : Q (.bl false) H) : rNeD K (.ref a) (.ref b) H Q :=
  ⟨.list (xs.map PyData.str), .list (xs.map PyData.str), .lst h1 (dpa_strs xs), .lst h2 (dpa_strs xs), shp_lstr hn, shp_lstr hn, by rw [eqv_lstr hn]; exact k⟩
theorem ne_tstr {K : PySem.W.Frag} {H : Hp} {a b : Addr} {xs : List Str} {Q : VK} (hn : NL xs) (h1 : SqT K H a (xs.map V.str)) (h2 : SqT K H b (xs.map V.str)) (k : Q (.bl false) H) : rNeD K (.ref a) (.ref b) H Q :=
  ⟨.tuple (xs.map PyData.str), .tuple (xs.map PyData.str), .tup h1 (dpa_strs xs), .tup h2 (dpa_strs xs), shp_tstr hn, shp_tstr hn, by rw [eqv_tstr hn]; exact k⟩
theorem eq_tstr {K : PySem.W.Frag} {H : Hp} {a b : Addr} {xs : List Str} {Q : VK} (hn : NL xs) (h1 : SqT K H a (xs.map V.str)) (h2 : SqT K H b (xs.map V.str)) (k : Q (.bl true) H) : rEqD K (.ref a) (.ref b) H Q :=
  ⟨.tuple (xs.map PyData.str), .tuple (xs.map PyData.str), .tup h1 (dpa_strs xs), .tup h2 (dpa_strs xs), shp_tstr hn, shp_tstr hn, by rw [eqv_tstr hn]; exact k⟩
end K25

namespace K25
open PySem PySem.Spec PyProof.Rows L2 Ow
theorem hu64_of {A : Around} {k : Nat} (hr : Room k A) : A.units + 64 < cLine := hr.units
abbrev NCT : List Str := ["totals", "at", "name", "word"]
theorem scCT : FnScope NCT ["totals"] (defScope sCheckTotals) := ⟨rfl, rfl, rfl, by decide +kernel, rfl, by decide +kernel, by decide +kernel⟩
def spCT (K : PySem.W.Frag) : Sp := fun vs H Q _ => ∃ (t : Addr), vs = [.ref t] ∧ SqL K H t [] ∧ ∀ H', Same H H' → Q .non H'
abbrev NCS : List Str := ["sorts", "steps", "left", "leading", "x", "y"]
theorem scCS : FnScope NCS ["sorts", "steps"] (defScope sCheckSteps) := ⟨rfl, rfl, rfl, by decide +kernel, rfl, by decide +kernel, by decide +kernel⟩
/-- the block of the outer comprehension -/
def scCSx : Scope := { kind := .function, names := [(".0", .local), ("x", .cell), ("any", .globalImplicit), ("left", .cell), ("steps", .cell)], isGenerator := false, isCoroutine := false }
def teIn (K : PySem.W.Frag) : TE := tOp (rInD K) (tTup (tCons (tVar 4) (tCons (tVar 5) tNil))) (tVar 1)
def ttAny (K : PySem.W.Frag) : TT := tB (tCB (rAny K) (tCons (tLc (iList K (tVar 2)) (gName 5) tYes (teIn K) [5]) tNil))
theorem shp_pair {x y : Str} (hx : Wd x) (hy : Wd y) : SeqAt.shaped (.tuple [.str x, .str y]) = true :=
  shp_of (by simp [PyData.canLay0, PyData.canLayAll0, hx.lay, hy.lay]) (by simp [PyData.depth, PyData.depthAll])
theorem shp_nil : SeqAt.shaped (.list []) = true := shp_of (by simp [PyData.canLay0, PyData.canLayAll0]) (by simp [PyData.depth, PyData.depthAll])
/-- no step leads on -/
theorem lead_ev {K : PySem.W.Frag} {t L : Addr} {xs : List Str} {v0 v3 : Option V} {G : Hp} {Q : VK} (ht : SqL K G t []) (hL : SqL K G L (xs.map V.str)) (hn : NL xs) (k : ∀ D G', G D = none → Same G G' → G' D = some (.lst []) → Q (.ref D) G') :
    tLc (iList K (tVar 2)) (gName 4) (ttAny K) (tVar 4) [4] [v0, some (.ref t), some (.ref L), v3, none, none] G Q := by
  refine ⟨_, rfl, L, rfl, ⟨_, hL⟩, fun D hD => ?_⟩
  refine lc_list (K := K) (a := L) (xs := xs.map V.str) (fun i G' => G' D = some (.lst []) ∧ Same G G') ⟨upd_same, same_upd hD⟩ (fun i G' _ p => p.2.seq hL) ?_ (fun G' p => k D G' hD p.2 p.1)
  rintro i v G' hi ⟨e, s1⟩
  obtain ⟨x, ex, rfl⟩ := str_at hi
  have hx := hn.w x (List.mem_of_getElem? ex)
  refine ⟨rfl, ?_⟩
  show tB (tCB (rAny K) (tCons (tLc (iList K (tVar 2)) (gName 5) tYes (teIn K) [5]) tNil)) _ _ _
  refine ⟨_, rfl, L, rfl, ⟨_, s1.seq hL⟩, fun D2 hD2 => ?_⟩
  refine lc_list (K := K) (a := L) (xs := xs.map V.str) (fun j G2 => G2 D2 = some (.lst ((List.replicate j false).map V.bl)) ∧ Same G' G2) ⟨upd_same, same_upd hD2⟩ (fun j G2 _ p => p.2.seq (s1.seq hL)) ?_ ?_
  · rintro j v G2 hj ⟨e2, s2⟩
    obtain ⟨y, ey, rfl⟩ := str_at hj
    have hy := hn.w y (List.mem_of_getElem? ey)
    refine ⟨rfl, ?_⟩
    refine ⟨_, rfl, _, rfl, szl (by show 2 ≤ 1000; decide), fun T hT => ?_⟩
    refine ⟨_, rfl, .tuple [.str x, .str y], [], .tup (SqT.of upd_same) (.cons (.str _) (.cons (.str _) .nil)), .lst ((same_upd hT).seq (s2.seq (s1.seq ht))) .nil, shp_pair hx hy, shp_nil, ?_⟩
    refine ⟨_, same_upd hT _ _ e2, ?_, ?_, same_put hD2 (s2.trans (same_upd hT))⟩
    · rw [List.length_map, List.length_replicate]
      have z := (List.getElem?_eq_some_iff.mp ey).1
      have n16 := hn.n
      exact small1000 (by omega)
    · rw [upd_same, List.replicate_succ', List.map_append]
      rfl
  · rintro G2 ⟨e2, s2⟩
    refine ⟨D2, _, rfl, SqL.of e2, false, ?_, ?_⟩
    · rw [show (List.replicate (xs.map V.str).length false).any id = false by simp]
    · exact ⟨s2 _ _ e, s1.trans s2⟩
theorem lead_st {K : PySem.W.Frag} {t L : Addr} {xs : List Str} {v0 v3 : Option V} {G : Hp} {u : TS} {E : Ends} (ht : SqL K G t []) (hL : SqL K G L (xs.map V.str)) (hn : NL xs) (k : ∀ D G', G D = none → Same G G' → G' D = some (.lst []) → u E [v0, some (.ref t), some (.ref L), some (.ref D), none, none] G') :
    tSeq (tAsg (tLc (iList K (tVar 2)) (gName 4) (ttAny K) (tVar 4) (List.map (fun x => x.snd) [(("x" : Str), 4)])) (gName 3)) u E [v0, some (.ref t), some (.ref L), v3, none, none] G :=
  lead_ev (Q := fun v G' => gName 3 v [v0, some (.ref t), some (.ref L), v3, none, none] G' (u E)) ht hL hn k
theorem lead_en {K : PySem.W.Frag} {t L : Addr} {xs : List Str} {v0 v3 : Option V} {G : Hp} {E : Ends} (ht : SqL K G t []) (hL : SqL K G L (xs.map V.str)) (hn : NL xs) (k : ∀ D G', G D = none → Same G G' → G' D = some (.lst []) → E.nx [v0, some (.ref t), some (.ref L), some (.ref D), none, none] G') :
    tAsg (tLc (iList K (tVar 2)) (gName 4) (ttAny K) (tVar 4) (List.map (fun x => x.snd) [(("x" : Str), 4)])) (gName 3) E [v0, some (.ref t), some (.ref L), v3, none, none] G :=
  lead_ev (Q := fun v G' => gName 3 v [v0, some (.ref t), some (.ref L), v3, none, none] G' E.nx) ht hL hn k
def spCS (K : PySem.W.Frag) : Sp := fun vs H Q _ => ∃ (s t : Addr) (xs : List Str), vs = [.ref s, .ref t] ∧ SqL K H s (xs.map V.str) ∧ NL xs ∧ SqL K H t [] ∧ ∀ H', Same H H' → Q .non H'
section
variable {P : Program} {w : World} {K : PySem.W.Frag} {mg : Str → Option Value} {base : Heap} {f : Addr} {fd : FuncData}
theorem ok_ct (F : FnP K "_check_totals" sCheckTotals f fd) (Y : Fx w K mg) : FnOk P w K mg base CX0 1 f fd ["totals"] (spCT K) := by
  refine okD F scCT (fun vs H Q E h => ?_) (fun cdv A outer s H vs Q E hr h => ?_)
  · obtain ⟨t, rfl, _⟩ := h
    rfl
  · have nd := scCT.nd
    refine ⟨_, pss_one (ps_for PassesOwn.never rfl (pi_enumA (by rfl) Y.bEnumerate (pa_cons (pv 0) pa_nil)) (pg_tup rfl (pgs_cons (pg_name (i := 1) nd rfl (Or.inl rfl)) (pgs_cons (pg_tup rfl (pgs_cons (pg_name (i := 2) nd rfl (Or.inl rfl)) (pgs_cons (pg_name (i := 3) nd rfl (Or.inl rfl)) pgs_nil))) pgs_nil)))
      (pss_one (ps_ifN (pw_or (pt_cmpR op_notIn_seq (pv 3) (pe_tup (pa_cons pe_str (pa_cons pe_str pa_nil))) (by rfl)) (pw_or1 (pt_cmpR op_in_seq (pe_tup (pa_cons (pv 2) (pa_cons (pv 3) pa_nil))) (pe_slice sl_list (pv 0) po_none (po_some (pv 1))) (by rfl)))).pt pss_nil))), ?_⟩
    obtain ⟨t, rfl, ht, k⟩ := h
    refine ⟨_, rfl, t, [], rfl, .inl ht, fun J GG wk gk => for_it wk (fun i σ G => Same H G) (Same.refl _) (fun i σ G _ q => gk G q) (fun i v σ G G' hi => absurd hi (Nat.not_lt_zero _)) fun σ G s2 => k G s2⟩
theorem ok_cs (F : FnP K "_check_steps" sCheckSteps f fd) (Y : Fx w K mg) : FnOk P w K mg base CX0 1 f fd ["sorts", "steps"] (spCS K) := by
  refine okD F scCS (fun vs H Q E h => ?_) (fun cdv A outer s H vs Q E hr h => ?_)
  · obtain ⟨a, t, xs, rfl, _⟩ := h
    rfl
  · have nd := scCS.nd
    have hu65 : (A.deeper (envOfC "_check_steps" (defScope sCheckSteps) s.heap.objs.size f cdv)).units + 65 < cLine := by have := hr.un; omega
    have hu64 := hu64_of hr
    refine ⟨_, pss_cons (ps_set (i := 2) nd rfl (Or.inr rfl) (pe_callTy call_list_of (by rfl) Y.bList boot_list (pa_cons (pv 0) pa_nil)))
      (pss_cons (ps_setLc (i := 3) (own := [("x", 4)]) (g := gName 4) (tt := ttAny K) (te := tVar 4) rfl nd rfl rfl (by rfl) (pi_list (pv 2)) (blkOk_by (N := NCS) (sc := defScope sCheckSteps) (by decide +kernel)) (fun _ _ _ _ _ => pg_name (i := 4) nd rfl (Or.inr rfl))
          (fun _ _ _ _ _ => pts_one (pt_val (pe_callB (cr_any rfl) (by rfl) Y.bAny (by decide +kernel) (pa_cons (pe_lc (own := [("y", 5)]) (g := gName 5) (tt := tYes) (te := teIn K) rfl nd (pi_list (pv 2)) (blkOk_by (N := NCS) (sc := scCSx) (by decide +kernel)) (fun _ _ _ _ _ => pg_name (i := 5) nd rfl (Or.inl rfl)) (fun _ _ _ _ _ => pts_nil)
            (fun _ _ _ _ _ => pe_cmpR (op_inD hu65) (pe_tup (pa_cons (pv 4) (pa_cons (pv 5) pa_nil))) (pv 1) (by rfl))) pa_nil))))
          (fun _ _ _ _ _ => pv 4))
      (pss_cons (ps_while PassesOwn.never (pt_cmpR (op_neD hu64) (pv 3) (pv 2) (nomark _))
        (pss_cons (ps_set (i := 2) nd rfl (Or.inr rfl) (pv 3))
        (pss_cons (ps_setLc (i := 3) (own := [("x", 4)]) (g := gName 4) (tt := ttAny K) (te := tVar 4) rfl nd rfl rfl (by rfl) (pi_list (pv 2)) (blkOk_by (N := NCS) (sc := defScope sCheckSteps) (by decide +kernel)) (fun _ _ _ _ _ => pg_name (i := 4) nd rfl (Or.inr rfl))
          (fun _ _ _ _ _ => pts_one (pt_val (pe_callB (cr_any rfl) (by rfl) Y.bAny (by decide +kernel) (pa_cons (pe_lc (own := [("y", 5)]) (g := gName 5) (tt := tYes) (te := teIn K) rfl nd (pi_list (pv 2)) (blkOk_by (N := NCS) (sc := scCSx) (by decide +kernel)) (fun _ _ _ _ _ => pg_name (i := 5) nd rfl (Or.inl rfl)) (fun _ _ _ _ _ => pts_nil)
            (fun _ _ _ _ _ => pe_cmpR (op_inD hu65) (pe_tup (pa_cons (pv 4) (pa_cons (pv 5) pa_nil))) (pv 1) (by rfl))) pa_nil))))
          (fun _ _ _ _ _ => pv 4)) pss_nil)))
      (pss_one (ps_ifN (pt_truth (pv 2) (by intro _; rfl)) pss_nil)))), ?_⟩
    obtain ⟨a, t, xs, rfl, hs, hn, ht, k⟩ := h
    refine ⟨_, rfl, a, _, rfl, .inl hs, fun L hL => ?_⟩
    have s0 := same_upd (o := .lst (xs.map V.str)) hL
    change tSeq _ _ _ _ (upd H L (.lst (xs.map V.str)))
    refine lead_st (xs := xs) (s0.seq ht) (SqL.of upd_same) hn fun D G hD s1 eD => ?_
    have eL : G L = some (.lst (xs.map V.str)) := s1 _ _ upd_same
    replace s1 := s0.trans s1
    change tSeq (tWhile _ _) _ _ _ _
    refine while_by (fun σ G' => ∃ (L D : Addr) (ys : List Str), σ = [some (.ref a), some (.ref t), some (.ref L), some (.ref D), none, none] ∧ G' L = some (.lst (ys.map V.str)) ∧ G' D = some (.lst []) ∧ NL ys ∧ Same H G')
      (fun σ G' => match σ[2]? with
        | some (some (V.ref b)) => (match G' b with
          | some (.lst zs) => zs.length
          | _ => 0)
        | _ => 0) ⟨L, D, xs, rfl, eL, eD, hn, s1⟩ ?_ ?_
    · rintro σ G' ⟨L, D, ys, rfl, hL, hD, hn, sm⟩
      refine ⟨_, rfl, _, rfl, .list [], .list (ys.map PyData.str),   .lst (SqL.of hD) .nil, .lst (SqL.of hL) (dpa_strs ys), shp_nil, shp_lstr hn, ?_⟩
      cases ys with
      | nil =>
        refine ⟨false, by simp [PyData.eqv, PyData.eqvAll], iteF ?_⟩
        exact ⟨_, rfl, false, .inl ⟨_, SqL.of hL, rfl⟩, rfl, k G' sm⟩
      | cons y ys =>
        refine ⟨true, by simp [PyData.eqv, PyData.eqvAll], iteT ?_⟩
        refine ⟨_, rfl, ?_⟩
        change tSeq _ _ _ _ _
        refine lead_st (xs := []) (sm.seq ht) (SqL.of hD) ⟨List.nodup_nil, fun x hx => absurd hx List.not_mem_nil, Nat.zero_le _⟩ fun D2 G2 hD2 s2 e2 => ?_
        refine ⟨⟨D, D2, [], rfl, s2 _ _ hD, e2, ⟨List.nodup_nil, fun x hx => absurd hx List.not_mem_nil, Nat.zero_le _⟩, sm.trans s2⟩, ?_⟩
        show (match G2 D with
          | some (HO.lst zs) => zs.length
          | _ => 0) < (match G' L with
          | some (HO.lst zs) => zs.length
          | _ => 0)
        rw [s2 _ _ hD, hL]
        exact Nat.succ_pos _
    · rintro σ G' Q1 Q2 hq ⟨v, e1, u, e2, d, e, h1, h2, h3, h4, kk, e3, z⟩
      exact ⟨v, e1, u, e2, d, e, h1, h2, h3, h4, kk, e3, hq _ _ z⟩
end
end K25

namespace K25
open PySem PySem.Spec PyProof.Rows L2 Ow
/-- an expression that is never asked -/
def tNo : TE := fun _ _ _ => False
theorem pe_no {X : Cx} {e : Expr} : PE X e tNo := ⟨fun _ _ _ _ _ _ h => h.elim⟩
abbrev FnM (K : PySem.W.Frag) (m q : Str) (st : Stmt) (f : Addr) (fd : FuncData) : Prop := FunD K m q (defArgs st) (defBody st) (defScope st) [] [] f fd
def isIns : HO → Bool
  | .ins _ _ _ => true
  | _ => false
section
variable {K : PySem.W.Frag} {x : Addr} {H H' : Hp}
theorem Keep.one {o : HO} (k : Keep x H H') (hx : ∃ u, H x = some u ∧ isIns u = true) {b : Addr} (e : H b = some o) (n : isIns o = false) : H' b = some o := by
  refine k b o (fun z => ?_) e
  obtain ⟨u, hu, iu⟩ := hx
  subst z
  rw [hu] at e
  cases e
  rw [iu] at n
  cases n
theorem Keep.sqt {a : Addr} {xs : List V} (k : Keep x H H') (hx : ∃ u, H x = some u ∧ isIns u = true) (h : SqT K H a xs) : SqT K H' a xs :=
  h.elim (fun h => .inl (h.elim (fun h => .inl (k.one hx h rfl)) fun ⟨o, h⟩ => .inr ⟨o, k.one hx h rfl⟩)) fun h => .inr h
theorem Keep.sql {a : Addr} {xs : List V} (k : Keep x H H') (hx : ∃ u, H x = some u ∧ isIns u = true) (h : SqL K H a xs) : SqL K H' a xs :=
  h.elim (fun h => .inl (h.elim (fun h => .inl (k.one hx h rfl)) fun ⟨o, h⟩ => .inr ⟨o, k.one hx h rfl⟩)) fun h => .inr h
theorem Keep.tups {l : Addr} {vss : List (List V)} (k : Keep x H H') (hx : ∃ u, H x = some u ∧ isIns u = true) (h : TupsAt K H l vss) : TupsAt K H' l vss := by
  obtain ⟨as, q, e, g⟩ := h
  refine ⟨as, k.sql hx q, e, fun i t z => ?_⟩
  obtain ⟨vs, e1, e2⟩ := g i t z
  exact ⟨vs, e1, k.sqt hx e2⟩
end
abbrev NFI : List Str := ["self", "sorts", "letters", "totals", "kept_totals", "ends", "letter", "name", "word", "first", "second", "total"]
theorem scFI : FnScope NFI ["self", "sorts", "letters", "totals"] (defScope sFrame_Init) := ⟨rfl, rfl, rfl, by decide +kernel, rfl, by decide +kernel, by decide +kernel⟩
/-- a frame's parts without totals -/
structure FrOk (xs : List Str) (ls : List Lt) : Prop where
  nx : NL xs
  nl : NL (ls.map (·.1))
  ends : ∀ q ∈ ls, q.2.1 ∈ xs ∧ q.2.2 ∈ xs
def spFI (K : PySem.W.Frag) : Sp := fun vs H Q _ => ∃ (x s l t dx : Addr) (xs : List Str) (ls : List Lt), vs = [.ref x, .ref s, .ref l, .ref t] ∧ H x = some (.ins (CFrame K) dx []) ∧ SqL K H s (xs.map V.str) ∧ TupsAt K H l (ls.map ltV) ∧ SqL K H t [] ∧ FrOk xs ls ∧
  ∀ H', Keep x H H' → Q .non H'
theorem lt_at {ls : List Lt} {i : Nat} {vs : List V} (e1 : (ls.map ltV)[i]? = some vs) : ∃ lt, ls[i]? = some lt ∧ vs = ltV lt := by
  rw [List.getElem?_map] at e1
  cases e : ls[i]? with
  | none => rw [e] at e1; cases e1
  | some z => rw [e] at e1; exact ⟨z, rfl, (Option.some.inj e1).symm⟩
section
variable {P : Program} {w : World} {K : PySem.W.Frag} {mg : Str → Option Value} {base : Heap} {f : Addr} {fd : FuncData}
theorem ok_fi (F : FnM K "__init__" "Frame.__init__" sFrame_Init f fd) (Y : Fx w K mg) : FnOk P w K mg base CX0 3 f fd ["self", "sorts", "letters", "totals"] (spFI K) := by
  obtain ⟨d1, F1⟩ := Y.dCheckNames
  obtain ⟨d2, F2⟩ := Y.dCheckEnds
  obtain ⟨d3, F3⟩ := Y.dCheckTotals
  obtain ⟨d4, F4⟩ := Y.dCheckSteps
  have b1 := FunD.bindsN (ps := ["lists"]) F1 fun _ _ _ _ _ _ us hl => match us, hl with | [_], _ => rfl
  have b2 := FunD.bindsN (ps := ["sorts", "letters", "totals"]) F2 fun _ _ _ _ _ _ us hl => match us, hl with | [_, _, _], _ => rfl
  have b3 := FunD.bindsN (ps := ["totals"]) F3 fun _ _ _ _ _ _ us hl => match us, hl with | [_], _ => rfl
  have b4 := FunD.bindsN (ps := ["sorts", "steps"]) F4 fun _ _ _ _ _ _ us hl => match us, hl with | [_, _], _ => rfl
  have G1 : FnOk P w K mg base CX0 2 _ d1 ["lists"] (spCheck K) := ok_check F1 Y
  have G2 : FnOk P w K mg base CX0 1 _ d2 ["sorts", "letters", "totals"] (spCE K) := ok_ce F2 Y
  have G3 : FnOk P w K mg base CX0 1 _ d3 ["totals"] (spCT K) := ok_ct F3 Y
  have G4 : FnOk P w K mg base CX0 1 _ d4 ["sorts", "steps"] (spCS K) := ok_cs F4 Y
  refine okD F scFI (fun vs H Q E h => ?_) (fun cdv A outer s H vs Q E hr h => ?_)
  · obtain ⟨x, a, l, t, dx, xs, ls, rfl, _⟩ := h
    rfl
  · have nd := scFI.nd
    have hr1 : Room 1 _ := hr.mono (by decide)
    refine ⟨_, pss_cons (ps_expr (pe_call G1 hr (by rfl) Y.gCheckNames F1.kp b1 .nil pass0 (pa_cons (pe_lst (pa_cons (pv 1) (pa_cons
          (pe_lc (own := [("letter", 6)]) (g := gName 6) (tt := tYes) (te := tOp (rIxT K) (tVar 6) (tC (.int 0))) rfl nd (pi_list (pv 2)) (blkOk_by (N := NFI) (sc := defScope sFrame_Init) (by decide +kernel)) (fun _ _ _ _ _ => pg_name (i := 6) nd rfl (Or.inl rfl)) (fun _ _ _ _ _ => pts_nil) (fun _ _ _ _ _ => pe_ix ix_tup (pv 6) pe_int (fun _ _ => rfl))) pa_nil))) pa_nil)))
      (pss_cons (ps_expr (pe_call G2 hr1 (by rfl) Y.gCheckEnds F2.kp b2 .nil pass0 (pa_cons (pv 1) (pa_cons (pv 2) (pa_cons (pv 3) pa_nil)))))
      (pss_cons (ps_setLc (i := 4) (own := [("name", 7), ("word", 8)]) (g := gTup K 2 (gCons (gName 7) (gCons (gName 8) gNil))) (tt := tYes) (te := tNo) rfl nd rfl rfl (by rfl) (pi_list (pv 3)) (blkOk_by (N := NFI) (sc := defScope sFrame_Init) (by decide +kernel)) (fun _ _ _ _ _ => pg_tup rfl (pgs_cons (pg_name (i := 7) nd rfl (Or.inl rfl)) (pgs_cons (pg_name (i := 8) nd rfl (Or.inl rfl)) pgs_nil))) (fun _ _ _ _ _ => pts_nil) (fun _ _ _ _ _ => pe_no))
      (pss_cons (ps_expr (pe_call G3 hr1 (by rfl) Y.gCheckTotals F3.kp b3 .nil pass0 (pa_cons (pv 4) pa_nil)))
      (pss_cons (ps_set (i := 5) nd rfl (Or.inr rfl) (pe_dc (own := [("name", 7), ("first", 9), ("second", 10)]) (g := gTup K 3 (gCons (gName 7) (gCons (gName 9) (gCons (gName 10) gNil)))) (tt := tYes) (tk := tVar 7) (tv := tTup (tCons (tVar 9) (tCons (tVar 10) tNil))) rfl nd (pi_list (pv 2)) (blkOk_by (N := NFI) (sc := defScope sFrame_Init) (by decide +kernel))
          (fun _ _ _ _ _ => pg_tup rfl (pgs_cons (pg_name (i := 7) nd rfl (Or.inl rfl)) (pgs_cons (pg_name (i := 9) nd rfl (Or.inl rfl)) (pgs_cons (pg_name (i := 10) nd rfl (Or.inl rfl)) pgs_nil)))) (fun _ _ _ _ _ => pts_nil) (fun _ _ _ _ _ => pv 7) (fun _ _ _ _ _ => pe_tup (pa_cons (pv 9) (pa_cons (pv 10) pa_nil)))))
      (pss_cons (ps_expr (pe_call G4 hr1 (by rfl) Y.gCheckSteps F4.kp b4 .nil pass0 (pa_cons (pv 1) (pa_cons
          (pe_lc (own := [("total", 11)]) (g := gName 11) (tt := tYes) (te := tNo) rfl nd (pi_list (pv 4)) (blkOk_by (N := NFI) (sc := defScope sFrame_Init) (by decide +kernel)) (fun _ _ _ _ _ => pg_name (i := 11) nd rfl (Or.inl rfl)) (fun _ _ _ _ _ => pts_nil) (fun _ _ _ _ _ => pe_no)) pa_nil))))
      (pss_cons (ps_fld (pv 0) (pe_callTy call_tuple_of (by rfl) Y.bTuple (by decide +kernel) (pa_cons (pv 1) pa_nil)) rfl)
      (pss_cons (ps_fld (pv 0) (pe_callTy call_tuple_of (by rfl) Y.bTuple (by decide +kernel) (pa_cons
          (pe_lc (own := [("name", 7), ("first", 9), ("second", 10)]) (g := gTup K 3 (gCons (gName 7) (gCons (gName 9) (gCons (gName 10) gNil)))) (tt := tYes) (te := tTup (tCons (tVar 7) (tCons (tVar 9) (tCons (tVar 10) tNil)))) rfl nd (pi_list (pv 2)) (blkOk_by (N := NFI) (sc := defScope sFrame_Init) (by decide +kernel))
            (fun _ _ _ _ _ => pg_tup rfl (pgs_cons (pg_name (i := 7) nd rfl (Or.inl rfl)) (pgs_cons (pg_name (i := 9) nd rfl (Or.inl rfl)) (pgs_cons (pg_name (i := 10) nd rfl (Or.inl rfl)) pgs_nil)))) (fun _ _ _ _ _ => pts_nil) (fun _ _ _ _ _ => pe_tup (pa_cons (pv 7) (pa_cons (pv 9) (pa_cons (pv 10) pa_nil))))) pa_nil)) rfl)
      (pss_cons (ps_fld (pv 0) (pe_callTy call_tuple_of (by rfl) Y.bTuple (by decide +kernel) (pa_cons (pv 4) pa_nil)) rfl)
      (pss_one (ps_fld (pv 0) (pv 5) rfl)))))))))), ?_⟩
    obtain ⟨x, a, l, t, dx, xs, ls, rfl, hx, hs, hl, ht, ok, k⟩ := h
    obtain ⟨as, q, la, g⟩ := id hl
    rw [List.length_map] at la
    have hx0 : ∃ u, H x = some u ∧ isIns u = true := ⟨_, hx, rfl⟩
    have n16 : ls.length ≤ 16 := by have := ok.nl.n; rw [List.length_map] at this; exact this
    refine ⟨_, rfl, _, rfl, l, rfl, ⟨_, q⟩, fun D hD => ?_⟩
    refine lc_list (K := K) (a := l) (xs := as.map V.ref) (fun i G => G D = some (.lst (((ls.take i).map (·.1)).map V.str)) ∧ Same H G) ⟨upd_same, same_upd hD⟩ (fun i G _ p => p.2.seq q) ?_ ?_
    · rintro i v G hi ⟨e, s2⟩
      obtain ⟨b, eb, rfl⟩ := ref_at hi
      obtain ⟨vs, e1, hT⟩ := g i b eb
      obtain ⟨lt, e2, rfl⟩ := lt_at e1
      have li : i < ls.length := (List.getElem?_eq_some_iff.mp e2).1
      refine ⟨rfl, _, rfl, b, _, 0, _, rfl, rfl, sqt_same s2 hT, rfl, _, e, ?_, ?_, same_put hD s2⟩
      · rw [List.length_map, List.length_map, List.length_take]
        exact small1000 (by omega)
      · rw [upd_same, List.take_add_one, e2]
        simp [ltV]
    rintro G0 ⟨eD, s0⟩
    rw [List.length_map, la, List.take_length] at eD
    refine ⟨szl (by show 2 ≤ 1000; decide), fun p hp => ?_⟩
    have sp := s0.trans (same_upd (o := .lst [V.ref a, V.ref D]) hp)
    refine ⟨p, .ref a, .ref D, xs, ls.map (·.1), rfl, SqL.of upd_same, ⟨a, rfl, .inl (sp.seq hs), ok.nx⟩, ⟨D, rfl, .inl (SqL.of (same_upd hp _ _ eD)), ok.nl⟩, fun H1 s1 => ?_⟩
    replace s1 := sp.trans s1
    clear sp hp eD s0 hD
    refine ⟨_, rfl, _, rfl, _, rfl, a, l, t, xs, ls, rfl, s1.seq hs, hl.same s1, ok.ends, n16, s1.seq ht, fun H2 s2 => ?_⟩
    replace s2 := s1.trans s2
    clear s1
    refine ⟨_, rfl, t, rfl, ⟨_, s2.seq ht⟩, fun T hT => ?_⟩
    refine lc_list (K := K) (a := t) (xs := []) (fun i G => G T = some (.lst []) ∧ Same H2 G) ⟨upd_same, same_upd hT⟩ (fun i G _ p => (s2.trans p.2).seq ht) (fun i v G hi => nomatch hi) ?_
    rintro H3 ⟨eT, s3⟩
    replace s3 := s2.trans s3
    clear s2 hT
    refine ⟨_, rfl, T, rfl, SqL.of eT, fun H4 s4 => ?_⟩
    have eT := s4 _ _ eT
    replace s4 := s3.trans s4
    clear s3
    refine ⟨_, rfl, l, rfl, ⟨_, s4.seq q⟩, fun N hN => ?_⟩
    refine dc_it (walk_list (K := K) (a := l) (xs := as.map V.ref)) (fun i G => (∃ kvs : List (Key × V), G N = some (.dK kvs) ∧ kvs.length ≤ i) ∧ Same H4 G) ⟨⟨[], upd_same, Nat.le_refl _⟩, same_upd hN⟩ (fun i G _ p => (s4.trans p.2).seq q) ?_ ?_
    · rintro i v G G' hi ⟨⟨kvs, e, lk⟩, s5⟩ ⟨rfl, ev⟩
      obtain ⟨b, eb, rfl⟩ := ref_at ev
      obtain ⟨vs, e1, hT⟩ := g i b eb
      obtain ⟨lt, e2, rfl⟩ := lt_at e1
      have li : i < ls.length := (List.getElem?_eq_some_iff.mp e2).1
      refine ⟨b, _, rfl, sqt_same (s4.trans s5) hT, rfl, _, _, rfl, _, _, rfl, _, _, rfl, rfl, rfl, _, rfl, _, rfl, _, rfl, szl (by show 2 ≤ 1000; decide), fun T2 hT2 => ?_⟩
      refine ⟨kvs, .inr lt.1, rfl, same_upd hT2 _ _ e, small1000 (by omega), ⟨putK kvs (.inr lt.1) (.ref T2), upd_same, ?_⟩, same_put hN (s5.trans (same_upd hT2))⟩
      exact Nat.le_trans (length_putK _ _ _) (by omega)
    rintro H5 ⟨⟨kvs, eN, _⟩, s5⟩
    have eT := s5 _ _ eT
    replace s5 := s4.trans s5
    clear s4 hN
    refine ⟨_, rfl, _, rfl, T, rfl, ⟨_, SqL.of eT⟩, fun U hU => ?_⟩
    refine lc_list (K := K) (a := T) (xs := []) (fun i G => G U = some (.lst []) ∧ Same H5 G) ⟨upd_same, same_upd hU⟩ (fun i G _ p => SqL.of (p.2 _ _ eT)) (fun i v G hi => nomatch hi) ?_
    rintro H6 ⟨eU, s6⟩
    refine ⟨a, U, xs, rfl, (s5.trans s6).seq hs, ok.nx, SqL.of eU, fun H7 s7 => ?_⟩
    have eT := s7 _ _ (s6 _ _ eT)
    have eN := s7 _ _ (s6 _ _ eN)
    replace s7 := s5.trans (s6.trans s7)
    clear s5 s6 hU eU
    -- the fields
    have x1 := s7 _ _ hx
    have hs1 := s7.seq hs
    have hl1 := hl.same s7
    have k1 : Keep x H H7 := .of s7
    clear s7
    refine ⟨_, rfl, a, _, rfl, .inl ⟨hs1, fun p hp => ⟨_, rfl, x, CFrame K, dx, _, rfl, (upd_ne (ne_of_none x1 hp)).trans x1, Y.cFrame, Y.nFrameSorts, (by show 0 < 1000; decide), ?_⟩⟩⟩
    have kk : Keep x H7 (upd (upd H7 p (.tup (xs.map V.str))) x (.ins (CFrame K) dx [("_sorts", .ref p)])) := (Keep.of (same_upd hp)).trans .put
    replace hl1 := kk.tups ⟨_, x1, rfl⟩ hl1
    replace eT := kk.one ⟨_, x1, rfl⟩ eT rfl
    replace eN := kk.one ⟨_, x1, rfl⟩ eN rfl
    replace k1 := k1.trans kk
    replace x1 : upd (upd H7 p (.tup (xs.map V.str))) x (.ins (CFrame K) dx [("_sorts", .ref p)]) x = some (.ins (CFrame K) dx [("_sorts", .ref p)]) := upd_same
    obtain ⟨G1, e1⟩ : ∃ Z, Z = upd (upd H7 p (.tup (xs.map V.str))) x (.ins (CFrame K) dx [("_sorts", .ref p)]) := ⟨_, rfl⟩
    change tSeq _ _ _ _ (upd (upd H7 p (.tup (xs.map V.str))) x (.ins (CFrame K) dx [("_sorts", .ref p)]))
    rw [← e1] at hl1 eT eN k1 x1 ⊢
    clear kk e1 hs1 hp
    obtain ⟨as2, q2, la2, g2⟩ := hl1
    rw [List.length_map] at la2
    refine ⟨_, rfl, l, rfl, ⟨_, q2⟩, fun D hD => ?_⟩
    refine lc_list (K := K) (a := l) (xs := as2.map V.ref) (fun i G => (∃ us : List V, G D = some (.lst us) ∧ us.length = i) ∧ Same G1 G) ⟨⟨[], upd_same, rfl⟩, same_upd hD⟩ (fun i G _ p => p.2.seq q2) ?_ ?_
    · rintro i v G hi ⟨⟨us, e, lu⟩, s2⟩
      obtain ⟨b, eb, rfl⟩ := ref_at hi
      obtain ⟨vs, e1, hT⟩ := g2 i b eb
      obtain ⟨lt, e2, rfl⟩ := lt_at e1
      have li : i < ls.length := (List.getElem?_eq_some_iff.mp e2).1
      refine ⟨b, _, rfl, sqt_same s2 hT, rfl, _, _, rfl, _, _, rfl, _, _, rfl, rfl, rfl, ?_⟩
      refine ⟨_, rfl, _, rfl, _, rfl, szl (by show 3 ≤ 1000; decide), fun T2 hT2 => ?_⟩
      refine ⟨us, same_upd hT2 _ _ e, small1000 (by omega), ⟨us ++ [.ref T2], upd_same, by rw [List.length_append, lu]; rfl⟩, same_put hD (s2.trans (same_upd hT2))⟩
    rintro G2 ⟨⟨us, eD, _⟩, s2⟩
    replace x1 := s2 _ _ x1
    replace eT := s2 _ _ eT
    replace eN := s2 _ _ eN
    replace k1 := k1.trans (Keep.of s2)
    clear s2 hD q2 g2 la2
    refine ⟨D, us, rfl, .inl ⟨SqL.of eD, fun p2 hp => ⟨_, rfl, x, CFrame K, dx, _, rfl, (upd_ne (ne_of_none x1 hp)).trans x1, Y.cFrame, Y.nFrameLetters, (by show 1 < 1000; decide), ?_⟩⟩⟩
    have kk : Keep x G2 (upd (upd G2 p2 (.tup us)) x (.ins (CFrame K) dx [("_sorts", .ref p), ("_letters", .ref p2)])) := (Keep.of (same_upd hp)).trans .put
    replace eT := kk.one ⟨_, x1, rfl⟩ eT rfl
    replace k1 := k1.trans kk
    replace x1 : upd (upd G2 p2 (.tup us)) x (.ins (CFrame K) dx [("_sorts", .ref p), ("_letters", .ref p2)]) x = some (.ins (CFrame K) dx [("_sorts", .ref p), ("_letters", .ref p2)]) := upd_same
    obtain ⟨G3, e1⟩ : ∃ Z, Z = upd (upd G2 p2 (.tup us)) x (.ins (CFrame K) dx [("_sorts", .ref p), ("_letters", .ref p2)]) := ⟨_, rfl⟩
    change tSeq _ _ _ _ (upd (upd G2 p2 (.tup us)) x (.ins (CFrame K) dx [("_sorts", .ref p), ("_letters", .ref p2)]))
    rw [← e1] at eT k1 x1 ⊢
    clear kk e1 hp
    refine ⟨_, rfl, T, _, rfl, .inl ⟨SqL.of eT, fun p3 hp => ⟨_, rfl, x, CFrame K, dx, _, rfl, (upd_ne (ne_of_none x1 hp)).trans x1, Y.cFrame, Y.nFrameTotals, (by show 2 < 1000; decide), ?_⟩⟩⟩
    refine ⟨_, rfl, _, rfl, x, CFrame K, dx, _, rfl, upd_same, Y.cFrame, Y.nFrameEnds, (by show 3 < 1000; decide), ?_⟩
    exact k _ ((k1.trans ((Keep.of (same_upd hp)).trans .put)).trans .put)
end
end K25

namespace K25
open PySem PySem.Spec PyProof.Rows L2 Ow
def hid (d c : Addr) (H : Hp) : Hp := fun b => if b = d ∨ b = c then none else H b
theorem hid_pick {d c : Addr} {H H' : Hp} (k : ∀ b, b ≠ d → b ≠ c → H' b = H b) : hid d c H' = hid d c H := by
  funext b
  unfold hid
  by_cases h : b = d ∨ b = c
  · rw [if_pos h, if_pos h]
  · rw [if_neg h, if_neg h, k b (fun z => h (.inl z)) fun z => h (.inr z)]
theorem hid_at {d c b : Addr} {H : Hp} (h1 : b ≠ d) (h2 : b ≠ c) : hid d c H b = H b := if_neg fun h => h.elim h1 h2
theorem hid_same {d c : Addr} {H H' : Hp} (s : Same H H') : Same (hid d c H) (hid d c H') := fun b o e => by
  unfold hid at e ⊢
  by_cases h : b = d ∨ b = c
  · rw [if_pos h] at e; cases e
  · rw [if_neg h] at e ⊢; exact s b o e
theorem hid_sub {d c : Addr} {H : Hp} : Same (hid d c H) H := fun b o e => by
  unfold hid at e
  by_cases h : b = d ∨ b = c
  · rw [if_pos h] at e; cases e
  · rw [if_neg h] at e; exact e
theorem src_same {d c : Addr} {H H' : Hp} (s : Same H H') (h : SrcAt H d c) : SrcAt H' d c := let ⟨xs, l, m, t, h1, h2, h3⟩ := h; ⟨xs, l, m, t, s _ _ h1, h2, s _ _ h3⟩
theorem src_ne {d c b : Addr} {H : Hp} (h : SrcAt H d c) (n : H b = none) : b ≠ d ∧ b ≠ c := let ⟨_, _, _, _, h1, _, h3⟩ := h; ⟨(ne_of_none h3 n).symm, (ne_of_none h1 n).symm⟩

theorem src_put {d c L : Addr} {H : Hp} {o : HO} (n1 : L ≠ d) (n2 : L ≠ c) (h : SrcAt H d c) : SrcAt (upd H L o) d c := by
  obtain ⟨xs, l, m, t, h1, h2, h3⟩ := h
  exact ⟨xs, l, m, t, (upd_ne n2.symm).trans h1, h2, (upd_ne n1.symm).trans h3⟩
theorem hid_put {d c L : Addr} {H G : Hp} {o : HO} (hL : H L = none) (s : Same (hid d c H) (hid d c G)) : Same (hid d c H) (hid d c (upd G L o)) := fun b u e => by
  have nb : b ≠ L := ne_of_none (hid_sub b u e) hL
  have z := s b u e
  unfold hid at z ⊢
  by_cases q : b = d ∨ b = c
  · rw [if_pos q] at z
    cases z
  · rw [if_neg q] at z ⊢
    exact (upd_ne nb).trans z
/-! ### names -/
def tail2 (v : Nat) : Str := Txt.slice (toString (100 + (v : Int))) (some 1) none
def nameOf (c v : Nat) : Str := (⟨#[c]⟩ : Str) ++ tail2 v
def okT (v : Nat) : Bool := decide ((tail2 v).cps.size = 2) && (tail2 v).cps.toList.all fun c => decide (c ∈ SG.cps.toList)
def val2 (t : Str) : Nat := (t.cps.getD 0 0 - 48) * 10 + (t.cps.getD 1 0 - 48)
theorem tails : ((List.range 100).all fun v => okT v && decide (val2 (tail2 v) = v)) = true := by decide +kernel
theorem tlens : ((List.range 100).all fun v => decide ((PySem.Str.ofString (toString (100 + (v : Int)))).length ≤ 10)) = true := by decide +kernel
theorem lt_sg : ∀ c ∈ LT.cps.toList, c ∈ SG.cps.toList := by decide +kernel
theorem tail_ok {v : Nat} (h : v < 100) : (tail2 v).cps.size = 2 ∧ (∀ c ∈ (tail2 v).cps.toList, c ∈ SG.cps.toList) ∧ val2 (tail2 v) = v := by
  have z := List.all_eq_true.mp tails v (List.mem_range.mpr h)
  obtain ⟨z1, z2⟩ := an z
  obtain ⟨z3, z4⟩ := an z1
  exact ⟨of_decide_eq_true z3, fun c hc => of_decide_eq_true (List.all_eq_true.mp z4 c hc), of_decide_eq_true z2⟩
theorem name_cps (c v : Nat) : (nameOf c v).cps = #[c] ++ (tail2 v).cps := rfl
theorem name_wd {c v : Nat} (hc : c ∈ LT.cps.toList) (hv : v < 100) : Wd (nameOf c v) := by
  obtain ⟨t1, t2, _⟩ := tail_ok hv
  have sz : (nameOf c v).cps.size = 3 := by rw [name_cps, Array.size_append, t1]; rfl
  refine ⟨by show 1 ≤ (nameOf c v).cps.size; omega, by show (nameOf c v).cps.size ≤ 12; omega, fun x hx => ?_, fun i x hx => ?_⟩
  · rw [name_cps, Array.getElem?_append_left (by show 0 < 1; decide)] at hx
    have e : c = x := by simpa using hx
    rw [← e]
    exact hc
  · rw [name_cps] at hx
    by_cases l : i < 1
    · have i0 : i = 0 := by omega
      subst i0
      rw [Array.getElem?_append_left (by show 0 < 1; decide)] at hx
      have e : c = x := by simpa using hx
      rw [← e]
      exact lt_sg c hc
    · rw [Array.getElem?_append_right (by show 1 ≤ i; omega)] at hx
      exact t2 x (by rw [← Array.getElem?_toList] at hx; exact List.mem_of_getElem? hx)
theorem name_inj {c c' v v' : Nat} (hv : v < 100) (hv' : v' < 100) (h : nameOf c v = nameOf c' v') : v = v' := by
  have e := congrArg (fun z : Str => z.cps.toList) h
  simp only [name_cps, Array.toList_append] at e
  have e2 : (tail2 v).cps.toList = (tail2 v').cps.toList := (List.cons.inj e).2
  have e3 : tail2 v = tail2 v' := by
    cases h1 : tail2 v with
    | mk a =>
      cases h2 : tail2 v' with
      | mk b =>
        rw [h1, h2] at e2
        exact congrArg Str.mk (Array.toList_inj.mp e2)
  rw [← (tail_ok hv).2.2, ← (tail_ok hv').2.2, e3]
abbrev NNm : List Str := ["_law_source_here", "_law_many", "_law_shift", "_law_names_here", "_law_k", "_law_letter"]
theorem scNm : FnScope NNm ["_law_source_here", "_law_many"] (defScope sLawNames) := ⟨rfl, rfl, rfl, by decide +kernel, rfl, by decide +kernel, by decide +kernel⟩
def spNm (K : PySem.W.Frag) : Sp := fun vs H Q _ => ∃ (d c : Addr) (n : Nat), vs = [.ref d, .int (n : Int)] ∧ SrcAt H d c ∧ n ≤ 16 ∧
  ∀ (l : Addr) (ns : List Str) (H' : Hp), SrcAt H' d c → Same (hid d c H) (hid d c H') → NL ns → ns.length = n → SqL K (hid d c H') l (ns.map V.str) → Q (.ref l) H'
section
variable {P : Program} {w : World} {K : PySem.W.Frag} {mg : Str → Option Value} {base : Heap} {f : Addr} {fd : FuncData}
theorem ok_nm (F : FnP K "_law_names" sLawNames f fd) (Y : Fx w K mg) : FnOk P w K mg base CX0 2 f fd ["_law_source_here", "_law_many"] (spNm K) := by
  obtain ⟨d1, F1⟩ := Y.dLawPick
  have b1 := FunD.bindsN (ps := ["_law_source_here", "_law_many"]) F1 fun _ _ _ _ _ _ us hl => match us, hl with | [_, _], _ => rfl
  have G1 : FnOk P w K mg base CX0 1 _ d1 ["_law_source_here", "_law_many"] spPick := ok_pick F1 Y.bl
  refine okD F scNm (fun vs H Q E h => ?_) (fun cdv A outer s H vs Q E hr h => ?_)
  · obtain ⟨d, c, n, rfl, _⟩ := h
    rfl
  · have nd := scNm.nd
    have B := Y.bl
    refine ⟨_, pss_cons (ps_set (i := 2) nd rfl (Or.inl rfl) (pe_call G1 hr (by rfl) Y.gLawPick F1.kp b1 .nil pass0 (pa_cons (pv 0) (pa_cons pe_int pa_nil))))
      (pss_cons (ps_set (i := 3) nd rfl (Or.inl rfl) (pe_lst pa_nil))
      (pss_cons (ps_for PassesOwn.never rfl (pi_range1 (by rfl) B.range (pa_cons (pv 1) pa_nil)) (pg_name (i := 4) nd rfl (Or.inl rfl))
        (pss_cons (ps_set (i := 5) nd rfl (Or.inl rfl) (pe_ix ix_str pe_str (pe_call G1 hr (by rfl) Y.gLawPick F1.kp b1 .nil pass0 (pa_cons (pv 0) (pa_cons pe_int pa_nil))) (fun _ _ => rfl)))
        (pss_one (ps_expr (pe_bm PySem.F.plainAttrs_list PySem.F.slot_list_append PySem.F.type_list_append mt_append (pv 3) (pa_cons (pe_op op_add_str (pv 5)
          (pe_slice C8.sl_txt (pe_callTy call_str_int (by rfl) B.str (by decide +kernel) (pa_cons (pe_op op_add pe_int (pe_op op_mod (pe_callTy call_int1 (by rfl) B.int boot_int (pa_cons (pe_op op_add (pv 2) (pe_op op_mul pe_int (pv 4))) pa_nil)) pe_int)) pa_nil)) (po_some pe_int) po_none)) pa_nil))))))
      (pss_one (ps_ret (pv 3))))), ?_⟩
    obtain ⟨d, c, n, rfl, src, hn, k⟩ := h
    refine ⟨_, rfl, d, c, 100, rfl, src, by decide, by decide, fun r H1 r0 r1 src1 keep1 => ?_⟩
    obtain ⟨sh, rfl⟩ : ∃ sh : Nat, r = (sh : Int) := ⟨r.toNat, by omega⟩
    refine ⟨szl (by show 0 ≤ 1000; decide), fun L hL => ?_⟩
    obtain ⟨n1, n2⟩ := src_ne src1 hL
    refine ⟨_, rfl, _, rfl, by omega, by omega, ?_⟩
    have s1 : hid d c H1 = hid d c H := hid_pick keep1
    have src2 := src_same (same_upd (o := .lst []) hL) src1
    have sm2 : Same (hid d c H) (hid d c (upd H1 L (.lst []))) := by rw [← s1]; exact hid_same (same_upd hL)
    rw [Int.toNat_natCast]
    refine for_range (lo := 0) (n := n) (fun i σ G => (∃ v4 v5, σ = [some (.ref d), some (.int (n : Int)), some (.int (sh : Int)), some (.ref L), v4, v5]) ∧ SrcAt G d c ∧ Same (hid d c H) (hid d c G) ∧
      ∃ ns : List Str, G L = some (.lst (ns.map V.str)) ∧ ns.length = i ∧ ∀ j x, ns[j]? = some x → ∃ l ∈ LT.cps.toList, x = nameOf l ((sh + 37 * j) % 100)) ⟨⟨_, _, rfl⟩, src2, sm2, [], upd_same, rfl, fun j x e => by simp at e⟩ ?_ ?_
    · rintro i σ G hi ⟨⟨v4, v5, rfl⟩, src, sm, ns, e1, ln, hns⟩
      refine ⟨_, rfl, d, c, 26, rfl, src, by decide, by decide, fun r H2 r0 r1 src3 keep3 => ?_⟩
      obtain ⟨q, rfl⟩ : ∃ q : Nat, r = (q : Int) := ⟨r.toNat, by omega⟩
      have q26 : q < LT.cps.toList.length := by show q < 26; omega
      have e2 : H2 L = some (.lst (ns.map V.str)) := (keep3 L n1 n2).trans e1
      refine ⟨_, _, LT.cps.toList[q], rfl, rfl, by decide, atI_nat (List.getElem?_eq_getElem q26), ?_⟩
      refine ⟨_, rfl, .inl ⟨rfl, _, SqL.of e2⟩, ?_⟩
      have v1 : (sh + 37 * i) % 100 < 100 := Nat.mod_lt _ (by decide)
      have ev : (100 : Int) + ((sh : Int) + 37 * (0 + (i : Int))) % 100 = 100 + (((sh + 37 * i) % 100 : Nat) : Int) := by omega
      have t1 : ((100 : Int) + ((sh : Int) + 37 * (0 + (i : Int))) % 100).natAbs.log2 < 1920 := by
        rw [ev, Nat.log2_lt (by omega)]
        exact Nat.lt_of_lt_of_le (show (100 + (((sh + 37 * i) % 100 : Nat) : Int)).natAbs < 256 by omega) (by decide)
      have t2 : (PySem.Str.ofString (toString ((100 : Int) + ((sh : Int) + 37 * (0 + (i : Int))) % 100))).length ≤ sizeLine := by
        rw [ev]
        exact Nat.le_trans (of_decide_eq_true (List.all_eq_true.mp tlens _ (List.mem_range.mpr v1))) (by decide)
      have t3 : Txt.slice (PySem.Str.ofString (toString ((100 : Int) + ((sh : Int) + 37 * (0 + (i : Int))) % 100))) (some 1) none = tail2 ((sh + 37 * i) % 100) := by
        rw [ev]
        rfl
      have t4 : (⟨#[LT.cps.toList[q]]⟩ : Str).length + (Txt.slice (PySem.Str.ofString (toString ((100 : Int) + ((sh : Int) + 37 * (0 + (i : Int))) % 100))) (some 1) none).length ≤ sizeLine := by
        rw [t3]
        show 1 + (tail2 ((sh + 37 * i) % 100)).cps.size ≤ sizeLine
        rw [(tail_ok v1).1]
        decide
      refine ⟨_, rfl, _, rfl, _, rfl, _, _, rfl, rfl, .inl ⟨by decide, by decide⟩, _, _, rfl, rfl, .inl ⟨_, rfl, _, _, rfl, rfl, (show (0 : Int) < 100 by decide), _, _, rfl, rfl, _, rfl, t1, 1, rfl, _, rfl, t2, _, _, rfl, rfl, t4, ?_⟩⟩
      refine ⟨L, _, _, rfl, rfl, e2, ?_, ⟨_, _, rfl⟩, ?_, ?_, ns ++ [nameOf LT.cps.toList[q] ((sh + 37 * i) % 100)], ?_, by rw [List.length_append, ln]; rfl, fun j x ex => ?_⟩
      · rw [List.length_map, ln]
        exact small1000 (by omega)
      · exact src_put n1 n2 src3
      · exact hid_put ((keep1 L n1 n2).symm.trans hL) (by rw [hid_pick keep3]; exact sm)
      · rw [upd_same, List.map_append, t3]
        rfl
      · by_cases lt : j < ns.length
        · rw [List.getElem?_append_left lt] at ex
          exact hns j x ex
        · rw [List.getElem?_append_right (by omega)] at ex
          have j0 : j - ns.length = 0 := by
            cases z : j - ns.length with
            | zero => rfl
            | succ m => rw [z] at ex; cases ex
          rw [j0] at ex
          have jj : j = i := by omega
          subst jj
          exact ⟨_, List.getElem_mem _, (Option.some.inj ex).symm⟩
    · rintro σ G ⟨⟨v4, v5, rfl⟩, src, sm, ns, e1, ln, hns⟩
      refine ⟨_, rfl, k L ns G src sm ⟨?_, fun x hx => ?_, by omega⟩ ln (SqL.of ((hid_at n1 n2).trans e1))⟩
      · refine List.pairwise_iff_getElem.mpr fun i j li lj lt e => ?_
        obtain ⟨l1, _, x1⟩ := hns i _ (List.getElem?_eq_getElem li)
        obtain ⟨l2, _, x2⟩ := hns j _ (List.getElem?_eq_getElem lj)
        rw [x1, x2] at e
        have z := name_inj (Nat.mod_lt _ (by decide)) (Nat.mod_lt _ (by decide)) e
        omega
      · obtain ⟨i, li, rfl⟩ := List.getElem_of_mem hx
        obtain ⟨l, hl, e⟩ := hns i _ (List.getElem?_eq_getElem li)
        rw [e]
        exact name_wd hl (Nat.mod_lt _ (by decide))
end
end K25

namespace K25
open PySem PySem.Spec PyProof.Rows L2 Ow
/-! ### the drawn frame -/
theorem sqt_put {K : PySem.W.Frag} {H : Hp} {D t : Addr} {xs l : List V} {o : HO} (e : H D = some (.lst l)) (h : SqT K H t xs) : SqT K (upd H D o) t xs := by
  have one : ∀ {u : HO}, H t = some u → (∀ l, u ≠ .lst l) → upd H D o t = some u := fun {u} z n => (upd_ne (fun q => by
    subst q
    rw [e] at z
    cases z
    exact n l rfl)).trans z
  exact h.elim (fun h => .inl (h.elim (fun h => .inl (one h fun _ z => nomatch z)) fun ⟨o, h⟩ => .inr ⟨o, one h fun _ z => nomatch z⟩)) fun h => .inr h
theorem sqt_putD {K : PySem.W.Frag} {H : Hp} {D t : Addr} {xs : List V} {l : List (Key × V)} {o : HO} (e : H D = some (.dK l)) (h : SqT K H t xs) : SqT K (upd H D o) t xs := by
  have one : ∀ {u : HO}, H t = some u → (∀ l, u ≠ .dK l) → upd H D o t = some u := fun {u} z n => (upd_ne (fun q => by
    subst q
    rw [e] at z
    cases z
    exact n l rfl)).trans z
  exact h.elim (fun h => .inl (h.elim (fun h => .inl (one h fun _ z => nomatch z)) fun ⟨o, h⟩ => .inr ⟨o, one h fun _ z => nomatch z⟩)) fun h => .inr h
theorem hid_upd {d c L : Addr} {G : Hp} {o : HO} (n1 : L ≠ d) (n2 : L ≠ c) : hid d c (upd G L o) = upd (hid d c G) L o := by
  funext b
  by_cases e : b = L
  · subst e
    rw [hid_at n1 n2, upd_same, upd_same]
  · rw [upd_ne e]
    unfold hid
    rw [upd_ne e]
/-- these are tuples of these -/
def AllT (K : PySem.W.Frag) (H : Hp) (us : List Addr) (vss : List (List V)) : Prop := us.length = vss.length ∧ ∀ (i : Nat) (t : Addr), us[i]? = some t → ∃ vs, vss[i]? = some vs ∧ SqT K H t vs
theorem AllT.same {K : PySem.W.Frag} {H H' : Hp} {us : List Addr} {vss : List (List V)} (s : Same H H') (h : AllT K H us vss) : AllT K H' us vss := ⟨h.1, fun i t e => let ⟨vs, a, b⟩ := h.2 i t e; ⟨vs, a, sqt_same s b⟩⟩
theorem AllT.put {K : PySem.W.Frag} {H : Hp} {D : Addr} {l : List V} {o : HO} {us : List Addr} {vss : List (List V)} (e : H D = some (.lst l)) (h : AllT K H us vss) : AllT K (upd H D o) us vss := ⟨h.1, fun i t z => let ⟨vs, a, b⟩ := h.2 i t z; ⟨vs, a, sqt_put e b⟩⟩
theorem AllT.putD {K : PySem.W.Frag} {H : Hp} {D : Addr} {l : List (Key × V)} {o : HO} {us : List Addr} {vss : List (List V)} (e : H D = some (.dK l)) (h : AllT K H us vss) : AllT K (upd H D o) us vss := ⟨h.1, fun i t z => let ⟨vs, a, b⟩ := h.2 i t z; ⟨vs, a, sqt_putD e b⟩⟩
theorem AllT.snoc {K : PySem.W.Frag} {H : Hp} {us : List Addr} {vss : List (List V)} {u : Addr} {vs : List V} (h : AllT K H us vss) (g : SqT K H u vs) : AllT K H (us ++ [u]) (vss ++ [vs]) := by
  refine ⟨by rw [List.length_append, List.length_append, h.1]; rfl, fun i t e => ?_⟩
  by_cases lt : i < us.length
  · rw [List.getElem?_append_left lt] at e
    obtain ⟨ws, a, b⟩ := h.2 i t e
    exact ⟨ws, by rw [List.getElem?_append_left (by rw [← h.1]; exact lt)]; exact a, b⟩
  · rw [List.getElem?_append_right (by omega)] at e
    have j0 : i - us.length = 0 := by
      cases z : i - us.length with
      | zero => rfl
      | succ m => rw [z] at e; cases e
    rw [j0] at e
    have eu : u = t := by simpa using e
    subst eu
    refine ⟨vs, ?_, g⟩
    rw [List.getElem?_append_right (by rw [← h.1]; omega), ← h.1, j0]
    rfl
theorem AllT.nil {K : PySem.W.Frag} {H : Hp} : AllT K H [] [] := ⟨rfl, fun i t e => by simp at e⟩
theorem AllT.tups {K : PySem.W.Frag} {H : Hp} {l : Addr} {us : List Addr} {vss : List (List V)} (e : SqL K H l (us.map V.ref)) (h : AllT K H us vss) : TupsAt K H l vss := ⟨us, e, h.1, h.2⟩
def wdB (x : Str) : Bool := decide (1 ≤ x.length) && (decide (x.length ≤ 12) && ((match x.cps[0]? with
  | some c => decide (c ∈ LT.cps.toList)
  | none => true) && x.cps.toList.all fun c => decide (c ∈ SG.cps.toList)))
theorem wd_of {x : Str} (h : wdB x = true) : Wd x := by
  obtain ⟨h1, h2⟩ := an h
  obtain ⟨h2, h3⟩ := an h2
  obtain ⟨h3, h4⟩ := an h3
  refine ⟨of_decide_eq_true h1, of_decide_eq_true h2, fun c e => ?_, fun i c e => ?_⟩
  · rw [e] at h3
    exact of_decide_eq_true h3
  · exact of_decide_eq_true (List.all_eq_true.mp h4 c (by rw [← Array.getElem?_toList] at e; exact List.mem_of_getElem? e))
def ABC : List Str := ["a", "b", "c"]
theorem abc_nl : NL ABC := ⟨by decide +kernel, fun x hx => wd_of (List.all_eq_true.mp (show ABC.all wdB = true by decide +kernel) x hx), by decide⟩
theorem NL.sub {xs ys : List Str} (h : NL xs) (s : ys.Sublist xs) : NL ys := ⟨h.nd.sublist s, fun x hx => h.w x (s.subset hx), Nat.le_trans s.length_le h.n⟩
/-- the dict of the letters' ends: each name's tuple -/
def kvL : List Lt → List Addr → List (Key × V)
  | q :: ls, a :: as => (.inr q.1, .ref a) :: kvL ls as
  | _, _ => []
theorem kvL_len : ∀ (ls : List Lt) (as : List Addr), (kvL ls as).length ≤ ls.length
  | [], _ => by simp [kvL]
  | _ :: _, [] => by simp [kvL]
  | q :: ls, a :: as => Nat.succ_le_succ (kvL_len ls as)
theorem kvL_snoc (q : Lt) (a : Addr) : ∀ (ls : List Lt) (as : List Addr), ls.length = as.length → kvL (ls ++ [q]) (as ++ [a]) = kvL ls as ++ [(.inr q.1, .ref a)]
  | [], [], _ => rfl
  | [], _ :: _, h => by simp at h
  | _ :: _, [], h => by simp at h
  | p :: ls, b :: as, h => congrArg (_ :: ·) (kvL_snoc q a ls as (Nat.succ.inj h))
theorem kvL_no {x : Str} : ∀ (ls : List Lt) (as : List Addr), x ∉ ls.map (·.1) → valV (kvL ls as) (.inr x) = none
  | [], _, _ => rfl
  | _ :: _, [], _ => rfl
  | q :: ls, a :: as, h => by
    have h1 : ¬ ((.inr q.1 : Key) = .inr x) := fun z => h (by injection z with z; rw [← z]; exact List.mem_cons_self)
    show valV ((.inr q.1, .ref a) :: kvL ls as) (.inr x) = none
    rw [valV_neg h1]
    exact kvL_no ls as fun z => h (List.mem_cons_of_mem _ z)
theorem kvL_get : ∀ {ls : List Lt} {as : List Addr} {i : Nat} {q : Lt} {a : Addr}, (ls.map (·.1)).Nodup → ls[i]? = some q → as[i]? = some a → valV (kvL ls as) (.inr q.1) = some (.ref a)
  | [], _, _, _, _, _, h, _ => by simp at h
  | _ :: _, [], _, _, _, _, _, h => by simp at h
  | p :: ls, b :: as, 0, q, a, nd, h1, h2 => by
    have e1 : p = q := by simpa using h1
    have e2 : b = a := by simpa using h2
    rw [e1, e2]
    exact valV_pos (p := ((Sum.inr q.1 : Key), V.ref a)) rfl
  | p :: ls, b :: as, i + 1, q, a, nd, h1, h2 => by
    have h1' : ls[i]? = some q := by simpa using h1
    have nd' := List.nodup_cons.mp (show (p.1 :: ls.map (·.1)).Nodup from nd)
    have n1 : ¬ ((.inr p.1 : Key) = .inr q.1) := fun z => nd'.1 (by injection z with z; rw [z]; exact List.mem_map.mpr ⟨q, List.mem_of_getElem? h1', rfl⟩)
    show valV ((.inr p.1, .ref b) :: kvL ls as) (.inr q.1) = _
    rw [valV_neg n1]
    exact kvL_get nd'.2 h1' (by simpa using h2)
theorem cutV_take (xs : List V) (n : Nat) : cutV xs none (some (n : Int)) = xs.take n := by
  unfold cutV
  rw [HT.sIx_none, HT.sIx_nat, List.drop_zero, Nat.sub_zero]
  by_cases h : n ≤ xs.length
  · rw [Nat.min_eq_left h]
  · rw [Nat.min_eq_right (by omega), List.take_length, List.take_of_length_le (by omega)]
theorem str_ix {xs : List Str} {j : Nat} (h : j < xs.length) : atI (xs.map V.str) ((j : Nat) : Int) = some (.str xs[j]) := atI_nat (by rw [List.getElem?_map, List.getElem?_eq_getElem h]; rfl)
theorem none_of {H H' : Hp} {p : Addr} (s : Same H H') (h : H' p = none) : H p = none := by
  cases z : H p with
  | none => rfl
  | some u => exact absurd (s _ _ z) (by rw [h]; intro q; cases q)
def endV (q : Lt) : List V := [.str q.2.1, .str q.2.2]
/-- at m stands the dict of the letters' ends -/
def LdAt (K : PySem.W.Frag) (H : Hp) (m : Addr) (ls : List Lt) : Prop := ∃ as : List Addr, H m = some (.dK (kvL ls as)) ∧ as.length = ls.length ∧ ∀ (i : Nat) (t : Addr), as[i]? = some t → ∃ q, ls[i]? = some q ∧ SqT K H t (endV q)
theorem LdAt.same {K : PySem.W.Frag} {H H' : Hp} {m : Addr} {ls : List Lt} (s : Same H H') (h : LdAt K H m ls) : LdAt K H' m ls := by
  obtain ⟨as, e, l, g⟩ := h
  refine ⟨as, s _ _ e, l, fun i t z => ?_⟩
  obtain ⟨q, e1, e2⟩ := g i t z
  exact ⟨q, e1, sqt_same s e2⟩
theorem LdAt.get {K : PySem.W.Frag} {H : Hp} {m : Addr} {ls : List Lt} (h : LdAt K H m ls) (nd : (ls.map (·.1)).Nodup) {i : Nat} {q : Lt} (hi : ls[i]? = some q) : ∃ t, DGet H m (.str q.1) (some (.ref t)) ∧ SqT K H t (endV q) := by
  obtain ⟨as, e, l, g⟩ := h
  have li := (List.getElem?_eq_some_iff.mp hi).1
  have ea : as[i]? = some as[i] := List.getElem?_eq_getElem (by omega)
  obtain ⟨q', e1, e2⟩ := g i _ ea
  rw [hi] at e1
  cases e1
  refine ⟨as[i], ?_, e2⟩
  have z : DGet H m (kV (.inr q.1)) (valV (kvL ls as) (.inr q.1)) := DGet.k e
  rw [kvL_get nd hi ea] at z
  exact z
def frV (s m o t b : Addr) : List (Key × V) := [(.inr "sorts", .ref s), (.inr "letters", .ref m), (.inr "order", .ref o), (.inr "totals", .ref t), (.inr "made", .ref b)]
/-- at d stands the drawn frame -/
structure FrAt (K : PySem.W.Frag) (H : Hp) (d : Addr) (xs : List Str) (ls : List Lt) : Prop where
  ex : ∃ s m o t b, H d = some (.dK (frV s m o t b)) ∧ H s = some (.lst (xs.map V.str)) ∧ LdAt K H m ls ∧ SqL K H o ((ls.map (·.1)).map V.str)
  ok : FrOk xs ls
theorem FrAt.same {K : PySem.W.Frag} {H H' : Hp} {d : Addr} {xs : List Str} {ls : List Lt} (s : Same H H') (h : FrAt K H d xs ls) : FrAt K H' d xs ls := by
  obtain ⟨⟨a, m, o, t, b, h1, h2, h3, h4⟩, ok⟩ := h
  exact ⟨⟨a, m, o, t, b, s _ _ h1, s _ _ h2, h3.same s, s.seq h4⟩, ok⟩
theorem fr_sorts {H : Hp} {d s m o t b : Addr} (h : H d = some (.dK (frV s m o t b))) : DGet H d (.str "sorts") (some (.ref s)) := by
  have z : DGet H d (kV (.inr "sorts")) (valV (frV s m o t b) (.inr "sorts")) := DGet.k h
  rw [show valV (frV s m o t b) (.inr "sorts") = some (.ref s) from rfl] at z
  exact z
theorem fr_letters {H : Hp} {d s m o t b : Addr} (h : H d = some (.dK (frV s m o t b))) : DGet H d (.str "letters") (some (.ref m)) := by
  have z : DGet H d (kV (.inr "letters")) (valV (frV s m o t b) (.inr "letters")) := DGet.k h
  rw [show valV (frV s m o t b) (.inr "letters") = some (.ref m) from rfl] at z
  exact z
theorem fr_order {H : Hp} {d s m o t b : Addr} (h : H d = some (.dK (frV s m o t b))) : DGet H d (.str "order") (some (.ref o)) := by
  have z : DGet H d (kV (.inr "order")) (valV (frV s m o t b) (.inr "order")) := DGet.k h
  rw [show valV (frV s m o t b) (.inr "order") = some (.ref o) from rfl] at z
  exact z
abbrev NFd : List Str := ["_law_every", "_law_order", "_law_letters", "_law_totals", "_law_built", "_law_name"]
theorem scFd : FnScope NFd ["_law_every", "_law_order", "_law_letters", "_law_totals"] (defScope sLawFramed) := ⟨rfl, rfl, rfl, by decide +kernel, rfl, by decide +kernel, by decide +kernel⟩
def spFd (K : PySem.W.Frag) : Sp := fun vs H Q _ => ∃ (s o m t : Addr) (xs : List Str) (ls : List Lt), vs = [.ref s, .ref o, .ref m, .ref t] ∧ H s = some (.lst (xs.map V.str)) ∧ SqL K H o ((ls.map (·.1)).map V.str) ∧ LdAt K H m ls ∧ SqL K H t [] ∧ FrOk xs ls ∧
  ∀ d b H', H d = none → Same H H' → H' d = some (.dK (frV s m o t b)) → Q (.ref d) H'
section
variable {P : Program} {w : World} {K : PySem.W.Frag} {mg : Str → Option Value} {base : Heap} {f : Addr} {fd : FuncData}
theorem same_new {H H2 : Hp} {x dx : Addr} {u v : HO} (hx : H x = none) (hd : H dx = none) (k : Keep x (upd (upd H dx v) x u) H2) : Same H H2 := fun b o e => k b o (ne_of_none e hx) (by rw [upd_ne (ne_of_none e hx), upd_ne (ne_of_none e hd)]; exact e)
/-- what Frame(s, l, t) asks and tells -/
theorem mk_fr {H : Hp} {s l t : Addr} {xs : List Str} {ls : List Lt} {Q : Addr → Hp → Prop} (hs : SqL K H s (xs.map V.str)) (hl : TupsAt K H l (ls.map ltV)) (ht : SqL K H t []) (ok : FrOk xs ls) (k : ∀ b H', Same H H' → Q b H') :
    ∀ x dx, H x = none → H dx = none → dx ≠ x → spFI K (.ref x :: ([.ref s, .ref l, .ref t] ++ [])) (upd (upd H dx (.own x)) x (.ins (CFrame K) dx [])) (fun v H2 => v = .non ∧ Q x H2) E0 := fun x dx hx hd nd => by
  have s0 : Same H (upd (upd H dx (.own x)) x (.ins (CFrame K) dx [])) := same_new hx hd .refl
  exact ⟨x, s, l, t, dx, xs, ls, rfl, upd_same, s0.seq hs, hl.same s0, s0.seq ht, ok, fun H' kk => ⟨rfl, k x H' (same_new hx hd kk)⟩⟩
theorem ok_fd (F : FnP K "_law_framed" sLawFramed f fd) (Y : Fx w K mg) : FnOk P w K mg base CX0 5 f fd ["_law_every", "_law_order", "_law_letters", "_law_totals"] (spFd K) := by
  obtain ⟨d2, F2⟩ := Y.dFrame_Init
  have b2 := FunD.bindsN (ps := ["self", "sorts", "letters", "totals"]) F2 fun _ _ _ _ _ _ us hl => match us, hl with | [_, _, _, _], _ => rfl
  have G2 : FnOk P w K mg base CX0 3 _ d2 ["self", "sorts", "letters", "totals"] (spFI K) := ok_fi F2 Y
  refine okD F scFd (fun vs H Q E h => ?_) (fun cdv A outer s H vs Q E hr h => ?_)
  · obtain ⟨s, o, m, t, xs, ls, rfl, _⟩ := h
    rfl
  · have nd := scFd.nd
    have hu := hu_of hr
    refine ⟨_, pss_cons (ps_set (i := 4) nd rfl (Or.inl rfl) (pe_make Y.mFrame G2 hr (by rfl) Y.gFrame b2 .nil pass0 (pa_cons (pv 0) (pa_cons
        (pe_lc (own := [("_law_name", 5)]) (g := gName 5) (tt := tYes) (te := tTup (tCons (tVar 5) (tCons (tOp (rIxT K) (tDGet (tVar 2) (tVar 5)) (tC (.int 0))) (tCons (tOp (rIxT K) (tDGet (tVar 2) (tVar 5)) (tC (.int 1))) tNil)))) rfl nd (pi_list (pv 1)) (blkOk_by (N := NFd) (sc := defScope sLawFramed) (by decide +kernel)) (fun _ _ _ _ _ => pg_name (i := 5) nd rfl (Or.inl rfl)) (fun _ _ _ _ _ => pts_nil)
          (fun _ _ _ _ _ => pe_tup (pa_cons (pv 5) (pa_cons (pe_ix ix_tup (pe_dget hu (pv 2) (pv 5) nosl) pe_int (fun _ _ => rfl)) (pa_cons (pe_ix ix_tup (pe_dget hu (pv 2) (pv 5) nosl) pe_int (fun _ _ => rfl)) pa_nil))))) (pa_cons (pv 3) pa_nil)))))
      (pss_one (ps_ret (pe_disp (pps_cons pe_str (pv 0) (pps_cons pe_str (pv 2) (pps_cons pe_str (pv 1) (pps_cons pe_str (pv 3) (pps_cons pe_str (pv 4) pps_nil))))) rfl rfl (by simp) (by decide)))), ?_⟩
    obtain ⟨s, o, m, t, xs, ls, rfl, hs, ho, hm, ht, ok, k⟩ := h
    refine ⟨_, rfl, _, rfl, o, rfl, ⟨_, ho⟩, fun D hD => ?_⟩
    refine lc_list (K := K) (a := o) (xs := (ls.map (·.1)).map V.str) (fun i G => ∃ us : List Addr, G D = some (.lst (us.map V.ref)) ∧ AllT K G us ((ls.take i).map ltV) ∧ Same H G) ⟨[], upd_same, AllT.nil, same_upd hD⟩ (fun i G _ p => by obtain ⟨us, _, _, p⟩ := p; exact p.seq ho) ?_ ?_
    · rintro i v G hi ⟨us, e, hA, sm⟩
      obtain ⟨x, ex, rfl⟩ := str_at hi
      obtain ⟨q, eq, rfl⟩ : ∃ q, ls[i]? = some q ∧ x = q.1 := by
        rw [List.getElem?_map] at ex
        cases z : ls[i]? with
        | none => rw [z] at ex; cases ex
        | some q => rw [z] at ex; exact ⟨q, rfl, (Option.some.inj ex).symm⟩
      obtain ⟨tt, dg, st⟩ := (hm.same sm).get ok.nl.nd eq
      have li := (List.getElem?_eq_some_iff.mp eq).1
      have n16 := ok.nl.n
      rw [List.length_map] at n16
      refine ⟨rfl, _, rfl, ?_⟩
      refine ⟨_, rfl, _, rfl, m, .ref tt, rfl, dg, tt, _, 0, _, rfl, rfl, st, rfl, ?_⟩
      refine ⟨_, rfl, _, rfl, m, .ref tt, rfl, dg, tt, _, 1, _, rfl, rfl, st, rfl, ?_⟩
      refine ⟨szl (by show 3 ≤ 1000; decide), fun T hT => ?_⟩
      have e2 := same_upd (o := .tup [V.str q.1, V.str q.2.1, V.str q.2.2]) hT _ _ e
      refine ⟨_, e2, ?_, us ++ [T], ?_, ?_, same_put hD (sm.trans (same_upd hT))⟩
      · have z := hA.1
        rw [List.length_map, List.length_take] at z
        rw [List.length_map]
        exact small1000 (by omega)
      · rw [upd_same, List.map_append]
        rfl
      · rw [List.take_add_one, eq, List.map_append]
        exact ((hA.same (same_upd hT)).snoc (SqT.of upd_same)).put e2
    rintro G ⟨us, e, hA, sm⟩
    rw [List.length_map, List.length_map, List.take_length] at hA
    refine ⟨_, rfl, ?_⟩
    refine mk_fr (sm.seq (SqL.of hs)) (hA.tups (SqL.of e)) (sm.seq ht) ok fun b H1 s1 => ?_
    replace s1 := sm.trans s1
    intro p hp
    refine ⟨_, rfl, _, rfl, _, rfl, _, rfl, _, rfl, upd_same, frV s m o t b, rfl, (show 5 ≤ 15 by decide), ?_⟩
    rw [show mergeK [] (frV s m o t b) = frV s m o t b from rfl, upd_upd]
    have s2 := s1.trans (same_upd (o := .dK (frV s m o t b)) hp)
    have hp0 : H p = none := by
      cases z : H p with
      | none => rfl
      | some u => exact absurd (s1 _ _ z) (by rw [hp]; intro q; cases q)
    exact k p b _ hp0 s2 upd_same
abbrev NFr : List Str := ["_law_source_here", "_law_sorts", "_law_letters", "_law_every", "_law_order", "_law_found", "_law_name"]
theorem scFr : FnScope NFr ["_law_source_here", "_law_sorts", "_law_letters"] (defScope sLawFrame) := ⟨rfl, rfl, rfl, by decide +kernel, rfl, by decide +kernel, by decide +kernel⟩
def spFr (K : PySem.W.Frag) : Sp := fun vs H Q _ => ∃ (d c : Addr) (n m : Nat), vs = [.ref d, .int (n : Int), .int (m : Int)] ∧ SrcAt H d c ∧ 1 ≤ n ∧ n ≤ 3 ∧ 1 ≤ m ∧ m ≤ 4 ∧
  ∀ (e : Addr) (xs : List Str) (ls : List Lt) (H' : Hp), SrcAt H' d c → Same (hid d c H) (hid d c H') → FrAt K (hid d c H') e xs ls → xs = ABC.take n → ls.length = m → Q (.ref e) H'
theorem ok_fr (F : FnP K "_law_frame" sLawFrame f fd) (Y : Fx w K mg) : FnOk P w K mg base CX0 6 f fd ["_law_source_here", "_law_sorts", "_law_letters"] (spFr K) := by
  obtain ⟨d1, F1⟩ := Y.dLawPick
  obtain ⟨d2, F2⟩ := Y.dLawNames
  obtain ⟨d3, F3⟩ := Y.dLawFramed
  have b1 := FunD.bindsN (ps := ["_law_source_here", "_law_many"]) F1 fun _ _ _ _ _ _ us hl => match us, hl with | [_, _], _ => rfl
  have b2 := FunD.bindsN (ps := ["_law_source_here", "_law_many"]) F2 fun _ _ _ _ _ _ us hl => match us, hl with | [_, _], _ => rfl
  have b3 := FunD.bindsN (ps := ["_law_every", "_law_order", "_law_letters", "_law_totals"]) F3 fun _ _ _ _ _ _ us hl => match us, hl with | [_, _, _, _], _ => rfl
  have G1 : FnOk P w K mg base CX0 1 _ d1 ["_law_source_here", "_law_many"] spPick := ok_pick F1 Y.bl
  have G2 : FnOk P w K mg base CX0 2 _ d2 ["_law_source_here", "_law_many"] (spNm K) := ok_nm F2 Y
  have G3 : FnOk P w K mg base CX0 5 _ d3 ["_law_every", "_law_order", "_law_letters", "_law_totals"] (spFd K) := ok_fd F3 Y
  refine okD F scFr (fun vs H Q E h => ?_) (fun cdv A outer s H vs Q E hr h => ?_)
  · obtain ⟨d, c, n, m, rfl, _⟩ := h
    rfl
  · have nd := scFr.nd
    have hu := hu_of hr
    have hr1 : Room 1 _ := hr.mono (by decide)
    have hr2 : Room 2 _ := hr.mono (by decide)
    refine ⟨_, pss_cons (ps_set (i := 3) nd rfl (Or.inl rfl) (pe_slice sl_list (pe_lst (pa_cons pe_str (pa_cons pe_str (pa_cons pe_str pa_nil)))) po_none (po_some (pv 1))))
      (pss_cons (ps_set (i := 4) nd rfl (Or.inl rfl) (pe_call G2 hr2 (by rfl) Y.gLawNames F2.kp b2 .nil pass0 (pa_cons (pv 0) (pa_cons (pv 2) pa_nil))))
      (pss_cons (ps_set (i := 5) nd rfl (Or.inl rfl) pe_dnewK)
      (pss_cons (ps_for PassesOwn.never rfl (pi_list (pv 4)) (pg_name (i := 6) nd rfl (Or.inl rfl))
        (pss_one (ps_dput hu (pv 5) (pv 6) (pe_tup (pa_cons (pe_ix ix_list (pv 3) (pe_call G1 hr1 (by rfl) Y.gLawPick F1.kp b1 .nil pass0 (pa_cons (pv 0) (pa_cons (pv 1) pa_nil))) (fun _ _ => rfl)) (pa_cons (pe_ix ix_list (pv 3) (pe_call G1 hr1 (by rfl) Y.gLawPick F1.kp b1 .nil pass0 (pa_cons (pv 0) (pa_cons (pv 1) pa_nil))) (fun _ _ => rfl)) pa_nil))) rfl)))
      (pss_one (ps_ret (pe_call G3 hr (by rfl) Y.gLawFramed F3.kp b3 .nil pass0 (pa_cons (pv 3) (pa_cons (pv 4) (pa_cons (pv 5) (pa_cons (pe_lst pa_nil) pa_nil))))))))))  , ?_⟩
    obtain ⟨d, c, n, m, rfl, src, n1, n3, m1, m4, k⟩ := h
    have lx : (ABC.take n).length = n := by rw [List.length_take]; show min n 3 = n; omega
    obtain ⟨xs, ex⟩ : ∃ xs, xs = ABC.take n := ⟨_, rfl⟩
    rw [← ex] at lx
    have nlx : NL xs := by rw [ex]; exact abc_nl.sub (List.take_sublist _ _)
    refine ⟨szl (by show 3 ≤ 1000; decide), fun l0 hl0 => ⟨_, rfl, _, rfl, l0, _, rfl, SqL.of upd_same, fun s hs => ?_⟩⟩
    rw [show cutV [V.str "a", V.str "b", V.str "c"] none (some (n : Int)) = xs.map V.str by rw [cutV_take, ex, List.map_take]; rfl]
    have s0 := (same_upd (o := .lst [V.str "a", V.str "b", V.str "c"]) hl0).trans (same_upd (o := .lst (xs.map V.str)) hs)
    have src0 := src_same s0 src
    obtain ⟨sd, sc⟩ := src_ne (src_same (same_upd (o := .lst [V.str "a", V.str "b", V.str "c"]) hl0) src) hs
    have e0 : upd (upd H l0 (.lst [V.str "a", V.str "b", V.str "c"])) s (.lst (xs.map V.str)) s = some (.lst (xs.map V.str)) := upd_same
    obtain ⟨G0, eG⟩ : ∃ Z, Z = upd (upd H l0 (.lst [V.str "a", V.str "b", V.str "c"])) s (.lst (xs.map V.str)) := ⟨_, rfl⟩
    change tSeq _ _ _ _ (upd (upd H l0 (.lst [V.str "a", V.str "b", V.str "c"])) s (.lst (xs.map V.str)))
    rw [← eG] at s0 src0 e0 ⊢
    clear eG hl0 hs
    refine ⟨_, rfl, _, rfl, d, c, m, rfl, src0, by omega, fun o ns G1 src1 sm1 hn ln ho => ?_⟩
    have es : hid d c G1 s = some (.lst (xs.map V.str)) := sm1 _ _ ((hid_at sd sc).trans e0)
    have sm : Same (hid d c H) (hid d c G1) := (hid_same s0).trans sm1
    clear sm1 e0 s0 src0
    intro L hL
    obtain ⟨Ld, Lc⟩ := src_ne src1 hL
    refine ⟨_, rfl, o, rfl, ⟨_, (same_upd hL).seq (hid_sub.seq ho)⟩, for_list (K := K) (a := o) (xs := ns.map V.str) (fun i σ G => (∃ v6, σ = [some (.ref d), some (.int (n : Int)), some (.int (m : Int)), some (.ref s), some (.ref o), some (.ref L), v6]) ∧ SrcAt G d c ∧ Same (hid d c G1) (hid d c G) ∧
      ∃ (as : List Addr) (ls : List Lt), ls.map (·.1) = ns.take i ∧ G L = some (.dK (kvL ls as)) ∧ AllT K (hid d c G) as (ls.map endV) ∧ ∀ q ∈ ls, q.2.1 ∈ xs ∧ q.2.2 ∈ xs)
      ⟨⟨_, rfl⟩, src_put Ld Lc src1, hid_put hL (Same.refl _), [], [], rfl, upd_same, AllT.nil, fun q hq => absurd hq List.not_mem_nil⟩ (fun i σ G _ p => hid_sub.seq (p.2.2.1.seq ho)) ?_ ?_⟩
    · rintro i v σ G hi ⟨⟨v6, rfl⟩, src2, sm2, as, ls, en, eL, hA, hin⟩
      obtain ⟨x, ex1, rfl⟩ := str_at hi
      have li := (List.getElem?_eq_some_iff.mp ex1).1
      refine ⟨_, rfl, _, rfl, _, rfl, d, c, n, rfl, src2, by omega, by omega, fun r G2 r0 r1 src3 keep3 => ?_⟩
      obtain ⟨j, rfl⟩ : ∃ j : Nat, r = (j : Int) := ⟨r.toNat, by omega⟩
      have eh : hid d c G2 = hid d c G := hid_pick keep3
      have es2 : G2 s = some (.lst (xs.map V.str)) := hid_sub _ _ (show hid d c G2 s = _ by rw [eh]; exact sm2 _ _ es)
      have eL2 : G2 L = some (.dK (kvL ls as)) := (keep3 L Ld Lc).trans eL
      refine ⟨s, _, _, _, rfl, rfl, SqL.of es2, str_ix (by omega), ?_⟩
      refine ⟨_, rfl, _, rfl, _, rfl, d, c, n, rfl, src3, by omega, by omega, fun r G3 r0 r1 src4 keep4 => ?_⟩
      obtain ⟨j2, rfl⟩ : ∃ j : Nat, r = (j : Int) := ⟨r.toNat, by omega⟩
      have eh3 : hid d c G3 = hid d c G := (hid_pick keep4).trans eh
      have es3 : G3 s = some (.lst (xs.map V.str)) := (keep4 s sd sc).trans es2
      have eL3 : G3 L = some (.dK (kvL ls as)) := (keep4 L Ld Lc).trans eL2
      refine ⟨s, _, _, _, rfl, rfl, SqL.of es3, str_ix (by omega), ?_⟩
      refine ⟨szl (by show 2 ≤ 1000; decide), fun T hT => ?_⟩
      obtain ⟨Td, Tc⟩ := src_ne src4 hT
      have eL4 := same_upd (o := .tup [V.str (xs[j]'(by omega)), V.str (xs[j2]'(by omega))]) hT _ _ eL3
      have ll : ls.length = i := by
        have z := congrArg List.length en
        rw [List.length_map, List.length_take] at z
        omega
      have lk := kvL_len ls as
      have hno : x ∉ ls.map (·.1) := by
        rw [en]
        intro z
        obtain ⟨i2, l2, e2⟩ := List.getElem_of_mem z
        rw [List.length_take] at l2
        have e3 : ns[i2]? = some x := by rw [List.getElem_take] at e2; rw [List.getElem?_eq_getElem (by omega), e2]
        have e4 : ns[i2]'(by omega) = ns[i] := by
          rw [List.getElem?_eq_getElem (by omega)] at e3
          rw [List.getElem?_eq_getElem li] at ex1
          rw [Option.some.inj e3, Option.some.inj ex1]
        exact List.pairwise_iff_getElem.mp hn.nd i2 i (by omega) li (by omega) e4
      refine ⟨_, rfl, _, rfl, L, _, rfl, (show DPut _ L (.str x) _ _ from DPut.k (k := .inr x) eL4 (small1000 (by omega))), ?_⟩
      have hA4 := hA
      rw [← eh3] at hA4
      have sT := hid_same (d := d) (c := c) (same_upd (o := .tup [V.str (xs[j]'(by omega)), V.str (xs[j2]'(by omega))]) hT)
      refine ⟨⟨_, rfl⟩, src_put Ld Lc (src_same (same_upd hT) src4), hid_put hL (by rw [← eh3] at sm2; exact sm2.trans sT), as ++ [T], ls ++ [(x, xs[j]'(by omega), xs[j2]'(by omega))], ?_, ?_, ?_, ?_⟩
      · rw [List.map_append, en, List.take_add_one, ex1]
        rfl
      · rw [upd_same, putK_new _ (kvL_no ls as hno), kvL_snoc _ _ _ _ (by rw [hA.1, List.length_map])]
      · have z := (hA4.same sT).snoc (SqT.of (show hid d c (upd G3 T (.tup [V.str (xs[j]'(by omega)), V.str (xs[j2]'(by omega))])) T = some (.tup (endV (x, xs[j]'(by omega), xs[j2]'(by omega)))) from (hid_at Td Tc).trans upd_same))
        rw [List.map_append]
        rw [hid_upd Ld Lc]
        exact z.putD ((hid_at Ld Lc).trans eL4)
      · intro q hq
        rcases List.mem_append.mp hq with z | z
        · exact hin q z
        · rw [List.mem_singleton.mp z]
          exact ⟨List.getElem_mem _, List.getElem_mem _⟩
    · rintro σ G ⟨⟨v6, rfl⟩, src2, sm2, as, ls, en, eL, hA, hin⟩
      rw [List.length_map, List.take_length] at en
      refine ⟨_, rfl, _, rfl, _, rfl, szl (by show 0 ≤ 1000; decide), fun t ht => ?_⟩
      have st := same_upd (o := .lst []) ht
      obtain ⟨td, tc⟩ := src_ne src2 ht
      have sh := hid_same (d := d) (c := c) st
      have es2 : hid d c G s = some (.lst (xs.map V.str)) := sm2 _ _ es
      have eLh : hid d c G L = some (.dK (kvL ls as)) := (hid_at Ld Lc).trans eL
      have fok : FrOk xs ls := ⟨nlx, by rw [en]; exact hn, hin⟩
      have lal : as.length = ls.length := by rw [hA.1, List.length_map]
      have ld : LdAt K (hid d c (upd G t (.lst []))) L ls := ⟨as, sh _ _ eLh, lal, fun i u e => by
        obtain ⟨vs, a, b⟩ := (hA.same sh).2 i u e
        rw [List.getElem?_map] at a
        cases z : ls[i]? with
        | none => rw [z] at a; cases a
        | some q => rw [z] at a; exact ⟨q, rfl, by rw [← Option.some.inj a] at b; exact b⟩⟩
      have ldG : LdAt K (upd G t (.lst [])) L ls := ld.same hid_sub
      have hoG : SqL K (hid d c (upd G t (.lst []))) o ((ls.map (·.1)).map V.str) := by rw [en]; exact (sm2.trans sh).seq ho
      refine ⟨s, o, L, t, xs, ls, rfl, hid_sub _ _ (sh _ _ es2), hid_sub.seq hoG, ldG, SqL.of upd_same, fok, fun e b H' he s9 ee => ?_⟩
      obtain ⟨ed, ec⟩ := src_ne (src_same st src2) he
      have s9h := hid_same (d := d) (c := c) s9
      refine k e xs ls H' (src_same (st.trans s9) src2) (sm.trans (sm2.trans (sh.trans s9h))) ⟨⟨s, L, o, t, b, (hid_at ed ec).trans ee, s9h _ _ (sh _ _ es2), ld.same s9h, s9h.seq hoG⟩, fok⟩ ex ?_
      have z := congrArg List.length en
      rw [List.length_map] at z
      exact z.trans ln
end
end K25

namespace K25
open PySem PySem.Spec PyProof.Rows L2 Ow
/-! ### terms -/
inductive Tm where
  | leaf (w : Str) (ss : List Str)
  | one (w : Str) (t : Tm)
  | two (w : Str) (s t : Tm)
def Tm.sz : Tm → Nat
  | .leaf _ _ => 1
  | .one _ t => 1 + t.sz
  | .two _ s t => 1 + s.sz + t.sz
/-- at a stands the term -/
def TmAt (K : PySem.W.Frag) (H : Hp) : Addr → Tm → Prop
  | a, .leaf w ss => SqT K H a (.str w :: ss.map V.str)
  | a, .one w t => ∃ b, SqT K H a [.str w, .ref b] ∧ TmAt K H b t
  | a, .two w s t => ∃ b c, SqT K H a [.str w, .ref b, .ref c] ∧ TmAt K H b s ∧ TmAt K H c t
theorem TmAt.same {K : PySem.W.Frag} {H H' : Hp} (s : Same H H') : ∀ {t : Tm} {a : Addr}, TmAt K H a t → TmAt K H' a t
  | .leaf _ _, _, h => sqt_same s h
  | .one _ _, _, ⟨b, h, g⟩ => ⟨b, sqt_same s h, g.same s⟩
  | .two _ _ _, _, ⟨b, c, h, g, g2⟩ => ⟨b, c, sqt_same s h, g.same s, g2.same s⟩
theorem TmAt.put {K : PySem.W.Frag} {H : Hp} {D : Addr} {l : List V} {o : HO} (e : H D = some (.lst l)) : ∀ {t : Tm} {a : Addr}, TmAt K H a t → TmAt K (upd H D o) a t
  | .leaf _ _, _, h => sqt_put e h
  | .one _ _, _, ⟨b, h, g⟩ => ⟨b, sqt_put e h, g.put e⟩
  | .two _ _ _, _, ⟨b, c, h, g, g2⟩ => ⟨b, c, sqt_put e h, g.put e, g2.put e⟩
/-- right terms of a frame, with their ends -/
inductive Ty (xs : List Str) (ls : List Lt) : Tm → Str → Str → Prop
  | letter {q : Lt} : q ∈ ls → Ty xs ls (.leaf "letter" [q.1]) q.2.1 q.2.2
  | same {a : Str} : a ∈ xs → Ty xs ls (.leaf "same" [a]) a a
  | other {a : Str} : a ∈ xs → Ty xs ls (.leaf "other" [a]) a a
  | none {a b : Str} : a ∈ xs → b ∈ xs → Ty xs ls (.leaf "none" [a, b]) a b
  | all {a b : Str} : a ∈ xs → b ∈ xs → Ty xs ls (.leaf "all" [a, b]) a b
  | rest {t : Tm} {a b : Str} : Ty xs ls t a b → Ty xs ls (.one "rest" t) a b
  | turned {t : Tm} {a b : Str} : Ty xs ls t b a → Ty xs ls (.one "turned" t) a b
  | closed {t : Tm} {a : Str} : Ty xs ls t a a → Ty xs ls (.one "closed" t) a a
  | walked {t : Tm} {a : Str} : Ty xs ls t a a → Ty xs ls (.one "walked" t) a a
  | joined {s t : Tm} {a b : Str} : Ty xs ls s a b → Ty xs ls t a b → Ty xs ls (.two "joined" s t) a b
  | cut {s t : Tm} {a b : Str} : Ty xs ls s a b → Ty xs ls t a b → Ty xs ls (.two "cut" s t) a b
  | then_ {s t : Tm} {a m b : Str} : Ty xs ls s a m → Ty xs ls t m b → Ty xs ls (.two "then" s t) a b
/-- at u stands a right term of these ends, not greater than n -/
def Good (K : PySem.W.Frag) (xs : List Str) (ls : List Lt) (x y : Str) (n : Nat) (H : Hp) (u : Addr) : Prop := ∃ t, TmAt K H u t ∧ Ty xs ls t x y ∧ t.sz ≤ n
/-- at L stands a list of such -/
def GoodL (K : PySem.W.Frag) (xs : List Str) (ls : List Lt) (x y : Str) (n : Nat) (H : Hp) (L : Addr) (N : Nat) : Prop := ∃ us : List Addr, H L = some (.lst (us.map V.ref)) ∧ us.length ≤ N ∧ ∀ u ∈ us, Good K xs ls x y n H u
section
variable {K : PySem.W.Frag} {xs : List Str} {ls : List Lt} {x y : Str} {n N : Nat} {H H' : Hp} {u D L : Addr}
theorem Good.same (s : Same H H') (h : Good K xs ls x y n H u) : Good K xs ls x y n H' u := let ⟨t, a, b, c⟩ := h; ⟨t, a.same s, b, c⟩
theorem Good.put {l : List V} {o : HO} (e : H D = some (.lst l)) (h : Good K xs ls x y n H u) : Good K xs ls x y n (upd H D o) u := let ⟨t, a, b, c⟩ := h; ⟨t, a.put e, b, c⟩
theorem GoodL.same (s : Same H H') (h : GoodL K xs ls x y n H L N) : GoodL K xs ls x y n H' L N := let ⟨us, a, b, c⟩ := h; ⟨us, s _ _ a, b, fun u hu => (c u hu).same s⟩
/-- one more -/
theorem GoodL.snoc {us : List Addr} (e : H L = some (.lst (us.map V.ref))) (l : us.length ≤ N) (g : ∀ u ∈ us, Good K xs ls x y n H u) (h : Good K xs ls x y n H u) : GoodL K xs ls x y n (upd H L (.lst (us.map V.ref ++ [.ref u]))) L (N + 1) := by
  refine ⟨us ++ [u], by rw [upd_same, List.map_append]; rfl, by rw [List.length_append]; exact Nat.succ_le_succ l, fun v hv => ?_⟩
  rcases List.mem_append.mp hv with z | z
  · exact (g v z).put e
  · rw [List.mem_singleton.mp z]
    exact h.put e
end
theorem eqv_strs : ∀ xs ys : List Str, PyData.eqv (.tuple (xs.map PyData.str)) (.tuple (ys.map PyData.str)) = decide (xs = ys)
  | [], [] => by simp [PyData.eqv, PyData.eqvAll]
  | [], y :: ys => by simp [PyData.eqv, PyData.eqvAll]
  | x :: xs, [] => by simp [PyData.eqv, PyData.eqvAll]
  | x :: xs, y :: ys => by
    have e := eqv_strs xs ys
    simp only [PyData.eqv] at e
    simp only [List.map_cons, PyData.eqv, PyData.eqvAll, e]
    by_cases h : x = y <;> by_cases g : xs = ys <;> simp [h, g]
/-- a letter's ends compared with others -/
theorem eq_ends {K : PySem.W.Frag} {H : Hp} {a b : Addr} {p q x y : Str} {Q : VK} (wp : Wd p) (wq : Wd q) (wx : Wd x) (wy : Wd y) (h1 : SqT K H a [.str p, .str q]) (h2 : SqT K H b [.str x, .str y]) (k : Q (.bl (decide (p = x ∧ q = y))) H) : rEqD K (.ref a) (.ref b) H Q := by
  refine ⟨.tuple [.str p, .str q], .tuple [.str x, .str y], .tup h1 (.cons (.str _) (.cons (.str _) .nil)), .tup h2 (.cons (.str _) (.cons (.str _) .nil)), shp_pair wp wq, shp_pair wx wy, ?_⟩
  rw [show PyData.eqv (.tuple [.str p, .str q]) (.tuple [.str x, .str y]) = decide ([p, q] = [x, y]) from eqv_strs [p, q] [x, y]]
  rw [show decide ([p, q] = [x, y]) = decide (p = x ∧ q = y) by simp]
  exact k
end K25

namespace K25
open PySem PySem.Spec PyProof.Rows L2 Ow
/-- a new object, the source hidden -/
structure NewH (d c : Addr) (G : Hp) (T : Addr) (o : HO) : Prop where
  src : SrcAt (upd G T o) d c
  nd : T ≠ d
  nc : T ≠ c
  sm : Same (hid d c G) (hid d c (upd G T o))
  at_ : hid d c (upd G T o) T = some o
theorem new_h {d c T : Addr} {G : Hp} (o : HO) (src : SrcAt G d c) (hT : G T = none) : NewH d c G T o := by
  obtain ⟨n1, n2⟩ := src_ne src hT
  exact ⟨src_same (same_upd hT) src, n1, n2, hid_same (same_upd hT), (hid_at n1 n2).trans upd_same⟩
theorem dget_mono {H H' : Hp} {a : Addr} {y : V} {r : Option V} (s : Same H H') (h : DGet H a y r) : DGet H' a y r := by
  have rd : ∀ {u : HO}, Rd H a u → Rd H' a u := fun {u} z => z.elim (fun z => .inl (s _ _ z)) fun ⟨o, z⟩ => .inr ⟨o, s _ _ z⟩
  rcases h with ⟨kvs, k, e, g⟩ | ⟨kvs, k, b, e, ey, eb, l⟩
  · exact .inl ⟨kvs, k, rd e, g⟩
  · exact .inr ⟨kvs, k, b, rd e, ey, s _ _ eb, l⟩
theorem FrAt.fr {K : PySem.W.Frag} {H : Hp} {d : Addr} {xs : List Str} {ls : List Lt} (h : FrAt K H d xs ls) : ∃ s m o, DGet H d (.str "sorts") (some (.ref s)) ∧ DGet H d (.str "letters") (some (.ref m)) ∧ DGet H d (.str "order") (some (.ref o)) ∧ H s = some (.lst (xs.map V.str)) ∧ LdAt K H m ls ∧ SqL K H o ((ls.map (·.1)).map V.str) := by
  obtain ⟨⟨s, m, o, t, b, h1, h2, h3, h4⟩, _⟩ := h
  exact ⟨s, m, o, fr_sorts h1, fr_letters h1, fr_order h1, h2, h3, h4⟩
theorem name_at {ls : List Lt} {i : Nat} {v : V} (hi : ((ls.map (·.1)).map V.str)[i]? = some v) : ∃ q, ls[i]? = some q ∧ v = .str q.1 := by
  obtain ⟨x, ex, rfl⟩ := str_at hi
  rw [List.getElem?_map] at ex
  cases z : ls[i]? with
  | none => rw [z] at ex; cases ex
  | some q => rw [z] at ex; exact ⟨q, rfl, by rw [← Option.some.inj ex]⟩
theorem seq_if {tc : TT} {a b u : TS} {D : Ends} {σ : L2.St} {H : Hp} (I : Hp → Prop) (hu : ∀ H', I H' → u D σ H') (h : (∀ H', I H' → u D σ H') → tc σ H fun k H1 => if k = true then a { D with nx := u D } σ H1 else b { D with nx := u D } σ H1) : tSeq (tIfS tc a b) u D σ H := h hu
/-- a list of good terms that grows -/
structure LfI (K : PySem.W.Frag) (xs : List Str) (ls : List Lt) (x y : Str) (d c L : Addr) (H : Hp) (N : Nat) (G : Hp) : Prop where
  src : SrcAt G d c
  sm : Same (hid d c H) (hid d c G)
  ex : ∃ us : List Addr, hid d c G L = some (.lst (us.map V.ref)) ∧ us.length ≤ N ∧ 1 ≤ us.length ∧ ∀ u ∈ us, Good K xs ls x y 2 (hid d c G) u
theorem LfI.le {K : PySem.W.Frag} {xs : List Str} {ls : List Lt} {x y : Str} {d c L : Addr} {H G : Hp} {N M : Nat} (h : LfI K xs ls x y d c L H N G) (l : N ≤ M) : LfI K xs ls x y d c L H M G := ⟨h.src, h.sm, let ⟨us, a, b, e, g⟩ := h.ex; ⟨us, a, Nat.le_trans b l, e, g⟩⟩
/-- one more term in it -/
theorem LfI.app {K : PySem.W.Frag} {xs : List Str} {ls : List Lt} {x y : Str} {d c L T : Addr} {H G G' : Hp} {N : Nat} (n1 : L ≠ d) (n2 : L ≠ c) (h0 : hid d c H L = none) (h : LfI K xs ls x y d c L H N G) (src : SrcAt G' d c) (s : Same (hid d c G) (hid d c G')) (g : Good K xs ls x y 2 (hid d c G') T) (hN : N ≤ 900) {Q : Hp → Prop}
    (k : ∀ us : List Addr, us.length ≤ N → G' L = some (.lst (us.map V.ref)) → LfI K xs ls x y d c L H (N + 1) (upd G' L (.lst (us.map V.ref ++ [.ref T]))) → Q (upd G' L (.lst (us.map V.ref ++ [.ref T])))) : ∃ us : List V, G' L = some (.lst us) ∧ us.length < sizeLine ∧ Q (upd G' L (.lst (us ++ [.ref T]))) := by
  obtain ⟨us, e, l1, l2, gu⟩ := h.ex
  have e2 := s _ _ e
  refine ⟨us.map V.ref, hid_sub _ _ e2, by rw [List.length_map]; exact small1000 (by omega), k us l1 (hid_sub _ _ e2) ⟨src_put n1 n2 src, ?_, us ++ [T], ?_, by rw [List.length_append]; exact Nat.succ_le_succ l1, by rw [List.length_append]; omega, fun u hu => ?_⟩⟩
  · rw [hid_upd n1 n2]
    exact same_put h0 (h.sm.trans s)
  · rw [hid_upd n1 n2, upd_same, List.map_append]
    rfl
  · rw [hid_upd n1 n2]
    rcases List.mem_append.mp hu with z | z
    · exact ((gu u z).same s).put e2
    · rw [List.mem_singleton.mp z]
      exact g.put e2
abbrev NLf : List Str := ["_law_source_here", "_law_frame_here", "_law_ends", "_law_plain", "_law_some", "_law_name"]
theorem scLf : FnScope NLf ["_law_source_here", "_law_frame_here", "_law_ends", "_law_plain"] (defScope sLawLeaf) := ⟨rfl, rfl, rfl, by decide +kernel, rfl, by decide +kernel, by decide +kernel⟩
def spLf (K : PySem.W.Frag) : Sp := fun vs H Q _ => ∃ (d c e a : Addr) (pl : Bool) (xs : List Str) (ls : List Lt) (x y : Str), vs = [.ref d, .ref e, .ref a, .bl pl] ∧ SrcAt H d c ∧ FrAt K (hid d c H) e xs ls ∧ SqT K (hid d c H) a [.str x, .str y] ∧ x ∈ xs ∧ y ∈ xs ∧
  ∀ (u : Addr) (H' : Hp), SrcAt H' d c → Same (hid d c H) (hid d c H') → Good K xs ls x y 2 (hid d c H') u → Q (.ref u) H'
def ttL1 (K : PySem.W.Frag) : TT := tTest (tOp (rEqD K) (tDGet (tDGet (tVar 1) (tC (.str "letters"))) (tVar 5)) (tVar 2))
def teL1 : TE := tTup (tCons (tC (.str "letter")) (tCons (tVar 5) tNil))
def ttL2 (K : PySem.W.Frag) : TT := tTest (tOp (rEqD K) (tDGet (tDGet (tVar 1) (tC (.str "letters"))) (tVar 5)) (tRev K (tVar 2) (tUn (rU fun i => .int (-i)) (tC (.int 1)))))
def teL2 : TE := tTup (tCons (tC (.str "turned")) (tCons (tTup (tCons (tC (.str "letter")) (tCons (tVar 5) tNil))) tNil))
section
variable {P : Program} {w : World} {K : PySem.W.Frag} {mg : Str → Option Value} {base : Heap} {f : Addr} {fd : FuncData}
theorem ok_lf (F : FnP K "_law_leaf" sLawLeaf f fd) (Y : Fx w K mg) : FnOk P w K mg base CX0 2 f fd ["_law_source_here", "_law_frame_here", "_law_ends", "_law_plain"] (spLf K) := by
  obtain ⟨d1, F1⟩ := Y.dLawPick
  have b1 := FunD.bindsN (ps := ["_law_source_here", "_law_many"]) F1 fun _ _ _ _ _ _ us hl => match us, hl with | [_, _], _ => rfl
  have G1 : FnOk P w K mg base CX0 1 _ d1 ["_law_source_here", "_law_many"] spPick := ok_pick F1 Y.bl
  refine okD F scLf (fun vs H Q E h => ?_) (fun cdv A outer s H vs Q E hr h => ?_)
  · obtain ⟨d, c, e, a, pl, xs, ls, x, y, rfl, _⟩ := h
    rfl
  · have nd := scLf.nd
    have hu := hu_of hr
    have hu64 := hu64_of hr
    refine ⟨_, pss_cons (ps_setLc (i := 4) (own := [("_law_name", 5)]) (g := gName 5) (tt := ttL1 K) (te := teL1) rfl nd rfl rfl (by rfl) (pi_list (pe_dget hu (pv 1) pe_str nosl)) (blkOk_by (N := NLf) (sc := defScope sLawLeaf) (by decide +kernel)) (fun _ _ _ _ _ => pg_name (i := 5) nd rfl (Or.inl rfl))
        (fun _ _ _ _ _ => pts_one (pt_cmpR (op_eqD hu64) (pe_dget hu (pe_dget hu (pv 1) pe_str nosl) (pv 5) nosl) (pv 2) (nomark _))) (fun _ _ _ _ _ => pe_tup (pa_cons pe_str (pa_cons (pv 5) pa_nil))))
      (pss_cons (ps_set (i := 4) nd rfl (Or.inl rfl) (pe_op op_cat (pv 4)
        (pe_lc (own := [("_law_name", 5)]) (g := gName 5) (tt := ttL2 K) (te := teL2) rfl nd (pi_list (pe_dget hu (pv 1) pe_str nosl)) (blkOk_by (N := NLf) (sc := defScope sLawLeaf) (by decide +kernel)) (fun _ _ _ _ _ => pg_name (i := 5) nd rfl (Or.inl rfl))
        (fun _ _ _ _ _ => pts_one (pt_cmpR (op_eqD hu64) (pe_dget hu (pe_dget hu (pv 1) pe_str nosl) (pv 5) nosl) (pe_rev (pv 2) (pe_un un_neg pe_int)) (nomark _))) (fun _ _ _ _ _ => pe_tup (pa_cons pe_str (pa_cons (pe_tup (pa_cons pe_str (pa_cons (pv 5) pa_nil))) pa_nil))))))
      (pss_cons (ps_set (i := 4) nd rfl (Or.inl rfl) (pe_op op_cat (pe_op op_rep (pv 4) pe_int) (pe_lst (pa_cons (pe_op op_catT (pe_tup (pa_cons pe_str pa_nil)) (pv 2)) pa_nil))))
      (pss_cons (ps_if (pt_cmpR op_eq (pe_ix ix_tup (pv 2) pe_int (fun _ _ => rfl)) (pe_ix ix_tup (pv 2) pe_int (fun _ _ => rfl)) (nomark _))
        (pss_one (ps_expr (pe_bm PySem.F.plainAttrs_list PySem.F.slot_list_append PySem.F.type_list_append mt_append (pv 4) (pa_cons (pe_tup (pa_cons pe_str (pa_cons (pe_ix ix_tup (pv 2) pe_int (fun _ _ => rfl)) pa_nil))) pa_nil)))) pss_nil)
      (pss_cons (ps_if (pw_and (pt_not (pt_val (pv 3))) (pw_and1 (pt_cmpR op_eq (pe_ix ix_tup (pv 2) pe_int (fun _ _ => rfl)) (pe_ix ix_tup (pv 2) pe_int (fun _ _ => rfl)) (nomark _)))).pt
        (pss_one (ps_expr (pe_bm PySem.F.plainAttrs_list PySem.F.slot_list_append PySem.F.type_list_append mt_append (pv 4) (pa_cons (pe_tup (pa_cons pe_str (pa_cons (pe_ix ix_tup (pv 2) pe_int (fun _ _ => rfl)) pa_nil))) pa_nil)))) pss_nil)
      (pss_cons (ps_if (pw_and (pt_not (pt_val (pv 3))) (pw_and1 (pt_cmpR op_eq (pe_call G1 hr (by rfl) Y.gLawPick F1.kp b1 .nil pass0 (pa_cons (pv 0) (pa_cons pe_int pa_nil))) pe_int (nomark _)))).pt
        (pss_one (ps_expr (pe_bm PySem.F.plainAttrs_list PySem.F.slot_list_append PySem.F.type_list_append mt_append (pv 4) (pa_cons (pe_op op_catT (pe_tup (pa_cons pe_str pa_nil)) (pv 2)) pa_nil)))) pss_nil)
      (pss_one (ps_ret (pe_ix ix_list (pv 4) (pe_call G1 hr (by rfl) Y.gLawPick F1.kp b1 .nil pass0 (pa_cons (pv 0) (pa_cons (pe_callB call_len_seq (by rfl) Y.bLen PySem.boot_len (pa_cons (pv 4) pa_nil)) pa_nil))) (fun _ _ => rfl))))))))), ?_⟩
    obtain ⟨d, c, e, a, pl, xs, ls, x, y, rfl, src, fr, ha, hx, hy, k⟩ := h
    obtain ⟨_, m, o, _, gm, go, _, lm, lo⟩ := fr.fr
    have ok := fr.ok
    have wx := ok.nx.w x hx
    have wy := ok.nx.w y hy
    have l16 := ok.nl.n
    rw [List.length_map] at l16
    have at_ : ∀ {G : Hp}, Same (hid d c H) (hid d c G) → DGet G e (.str "order") (some (.ref o)) ∧ DGet G e (.str "letters") (some (.ref m)) ∧ LdAt K G m ls ∧ SqL K G o ((ls.map (·.1)).map V.str) ∧ SqT K G a [.str x, .str y] := fun sm =>
      ⟨dget_mono hid_sub (dget_mono sm go), dget_mono hid_sub (dget_mono sm gm), (lm.same sm).same hid_sub, hid_sub.seq (sm.seq lo), sqt_same hid_sub (sqt_same sm ha)⟩
    obtain ⟨a1, a2, a3, a4, a5⟩ := at_ (Same.refl _)
    refine ⟨_, rfl, e, .ref o, rfl, a1, o, rfl, ⟨_, a4⟩, fun D hD => ?_⟩
    have nD := new_h (.lst []) src hD
    have hDh : hid d c H D = none := (hid_at nD.nd nD.nc).trans hD
    refine lc_list (K := K) (a := o) (xs := (ls.map (·.1)).map V.str) (fun i G => SrcAt G d c ∧ Same (hid d c H) (hid d c G) ∧ GoodL K xs ls x y 2 (hid d c G) D i) ⟨nD.src, nD.sm, [], nD.at_, Nat.le_refl _, fun u hu => absurd hu List.not_mem_nil⟩ (fun i G _ p => (at_ p.2.1).2.2.2.1) ?_ ?_
    · rintro i v G hi ⟨srcG, smG, us, eD, lu, gu⟩
      obtain ⟨q, eq, rfl⟩ := name_at hi
      obtain ⟨_, b2, b3, _, b5⟩ := at_ smG
      obtain ⟨tt, dg, st⟩ := b3.get ok.nl.nd eq
      obtain ⟨m1, m2⟩ := ok.ends q (List.mem_of_getElem? eq)
      have li := (List.getElem?_eq_some_iff.mp eq).1
      refine ⟨rfl, ?_⟩
      show tTest (tOp (rEqD K) (tDGet (tDGet (tVar 1) (tC (.str "letters"))) (tVar 5)) (tVar 2)) _ _ _
      refine ⟨_, rfl, e, .ref m, rfl, b2, _, rfl, m, .ref tt, rfl, dg, _, rfl, eq_ends (ok.nx.w _ m1) (ok.nx.w _ m2) wx wy st b5 ⟨_, rfl, ite2 (fun hc => ?_) (fun _ => ?_)⟩⟩
      · obtain ⟨e1, e2⟩ := of_decide_eq_true hc
        refine ⟨_, rfl, szl (by show 2 ≤ 1000; decide), fun T hT => ?_⟩
        have nT := new_h (.tup [V.str "letter", V.str q.1]) srcG hT
        have eD2 : hid d c (upd G T (.tup [V.str "letter", V.str q.1])) D = some (.lst (us.map V.ref)) := nT.sm _ _ eD
        have eD3 := hid_sub _ _ eD2
        refine ⟨_, eD3, ?_, src_put nD.nd nD.nc nT.src, ?_, ?_⟩
        · rw [List.length_map]
          exact small1000 (by omega)
        · rw [hid_upd nD.nd nD.nc]
          exact same_put hDh (smG.trans nT.sm)
        · rw [hid_upd nD.nd nD.nc]
          refine GoodL.snoc eD2 lu (fun u hu => (gu u hu).same nT.sm) ⟨.leaf "letter" [q.1], SqT.of nT.at_, ?_, by show 1 ≤ 2; decide⟩
          have z : Ty xs ls (.leaf "letter" [q.1]) q.2.1 q.2.2 := .letter (List.mem_of_getElem? eq)
          rw [e1, e2] at z
          exact z
      · exact ⟨srcG, smG, us, eD, Nat.le_succ_of_le lu, gu⟩
    rintro G0 ⟨srcG0, smG0, us, eD, lu, gu⟩
    rw [List.length_map, List.length_map] at lu
    obtain ⟨a1, a2, a3, a4, a5⟩ := at_ smG0
    refine ⟨_, rfl, _, rfl, e, .ref o, rfl, a1, o, rfl, ⟨_, a4⟩, fun D2 hD2 => ?_⟩
    have nD2 := new_h (.lst []) srcG0 hD2
    have hDh2 : hid d c G0 D2 = none := (hid_at nD2.nd nD2.nc).trans hD2
    refine lc_list (K := K) (a := o) (xs := (ls.map (·.1)).map V.str) (fun i G => SrcAt G d c ∧ Same (hid d c G0) (hid d c G) ∧ GoodL K xs ls x y 2 (hid d c G) D2 i) ⟨nD2.src, nD2.sm, [], nD2.at_, Nat.le_refl _, fun u hu => absurd hu List.not_mem_nil⟩ (fun i G _ p => (at_ (smG0.trans p.2.1)).2.2.2.1) ?_ ?_
    · rintro i v G hi ⟨srcG, smG, us2, eD2, lu2, gu2⟩
      obtain ⟨q, eq, rfl⟩ := name_at hi
      obtain ⟨_, b2, b3, _, b5⟩ := at_ (smG0.trans smG)
      obtain ⟨tt, dg, st⟩ := b3.get ok.nl.nd eq
      obtain ⟨m1, m2⟩ := ok.ends q (List.mem_of_getElem? eq)
      have li := (List.getElem?_eq_some_iff.mp eq).1
      refine ⟨rfl, ?_⟩
      show tTest (tOp (rEqD K) (tDGet (tDGet (tVar 1) (tC (.str "letters"))) (tVar 5)) (tRev K (tVar 2) (tUn (rU fun i => .int (-i)) (tC (.int 1))))) _ _ _
      refine ⟨_, rfl, e, .ref m, rfl, b2, _, rfl, m, .ref tt, rfl, dg, _, rfl, _, rfl, rfl, a, _, rfl, .inr ⟨b5, fun p hp => ?_⟩⟩
      have np := new_h (.tup [V.str y, V.str x]) srcG hp
      refine eq_ends (ok.nx.w _ m1) (ok.nx.w _ m2) wy wx (sqt_same (same_upd hp) st) (SqT.of upd_same) ⟨_, rfl, ite2 (fun hc => ?_) (fun _ => ?_)⟩
      · obtain ⟨e1, e2⟩ := of_decide_eq_true hc
        refine ⟨_, rfl, szl (by show 2 ≤ 1000; decide), fun T1 hT1 => ⟨szl (by show 2 ≤ 1000; decide), fun T hT => ?_⟩⟩
        have nT1 := new_h (.tup [V.str "letter", V.str q.1]) np.src hT1
        have nT := new_h (.tup [V.str "turned", V.ref T1]) nT1.src hT
        have sT := np.sm.trans (nT1.sm.trans nT.sm)
        have eD3 := sT _ _ eD2
        have eD4 := hid_sub _ _ eD3
        refine ⟨_, eD4, ?_, src_put nD2.nd nD2.nc nT.src, ?_, ?_⟩
        · rw [List.length_map]
          exact small1000 (by omega)
        · rw [hid_upd nD2.nd nD2.nc]
          exact same_put hDh2 (smG.trans sT)
        · rw [hid_upd nD2.nd nD2.nc]
          refine GoodL.snoc eD3 lu2 (fun u hu => (gu2 u hu).same sT) ⟨.one "turned" (.leaf "letter" [q.1]), ⟨T1, SqT.of nT.at_, SqT.of (nT.sm _ _ nT1.at_)⟩, ?_, by show 1 + 1 ≤ 2; decide⟩
          have z : Ty xs ls (.leaf "letter" [q.1]) q.2.1 q.2.2 := .letter (List.mem_of_getElem? eq)
          rw [e1, e2] at z
          exact .turned z
      · exact ⟨np.src, smG.trans np.sm, us2, np.sm _ _ eD2, Nat.le_succ_of_le lu2, fun u hu => (gu2 u hu).same np.sm⟩
    rintro G1 ⟨srcG1, smG1, us2, eD2, lu2, gu2⟩
    rw [List.length_map, List.length_map] at lu2
    have eDg := smG1 _ _ eD
    refine ⟨D, D2, _, _, rfl, rfl, hid_sub _ _ eDg, hid_sub _ _ eD2, by rw [List.length_map, List.length_map]; exact szl (by omega), fun L1 hL1 => ?_⟩
    have nL1 := new_h (.lst (us.map V.ref ++ us2.map V.ref)) srcG1 hL1
    obtain ⟨G2, src2, sm2, us3, eL1, lu3, gu3, eg⟩ : ∃ G2, SrcAt G2 d c ∧ Same (hid d c H) (hid d c G2) ∧ ∃ us3 : List Addr, hid d c G2 L1 = some (.lst (us3.map V.ref)) ∧ us3.length ≤ 32 ∧ (∀ u ∈ us3, Good K xs ls x y 2 (hid d c G2) u) ∧ G2 = upd G1 L1 (.lst (us.map V.ref ++ us2.map V.ref)) :=
      ⟨_, nL1.src, smG0.trans (smG1.trans nL1.sm), us ++ us2, by rw [nL1.at_, List.map_append], by rw [List.length_append]; omega, fun u hu => (List.mem_append.mp hu).elim (fun z => (gu u z).same (smG1.trans nL1.sm)) fun z => (gu2 u z).same nL1.sm, rfl⟩
    change tSeq _ _ _ _ (upd G1 L1 (.lst (us.map V.ref ++ us2.map V.ref)))
    rw [← eg]
    clear eg nL1 hL1 eD2 gu2 lu2 eDg smG1 srcG1 gu lu eD smG0 srcG0 a1 a2 a3 a4 a5 hD2 nD2 hDh2 hD nD hDh
    refine ⟨_, rfl, L1, 3, _, rfl, rfl, hid_sub _ _ eL1, by decide, by decide, by rw [List.length_map]; exact szl (by show us3.length * 3 ≤ 1000; omega), fun L2 hL2 => ⟨szl (by show 1 ≤ 1000; decide), fun t1 ht1 => ?_⟩⟩
    have nL2 := new_h (.lst (List.replicate (3 : Int).toNat (us3.map V.ref)).flatten) src2 hL2
    have nt1 := new_h (.tup [V.str "all"]) nL2.src ht1
    obtain ⟨_, _, _, _, a5⟩ := at_ (sm2.trans (nL2.sm.trans nt1.sm))
    refine ⟨_, rfl, t1, a, _, _, rfl, rfl, SqT.of (hid_sub _ _ nt1.at_), a5, by simp, szl (by show 3 ≤ 1000; decide), fun z => absurd z (List.cons_ne_nil _ _), fun _ t2 ht2 => ⟨szl (by show 1 ≤ 1000; decide), fun l hl => ?_⟩⟩
    have nt2 := new_h (.tup ([V.str "all"] ++ [V.str x, V.str y])) nt1.src ht2
    have nl := new_h (.lst [V.ref t2]) nt2.src hl
    have s2l := nL2.sm.trans (nt1.sm.trans (nt2.sm.trans nl.sm))
    have eL2 := (nt1.sm.trans (nt2.sm.trans nl.sm)) _ _ nL2.at_
    refine ⟨L2, l, _, _, rfl, rfl, hid_sub _ _ eL2, hid_sub _ _ nl.at_, ?_, fun L3 hL3 => ?_⟩
    · have z : ((List.replicate (3 : Int).toNat (us3.map V.ref)).flatten).length = 3 * us3.length := by
        show (List.replicate 3 (us3.map V.ref)).flatten.length = _
        simp [List.replicate]
        omega
      rw [z]
      exact szl (by show 3 * us3.length + 1 ≤ 1000; omega)
    have nL3 := new_h (.lst ((List.replicate (3 : Int).toNat (us3.map V.ref)).flatten ++ [V.ref t2])) nl.src hL3
    have hL3n : hid d c H L3 = none := none_of (sm2.trans s2l) ((hid_at nL3.nd nL3.nc).trans hL3)
    have iv3 : LfI K xs ls x y d c L3 H 97 (upd (upd (upd (upd (upd G2 L2 (.lst (List.replicate (3 : Int).toNat (us3.map V.ref)).flatten)) t1 (.tup [V.str "all"])) t2 (.tup ([V.str "all"] ++ [V.str x, V.str y]))) l (.lst [V.ref t2])) L3 (.lst ((List.replicate (3 : Int).toNat (us3.map V.ref)).flatten ++ [V.ref t2]))) :=
      ⟨nL3.src, sm2.trans (s2l.trans nL3.sm), ⟨us3 ++ us3 ++ us3 ++ [t2], by rw [nL3.at_]; simp [List.replicate], by simp only [List.length_append, List.length_cons, List.length_nil]; omega, by simp only [List.length_append, List.length_cons, List.length_nil]; omega, fun u hu => by
        rcases List.mem_append.mp hu with z | z
        · have z3 : u ∈ us3 := by simpa using z
          exact (gu3 u z3).same (s2l.trans nL3.sm)
        · rw [List.mem_singleton.mp z]
          exact ⟨.leaf "all" [x, y], SqT.of ((nl.sm.trans nL3.sm) _ _ nt2.at_), .all hx hy, by show 1 ≤ 2; decide⟩⟩⟩
    obtain ⟨G3, eg⟩ : ∃ G3, G3 = upd (upd (upd (upd (upd G2 L2 (.lst (List.replicate (3 : Int).toNat (us3.map V.ref)).flatten)) t1 (.tup [V.str "all"])) t2 (.tup ([V.str "all"] ++ [V.str x, V.str y]))) l (.lst [V.ref t2])) L3 (.lst ((List.replicate (3 : Int).toNat (us3.map V.ref)).flatten ++ [V.ref t2])) := ⟨_, rfl⟩
    dsimp only [gName]
    change tSeq (tIfS _ _ _) _ _ [some (.ref d), some (.ref e), some (.ref a), some (.bl pl), some (.ref L3), none] (upd (upd (upd (upd (upd G2 L2 (.lst (List.replicate (3 : Int).toNat (us3.map V.ref)).flatten)) t1 (.tup [V.str "all"])) t2 (.tup ([V.str "all"] ++ [V.str x, V.str y]))) l (.lst [V.ref t2])) L3 (.lst ((List.replicate (3 : Int).toNat (us3.map V.ref)).flatten ++ [V.ref t2])))
    rw [← eg] at iv3 ⊢
    have n1 := nL3.nd
    have n2 := nL3.nc
    clear eg nL3 hL3 eL2 s2l nl nt2 nt1 nL2 a5 hl ht2 ht1 hL2 gu3 lu3 eL1 src2 sm2
    refine seq_if (LfI K xs ls x y d c L3 H 98) (fun G4 iv4 => ?_) (fun nx => ?_)
    · refine seq_if (LfI K xs ls x y d c L3 H 99) (fun G5 iv5 => ?_) (fun nx => ?_)
      · refine seq_if (LfI K xs ls x y d c L3 H 100) (fun G6 iv6 => ?_) (fun nx => ?_)
        · obtain ⟨us, eL, u1, u2, gu⟩ := iv6.ex
          have eL' := hid_sub _ _ eL
          refine ⟨_, rfl, _, rfl, _, rfl, L3, _, rfl, .inl (SqL.of eL'), ?_⟩
          rw [List.length_map]
          refine ⟨d, c, (us.length : Int), rfl, iv6.src, by omega, by omega, fun r G7 r0 r1 src7 keep => ?_⟩
          obtain ⟨j, rfl⟩ : ∃ j : Nat, r = (j : Int) := ⟨r.toNat, by omega⟩
          have eh : hid d c G7 = hid d c G6 := hid_pick keep
          have lj : j < us.length := by omega
          refine ⟨L3, _, _, .ref us[j], rfl, rfl, SqL.of ((keep L3 n1 n2).trans eL'), atI_nat (by rw [List.getElem?_map, List.getElem?_eq_getElem lj]; rfl), ?_⟩
          exact k us[j] G7 src7 (by rw [eh]; exact iv6.sm) (by rw [eh]; exact gu _ (List.getElem_mem _))
        · refine ⟨_, rfl, _, rfl, ?_⟩
          cases pl with
          | true => exact iteF (iteF (nx _ (iv5.le (by decide))))
          | false =>
            refine iteT ⟨_, rfl, d, c, 6, rfl, iv5.src, by decide, by decide, fun r G6 r0 r1 src6 keep => ?_⟩
            have eh : hid d c G6 = hid d c G5 := hid_pick keep
            have iv6 : LfI K xs ls x y d c L3 H 99 G6 := ⟨src6, by rw [eh]; exact iv5.sm, by rw [eh]; exact iv5.ex⟩
            refine ⟨rfl, _, rfl, ite2 (fun _ => ?_) (fun _ => nx _ (iv6.le (by decide)))⟩
            obtain ⟨us, eL, u1, u2, gu⟩ := id iv6.ex
            refine ⟨_, rfl, .inl ⟨rfl, _, SqL.of (hid_sub _ _ eL)⟩, szl (by show 1 ≤ 1000; decide), fun t1 ht1 => ?_⟩
            have nt1 := new_h (.tup [V.str "none"]) src6 ht1
            obtain ⟨_, _, _, _, a5⟩ := at_ (iv6.sm.trans nt1.sm)
            refine ⟨_, rfl, t1, a, _, _, rfl, rfl, SqT.of (hid_sub _ _ nt1.at_), a5, by simp, szl (by show 3 ≤ 1000; decide), fun z => absurd z (List.cons_ne_nil _ _), fun _ t2 ht2 => ?_⟩
            have nt2 := new_h (.tup ([V.str "none"] ++ [V.str x, V.str y])) nt1.src ht2
            obtain ⟨vs, e, lz, q⟩ := LfI.app n1 n2 hL3n iv6 nt2.src (nt1.sm.trans nt2.sm) (T := t2) ⟨.leaf "none" [x, y], SqT.of nt2.at_, .none hx hy, by show 1 ≤ 2; decide⟩ (by decide) (Q := _) fun _ _ _ i => nx _ i
            exact ⟨L3, vs, _, rfl, rfl, e, lz, q⟩
      · obtain ⟨_, _, _, _, a5⟩ := at_ iv4.sm
        refine ⟨_, rfl, _, rfl, ?_⟩
        cases pl with
        | true => exact iteF (iteF (nx _ (iv4.le (by decide))))
        | false =>
          refine iteT ⟨_, rfl, a, _, 0, _, rfl, rfl, a5, rfl, _, rfl, a, _, 1, _, rfl, rfl, a5, rfl, rfl, _, rfl, ite2 (fun hc => ?_) (fun _ => nx _ (iv4.le (by decide)))⟩
          have exy : x = y := by simpa using hc
          obtain ⟨us, eL, u1, u2, gu⟩ := id iv4.ex
          refine ⟨_, rfl, .inl ⟨rfl, _, SqL.of (hid_sub _ _ eL)⟩, _, rfl, a, _, 0, _, rfl, rfl, a5, rfl, szl (by show 2 ≤ 1000; decide), fun T hT => ?_⟩
          have nT := new_h (.tup [V.str "other", V.str x]) iv4.src hT
          obtain ⟨vs, e, lz, q⟩ := LfI.app n1 n2 hL3n iv4 nT.src nT.sm (T := T) ⟨.leaf "other" [x], SqT.of nT.at_, by rw [← exy]; exact .other hx, by show 1 ≤ 2; decide⟩ (by decide) (Q := _) fun _ _ _ i => nx _ i
          exact ⟨L3, vs, _, rfl, rfl, e, lz, q⟩
    · obtain ⟨_, _, _, _, a5⟩ := at_ iv3.sm
      refine ⟨_, rfl, a, _, 0, _, rfl, rfl, a5, rfl, _, rfl, a, _, 1, _, rfl, rfl, a5, rfl, rfl, _, rfl, ite2 (fun hc => ?_) (fun _ => nx _ (iv3.le (by decide)))⟩
      have exy : x = y := by simpa using hc
      obtain ⟨us, eL, u1, u2, gu⟩ := id iv3.ex
      refine ⟨_, rfl, .inl ⟨rfl, _, SqL.of (hid_sub _ _ eL)⟩, _, rfl, a, _, 0, _, rfl, rfl, a5, rfl, szl (by show 2 ≤ 1000; decide), fun T hT => ?_⟩
      have nT := new_h (.tup [V.str "same", V.str x]) iv3.src hT
      obtain ⟨vs, e, lz, q⟩ := LfI.app n1 n2 hL3n iv3 nT.src nT.sm (T := T) ⟨.leaf "same" [x], SqT.of nT.at_, by rw [← exy]; exact .same hx, by show 1 ≤ 2; decide⟩ (by decide) (Q := _) fun _ _ _ i => nx _ i
      exact ⟨L3, vs, _, rfl, rfl, e, lz, q⟩
end
end K25

namespace K25
open PySem PySem.Spec PyProof.Rows L2 Ow
abbrev NFl : List Str := ["_law_source_here", "_law_frame_here", "_law_ends", "_law_room", "_law_pick_here", "_law_half", "_law_one"]
theorem scFl : FnScope NFl ["_law_source_here", "_law_frame_here", "_law_ends", "_law_room"] (defScope sLawFlat) := ⟨rfl, rfl, rfl, by decide +kernel, rfl, by decide +kernel, by decide +kernel⟩
/-- the parts of a term drawn with so much room -/
def szR (n : Nat) : Nat := 3 * n - 1
def spFl (K : PySem.W.Frag) (N : Nat) : Sp := fun vs H Q _ => ∃ (d c e a : Addr) (n : Nat) (xs : List Str) (ls : List Lt) (x y : Str), vs = [.ref d, .ref e, .ref a, .int (n : Int)] ∧ 1 ≤ n ∧ n ≤ N ∧ n ≤ 20 ∧ SrcAt H d c ∧ FrAt K (hid d c H) e xs ls ∧ SqT K (hid d c H) a [.str x, .str y] ∧ x ∈ xs ∧ y ∈ xs ∧
  ∀ (u : Addr) (H' : Hp), SrcAt H' d c → Same (hid d c H) (hid d c H') → Good K xs ls x y (szR n) (hid d c H') u → Q (.ref u) H'
theorem Good.le {K : PySem.W.Frag} {xs : List Str} {ls : List Lt} {x y : Str} {n m : Nat} {H : Hp} {u : Addr} (h : Good K xs ls x y n H u) (l : n ≤ m) : Good K xs ls x y m H u := let ⟨t, a, b, c⟩ := h; ⟨t, a, b, Nat.le_trans c l⟩
theorem seq_asg {t : TE} {i : Nat} {u : TS} {D : Ends} {σ : L2.St} {H : Hp} (I : V → Hp → Prop) (hu : ∀ v H', I v H' → u D (σ.set i (some v)) H') (h : ∀ Q : VK, (∀ v H', I v H' → Q v H') → t σ H Q) : tSeq (tAsg t (gName i)) u D σ H := h _ hu
section
variable {P : Program} {w : World} {K : PySem.W.Frag} {mg : Str → Option Value} {base : Heap} {f : Addr} {fd : FuncData}
/-- one level: the def's own calls keep the promise for less room -/
theorem fl_step {N k : Nat} (F : FnP K "_law_flat" sLawFlat (He.ga K "_law_flat") fd) (Y : Fx w K mg) (G0 : FnOk P w K mg base CX0 k (He.ga K "_law_flat") fd ["_law_source_here", "_law_frame_here", "_law_ends", "_law_room"] (spFl K N)) (hk : 2 ≤ k) :
    FnOk P w K mg base CX0 (k + 1) (He.ga K "_law_flat") fd ["_law_source_here", "_law_frame_here", "_law_ends", "_law_room"] (spFl K (N + 1)) := by
  obtain ⟨d1, F1⟩ := Y.dLawPick
  obtain ⟨d2, F2⟩ := Y.dLawLeaf
  have b0 := FunD.bindsN (ps := ["_law_source_here", "_law_frame_here", "_law_ends", "_law_room"]) F fun _ _ _ _ _ _ us hl => match us, hl with | [_, _, _, _], _ => rfl
  have b1 := FunD.bindsN (ps := ["_law_source_here", "_law_many"]) F1 fun _ _ _ _ _ _ us hl => match us, hl with | [_, _], _ => rfl
  have b2 := FunD.bindsN (ps := ["_law_source_here", "_law_frame_here", "_law_ends", "_law_plain"]) F2 fun _ _ _ _ _ _ us hl => match us, hl with | [_, _, _, _], _ => rfl
  have G1 : FnOk P w K mg base CX0 1 _ d1 ["_law_source_here", "_law_many"] spPick := ok_pick F1 Y.bl
  have G2 : FnOk P w K mg base CX0 2 _ d2 ["_law_source_here", "_law_frame_here", "_law_ends", "_law_plain"] (spLf K) := ok_lf F2 Y
  refine okD F scFl (fun vs H Q E h => ?_) (fun cdv A outer s H vs Q E hr h => ?_)
  · obtain ⟨d, c, e, a, n, xs, ls, x, y, rfl, _⟩ := h
    rfl
  · have nd := scFl.nd
    have hu := hu_of hr
    have hr1 : Room 1 _ := hr.mono (by omega)
    have hr2 : Room 2 _ := hr.mono hk
    refine ⟨_, pss_cons (ps_set (i := 4) nd rfl (Or.inl rfl) (pe_ifExp (pt_cmpR op_gt (pv 3) pe_int (nomark _)) (pe_call G1 hr1 (by rfl) Y.gLawPick F1.kp b1 .nil pass0 (pa_cons (pv 0) (pa_cons pe_int pa_nil))) pe_int))
      (pss_cons (ps_if (pt_cmpR op_lt (pv 4) pe_int (nomark _)) (pss_one (ps_ret (pe_call G2 hr2 (by rfl) Y.gLawLeaf F2.kp b2 .nil pass0 (pa_cons (pv 0) (pa_cons (pv 1) (pa_cons (pv 2) (pa_cons pe_bl pa_nil))))))) pss_nil)
      (pss_cons (ps_if (pt_cmpR op_eq (pv 4) pe_int (nomark _)) (pss_one (ps_ret (pe_tup (pa_cons pe_str (pa_cons (pe_call G0 hr (by rfl) Y.gLawFlat F.kp b0 .nil pass0 (pa_cons (pv 0) (pa_cons (pv 1) (pa_cons (pv 2) (pa_cons (pe_op op_sub (pv 3) pe_int) pa_nil))))) pa_nil))))) pss_nil)
      (pss_cons (ps_if (pt_cmpR op_eq (pv 4) pe_int (nomark _)) (pss_one (ps_ret (pe_tup (pa_cons pe_str (pa_cons (pe_call G0 hr (by rfl) Y.gLawFlat F.kp b0 .nil pass0 (pa_cons (pv 0) (pa_cons (pv 1) (pa_cons (pe_rev (pv 2) (pe_un un_neg pe_int)) (pa_cons (pe_op op_sub (pv 3) pe_int) pa_nil))))) pa_nil))))) pss_nil)
      (pss_cons (ps_set (i := 5) nd rfl (Or.inl rfl) (pe_op op_fdiv (pv 3) pe_int))
      (pss_cons (ps_set (i := 6) nd rfl (Or.inl rfl) (pe_call G0 hr (by rfl) Y.gLawFlat F.kp b0 .nil pass0 (pa_cons (pv 0) (pa_cons (pv 1) (pa_cons (pv 2) (pa_cons (pv 5) pa_nil))))))
      (pss_one (ps_ret (pe_tup (pa_cons (pe_ix ix_list (pe_lst (pa_cons pe_str (pa_cons pe_str pa_nil))) (pe_op op_mod (pe_callTy call_int1 (by rfl) Y.bInt boot_int (pa_cons (pv 4) pa_nil)) pe_int) (fun _ _ => rfl)) (pa_cons (pv 6) (pa_cons (pe_call G0 hr (by rfl) Y.gLawFlat F.kp b0 .nil pass0 (pa_cons (pv 0) (pa_cons (pv 1) (pa_cons (pv 2) (pa_cons (pv 5) pa_nil))))) pa_nil))))))))))), ?_⟩
    obtain ⟨d, c, e, a, n, xs, ls, x, y, rfl, n1, nN, n20, src, fr, ha, hx, hy, k⟩ := h
    refine seq_asg (fun v G => ∃ r : Int, v = .int r ∧ 0 ≤ r ∧ r < 6 ∧ (2 ≤ r → 2 ≤ n) ∧ SrcAt G d c ∧ hid d c G = hid d c H) ?_ fun Q hQ => ?_
    · rintro v G ⟨r, rfl, r0, r6, hn, src1, eh⟩
      rw [← eh] at fr ha
      have k' : ∀ (u : Addr) (H' : Hp), SrcAt H' d c → Same (hid d c G) (hid d c H') → Good K xs ls x y (szR n) (hid d c H') u → Q (.ref u) H' := by rw [eh]; exact k
      clear k eh src
      refine ⟨_, rfl, _, _, rfl, rfl, _, rfl, ite2 (fun hc => ?_) (fun hc => ?_)⟩
      · exact ⟨_, rfl, _, rfl, _, rfl, d, c, e, a, false, xs, ls, x, y, rfl, src1, fr, ha, hx, hy, fun u H' s1 s2 g => k' u H' s1 s2 (g.le (by unfold szR; omega))⟩
      have r2 : 2 ≤ r := by simpa using hc
      have n2 := hn r2
      refine ⟨_, rfl, rfl, _, rfl, ite2 (fun hc => ?_) (fun hc => ?_)⟩
      · refine ⟨_, rfl, _, rfl, _, rfl, _, rfl, _, _, rfl, rfl, d, c, e, a, n - 1, xs, ls, x, y, by rw [show ((n - 1 : Nat) : Int) = (n : Int) - 1 by omega]; rfl, by omega, by omega, by omega, src1, fr, ha, hx, hy, fun u H' s1 sm g => ⟨szl (by show 2 ≤ 1000; decide), fun T hT => ?_⟩⟩
        obtain ⟨t, h1, h2, h3⟩ := g
        have nT := new_h (.tup [V.str "rest", V.ref u]) s1 hT
        exact k' T _ nT.src (sm.trans nT.sm) ⟨.one "rest" t, ⟨u, SqT.of nT.at_, h1.same nT.sm⟩, .rest h2, by unfold szR at h3 ⊢; show 1 + t.sz ≤ _; omega⟩
      refine ⟨_, rfl, rfl, _, rfl, ite2 (fun hc2 => ?_) (fun hc2 => ?_)⟩
      · refine ⟨_, rfl, _, rfl, _, rfl, _, rfl, rfl, a, _, rfl, .inr ⟨sqt_same hid_sub ha, fun p hp => ?_⟩⟩
        have np := new_h (.tup [V.str y, V.str x]) src1 hp
        refine ⟨_, rfl, _, _, rfl, rfl, d, c, e, p, n - 1, xs, ls, y, x, by rw [show ((n - 1 : Nat) : Int) = (n : Int) - 1 by omega]; rfl, by omega, by omega, by omega, np.src, fr.same np.sm, SqT.of np.at_, hy, hx, fun u H' s1 sm g => ⟨szl (by show 2 ≤ 1000; decide), fun T hT => ?_⟩⟩
        obtain ⟨t, h1, h2, h3⟩ := g
        have nT := new_h (.tup [V.str "turned", V.ref u]) s1 hT
        exact k' T _ nT.src (np.sm.trans (sm.trans nT.sm)) ⟨.one "turned" t, ⟨u, SqT.of nT.at_, h1.same nT.sm⟩, .turned h2, by unfold szR at h3 ⊢; show 1 + t.sz ≤ _; omega⟩
      have r45 : r = 4 ∨ r = 5 := by
        have z1 : r ≠ 2 := fun z => hc (by rw [z]; rfl)
        have z2 : r ≠ 3 := fun z => hc2 (by rw [z]; rfl)
        omega
      refine ⟨_, rfl, _, _, rfl, rfl, ⟨by decide, by decide⟩, ?_⟩
      have eh2 : (n : Int) / 2 = ((n / 2 : Nat) : Int) := by omega
      refine ⟨_, rfl, _, rfl, _, rfl, _, rfl, d, c, e, a, n / 2, xs, ls, x, y, by rw [← eh2]; rfl, by omega, by omega, by omega, src1, fr, ha, hx, hy, fun u1 G1 s1 sm1 g1 => ?_⟩
      refine ⟨szl (by show 2 ≤ 1000; decide), fun l hl => ?_⟩
      have nl := new_h (.lst [V.str "joined", V.str "cut"]) s1 hl
      obtain ⟨t1, a1, a2, a3⟩ := g1
      rcases r45 with rfl | rfl
      · refine ⟨_, rfl, .inl ⟨_, rfl, _, _, rfl, rfl, (show (0 : Int) < 2 by decide), l, _, _, .str "joined", rfl, rfl, SqL.of upd_same, rfl, ?_⟩⟩
        refine ⟨_, rfl, _, rfl, _, rfl, _, rfl, _, rfl, d, c, e, a, n / 2, xs, ls, x, y, by rw [← eh2]; rfl, by omega, by omega, by omega, nl.src, fr.same (sm1.trans nl.sm), sqt_same (sm1.trans nl.sm) ha, hx, hy, fun u2 G2 s2 sm2 g2 => ⟨szl (by show 3 ≤ 1000; decide), fun T hT => ?_⟩⟩
        obtain ⟨t2, c1, c2, c3⟩ := g2
        have nT := new_h (.tup [V.str "joined", V.ref u1, V.ref u2]) s2 hT
        exact k' T _ nT.src (sm1.trans (nl.sm.trans (sm2.trans nT.sm))) ⟨.two "joined" t1 t2, ⟨u1, u2, SqT.of nT.at_, a1.same (nl.sm.trans (sm2.trans nT.sm)), c1.same nT.sm⟩, .joined a2 c2, by unfold szR at a3 c3 ⊢; show 1 + t1.sz + t2.sz ≤ _; omega⟩
      · refine ⟨_, rfl, .inl ⟨_, rfl, _, _, rfl, rfl, (show (0 : Int) < 2 by decide), l, _, _, .str "cut", rfl, rfl, SqL.of upd_same, rfl, ?_⟩⟩
        refine ⟨_, rfl, _, rfl, _, rfl, _, rfl, _, rfl, d, c, e, a, n / 2, xs, ls, x, y, by rw [← eh2]; rfl, by omega, by omega, by omega, nl.src, fr.same (sm1.trans nl.sm), sqt_same (sm1.trans nl.sm) ha, hx, hy, fun u2 G2 s2 sm2 g2 => ⟨szl (by show 3 ≤ 1000; decide), fun T hT => ?_⟩⟩
        obtain ⟨t2, c1, c2, c3⟩ := g2
        have nT := new_h (.tup [V.str "cut", V.ref u1, V.ref u2]) s2 hT
        exact k' T _ nT.src (sm1.trans (nl.sm.trans (sm2.trans nT.sm))) ⟨.two "cut" t1 t2, ⟨u1, u2, SqT.of nT.at_, a1.same (nl.sm.trans (sm2.trans nT.sm)), c1.same nT.sm⟩, .cut a2 c2, by unfold szR at a3 c3 ⊢; show 1 + t1.sz + t2.sz ≤ _; omega⟩
    · refine ⟨_, rfl, _, _, rfl, rfl, _, rfl, ite2 (fun hc => ?_) (fun hc => ?_)⟩
      · have n2 : 1 < (n : Int) := of_decide_eq_true hc
        exact ⟨_, rfl, d, c, 6, rfl, src, by decide, by decide, fun r G r0 r1 src1 keep => hQ _ _ ⟨r, rfl, r0, r1, fun _ => by omega, src1, hid_pick keep⟩⟩
      · exact hQ _ _ ⟨0, rfl, by decide, by decide, fun z => absurd z (by decide), src, rfl⟩
theorem fl_none {fd : FuncData} : FnOk P w K mg base CX0 2 (He.ga K "_law_flat") fd ["_law_source_here", "_law_frame_here", "_law_ends", "_law_room"] (spFl K 0) := by
  refine ⟨fun vs H Q E h => ?_, fun A outer s H args us vs Q E hr e0 bt r h => ?_⟩
  · obtain ⟨_, _, _, _, n, _, _, _, _, _, h1, h2, _⟩ := h
    omega
  · obtain ⟨_, _, _, _, n, _, _, _, _, _, h1, h2, _⟩ := h
    omega
/-- the def with so much room -/
theorem ok_fl (F : FnP K "_law_flat" sLawFlat (He.ga K "_law_flat") fd) (Y : Fx w K mg) : ∀ N, FnOk P w K mg base CX0 (N + 2) (He.ga K "_law_flat") fd ["_law_source_here", "_law_frame_here", "_law_ends", "_law_room"] (spFl K N)
  | 0 => fl_none
  | N + 1 => fl_step F Y (ok_fl F Y N) (by omega)
end
end K25

namespace K25
open PySem PySem.Spec PyProof.Rows L2 Ow
abbrev NTm : List Str := ["_law_source_here", "_law_frame_here", "_law_ends", "_law_room", "_law_kind", "_law_pick_here", "_law_plain", "_law_half", "_law_one", "_law_middle"]
abbrev PTm : List Str := ["_law_source_here", "_law_frame_here", "_law_ends", "_law_room", "_law_kind"]
theorem scTm : FnScope NTm PTm (defScope sLawTerm) := ⟨rfl, rfl, rfl, by decide +kernel, rfl, by decide +kernel, by decide +kernel⟩
def spTm (K : PySem.W.Frag) (N : Nat) : Sp := fun vs H Q _ => ∃ (d c e a : Addr) (n : Nat) (kd : Str) (xs : List Str) (ls : List Lt) (x y : Str), vs = [.ref d, .ref e, .ref a, .int (n : Int), .str kd] ∧ 1 ≤ n ∧ n ≤ N ∧ n ≤ 20 ∧ SrcAt H d c ∧ FrAt K (hid d c H) e xs ls ∧ SqT K (hid d c H) a [.str x, .str y] ∧ x ∈ xs ∧ y ∈ xs ∧
  ∀ (u : Addr) (H' : Hp), SrcAt H' d c → Same (hid d c H) (hid d c H') → Good K xs ls x y (szR n) (hid d c H') u → Q (.ref u) H'
section
variable {P : Program} {w : World} {K : PySem.W.Frag} {mg : Str → Option Value} {base : Heap} {f : Addr} {fd : FuncData}
/-- one level: the def's own calls keep the promise for less room -/
theorem tm_step {N k : Nat} (F : FnP K "_law_term" sLawTerm (He.ga K "_law_term") fd) (Y : Fx w K mg) (G0 : FnOk P w K mg base CX0 k (He.ga K "_law_term") fd PTm (spTm K N)) (hk : 22 ≤ k) :
    FnOk P w K mg base CX0 (k + 1) (He.ga K "_law_term") fd PTm (spTm K (N + 1)) := by
  obtain ⟨d1, F1⟩ := Y.dLawPick
  obtain ⟨d2, F2⟩ := Y.dLawLeaf
  obtain ⟨d3, F3⟩ := Y.dLawFlat
  have b0 := FunD.bindsN (ps := PTm) F fun _ _ _ _ _ _ us hl => match us, hl with | [_, _, _, _, _], _ => rfl
  have b1 := FunD.bindsN (ps := ["_law_source_here", "_law_many"]) F1 fun _ _ _ _ _ _ us hl => match us, hl with | [_, _], _ => rfl
  have b2 := FunD.bindsN (ps := ["_law_source_here", "_law_frame_here", "_law_ends", "_law_plain"]) F2 fun _ _ _ _ _ _ us hl => match us, hl with | [_, _, _, _], _ => rfl
  have b3 := FunD.bindsN (ps := ["_law_source_here", "_law_frame_here", "_law_ends", "_law_room"]) F3 fun _ _ _ _ _ _ us hl => match us, hl with | [_, _, _, _], _ => rfl
  have G1 : FnOk P w K mg base CX0 1 _ d1 ["_law_source_here", "_law_many"] spPick := ok_pick F1 Y.bl
  have G2 : FnOk P w K mg base CX0 2 _ d2 ["_law_source_here", "_law_frame_here", "_law_ends", "_law_plain"] (spLf K) := ok_lf F2 Y
  have G3 : FnOk P w K mg base CX0 22 _ d3 ["_law_source_here", "_law_frame_here", "_law_ends", "_law_room"] (spFl K 20) := ok_fl F3 Y 20
  refine okD F scTm (fun vs H Q E h => ?_) (fun cdv A outer s H vs Q E hr h => ?_)
  · obtain ⟨d, c, e, a, n, kd, xs, ls, x, y, rfl, _⟩ := h
    rfl
  · have nd := scTm.nd
    have hu := hu_of hr
    have hr1 : Room 1 _ := hr.mono (by omega)
    have hr2 : Room 2 _ := hr.mono (by omega)
    have hr3 : Room 22 _ := hr.mono hk
    refine ⟨_, pss_cons (ps_set (i := 5) nd rfl (Or.inl rfl) (pe_ifExp (pt_cmpR op_gt (pv 3) pe_int (nomark _)) (pe_call G1 hr1 (by rfl) Y.gLawPick F1.kp b1 .nil pass0 (pa_cons (pv 0) (pa_cons pe_int pa_nil))) pe_int))
      (pss_cons (ps_par (i := 6) (j := 7) (by rfl) nd rfl rfl (by decide) rfl rfl (pa_cons (pe_cmpR op_eq (pv 4) pe_str (nomark _)) (pa_cons (pe_op op_fdiv (pv 3) pe_int) pa_nil)) (by rfl))
      (pss_cons (ps_if (pt_cmpR op_lt (pv 5) pe_int (nomark _)) (pss_one (ps_ret (pe_call G2 hr2 (by rfl) Y.gLawLeaf F2.kp b2 .nil pass0 (pa_cons (pv 0) (pa_cons (pv 1) (pa_cons (pv 2) (pa_cons (pv 6) pa_nil))))))) pss_nil)
      (pss_cons (ps_if (pt_cmpR op_eq (pv 5) pe_int (nomark _)) (pss_one (ps_ret (pe_ifExp (pt_val (pv 6)) (pe_call G2 hr2 (by rfl) Y.gLawLeaf F2.kp b2 .nil pass0 (pa_cons (pv 0) (pa_cons (pv 1) (pa_cons (pv 2) (pa_cons pe_bl pa_nil)))))
          (pe_call G3 hr3 (by rfl) Y.gLawFlat F3.kp b3 .nil pass0 (pa_cons (pv 0) (pa_cons (pv 1) (pa_cons (pv 2) (pa_cons (pv 3) pa_nil)))))))) pss_nil)
      (pss_cons (ps_if (pt_cmpR op_eq (pv 5) pe_int (nomark _)) (pss_one (ps_ret (pe_tup (pa_cons pe_str (pa_cons (pe_call G0 hr (by rfl) Y.gLawTerm F.kp b0 .nil pass0 (pa_cons (pv 0) (pa_cons (pv 1) (pa_cons (pe_rev (pv 2) (pe_un un_neg pe_int)) (pa_cons (pe_op op_sub (pv 3) pe_int) (pa_cons (pv 4) pa_nil)))))) pa_nil))))) pss_nil)
      (pss_cons (ps_if (pt_cmpR op_in_seq (pv 5) (pe_lst (pa_cons pe_int (pa_cons pe_int pa_nil))) (by rfl))
          (pss_cons (ps_set (i := 8) nd rfl (Or.inl rfl) (pe_call G0 hr (by rfl) Y.gLawTerm F.kp b0 .nil pass0 (pa_cons (pv 0) (pa_cons (pv 1) (pa_cons (pv 2) (pa_cons (pv 7) (pa_cons (pv 4) pa_nil)))))))
          (pss_one (ps_ret (pe_tup (pa_cons (pe_ix ix_list (pe_lst (pa_cons pe_str (pa_cons pe_str pa_nil))) (pe_op op_mod (pe_callTy call_int1 (by rfl) Y.bInt boot_int (pa_cons (pv 5) pa_nil)) pe_int) (fun _ _ => rfl)) (pa_cons (pv 8) (pa_cons (pe_call G0 hr (by rfl) Y.gLawTerm F.kp b0 .nil pass0 (pa_cons (pv 0) (pa_cons (pv 1) (pa_cons (pv 2) (pa_cons (pv 7) (pa_cons (pv 4) pa_nil)))))) pa_nil))))))) pss_nil)
      (pss_cons (ps_if (pw_and (pt_cmpR op_eq (pv 5) pe_int (nomark _)) (pw_and (pt_cmpR op_eq (pe_ix ix_tup (pv 2) pe_int (fun _ _ => rfl)) (pe_ix ix_tup (pv 2) pe_int (fun _ _ => rfl)) (nomark _)) (pw_and1 (pt_cmpR op_in_seq (pv 4) (pe_lst (pa_cons pe_str (pa_cons pe_str pa_nil))) (by rfl))))).pt
          (pss_one (ps_ret (pe_tup (pa_cons (pe_ix ix_list (pe_lst (pa_cons pe_str (pa_cons pe_str pa_nil))) (pe_call G1 hr1 (by rfl) Y.gLawPick F1.kp b1 .nil pass0 (pa_cons (pv 0) (pa_cons pe_int pa_nil))) (fun _ _ => rfl)) (pa_cons (pe_call G0 hr (by rfl) Y.gLawTerm F.kp b0 .nil pass0 (pa_cons (pv 0) (pa_cons (pv 1) (pa_cons (pv 2) (pa_cons (pv 7) (pa_cons (pv 4) pa_nil)))))) pa_nil))))) pss_nil)
      (pss_cons (ps_if (pw_and (pt_cmpR op_eq (pv 5) pe_int (nomark _)) (pw_and1 (pt_cmpR op_eq (pv 4) pe_str (nomark _)))).pt
          (pss_one (ps_ret (pe_tup (pa_cons pe_str (pa_cons (pe_call G0 hr (by rfl) Y.gLawTerm F.kp b0 .nil pass0 (pa_cons (pv 0) (pa_cons (pv 1) (pa_cons (pv 2) (pa_cons (pe_op op_sub (pv 3) pe_int) (pa_cons (pv 4) pa_nil)))))) pa_nil))))) pss_nil)
      (pss_cons (ps_set (i := 9) nd rfl (Or.inl rfl) (pe_ix ix_list (pe_dget hu (pv 1) pe_str nosl) (pe_call G1 hr1 (by rfl) Y.gLawPick F1.kp b1 .nil pass0 (pa_cons (pv 0) (pa_cons (pe_callB call_len_seq (by rfl) Y.bLen PySem.boot_len (pa_cons (pe_dget hu (pv 1) pe_str nosl) pa_nil)) pa_nil))) (fun _ _ => rfl)))
      (pss_cons (ps_set (i := 8) nd rfl (Or.inl rfl) (pe_call G0 hr (by rfl) Y.gLawTerm F.kp b0 .nil pass0 (pa_cons (pv 0) (pa_cons (pv 1) (pa_cons (pe_tup (pa_cons (pe_ix ix_tup (pv 2) pe_int (fun _ _ => rfl)) (pa_cons (pv 9) pa_nil))) (pa_cons (pv 7) (pa_cons (pv 4) pa_nil)))))))
      (pss_one (ps_ret (pe_tup (pa_cons pe_str (pa_cons (pv 8) (pa_cons (pe_call G0 hr (by rfl) Y.gLawTerm F.kp b0 .nil pass0 (pa_cons (pv 0) (pa_cons (pv 1) (pa_cons (pe_tup (pa_cons (pv 9) (pa_cons (pe_ix ix_tup (pv 2) pe_int (fun _ _ => rfl)) pa_nil))) (pa_cons (pv 7) (pa_cons (pv 4) pa_nil)))))) pa_nil)))))))))))))))  , ?_⟩
    obtain ⟨d, c, e, a, n, kd, xs, ls, x, y, rfl, n1, nN, n20, src, fr, ha, hx, hy, k⟩ := h
    refine seq_asg (fun v G => ∃ r : Int, v = .int r ∧ 0 ≤ r ∧ r < 9 ∧ (2 ≤ r → 2 ≤ n) ∧ SrcAt G d c ∧ hid d c G = hid d c H) ?_ fun Q hQ => ?_
    · rintro v G ⟨r, rfl, r0, r9, hn, src1, eh⟩
      rw [← eh] at fr ha
      have k' : ∀ (u : Addr) (H' : Hp), SrcAt H' d c → Same (hid d c G) (hid d c H') → Good K xs ls x y (szR n) (hid d c H') u → Q (.ref u) H' := by rw [eh]; exact k
      clear k eh src
      have eh2 : (n : Int) / 2 = ((n / 2 : Nat) : Int) := by omega
      have haG := sqt_same hid_sub ha
      refine ⟨_, rfl, rfl, _, rfl, _, _, rfl, rfl, ⟨by decide, by decide⟩, _, _, rfl, ?_⟩
      dsimp only
      change tSeq (tIfS _ _ _) _ _ [some (.ref d), some (.ref e), some (.ref a), some (.int (n : Int)), some (.str kd), some (.int r), some (.bl (decide (V.str kd = V.str "plain"))), some (.int ((n : Int) / 2)), none, none] G
      rw [eh2]
      refine ⟨_, rfl, _, _, rfl, rfl, _, rfl, ite2 (fun hc => ?_) (fun hc => ?_)⟩
      · exact ⟨_, rfl, _, rfl, _, rfl, _, rfl, d, c, e, a, _, xs, ls, x, y, rfl, src1, fr, ha, hx, hy, fun u H' s1 s2 g => k' u H' s1 s2 (g.le (by unfold szR; omega))⟩
      have r2 : 2 ≤ r := by simpa using hc
      have n2 := hn r2
      clear hn
      refine ⟨_, rfl, rfl, _, rfl, ite2 (fun hc => ?_) (fun hc1 => ?_)⟩
      · refine ⟨_, rfl, _, rfl, ite2 (fun _ => ?_) (fun _ => ?_)⟩
        · exact ⟨_, rfl, _, rfl, _, rfl, d, c, e, a, true, xs, ls, x, y, rfl, src1, fr, ha, hx, hy, fun u H' s1 s2 g => k' u H' s1 s2 (g.le (by unfold szR; omega))⟩
        · exact ⟨_, rfl, _, rfl, _, rfl, _, rfl, d, c, e, a, n, xs, ls, x, y, rfl, n1, n20, n20, src1, fr, ha, hx, hy, fun u H' s1 s2 g => k' u H' s1 s2 g⟩
      refine ⟨_, rfl, rfl, _, rfl, ite2 (fun _ => ?_) (fun hc2 => ?_)⟩
      · refine ⟨_, rfl, _, rfl, _, rfl, _, rfl, rfl, a, _, rfl, .inr ⟨haG, fun p hp => ?_⟩⟩
        have np := new_h (.tup [V.str y, V.str x]) src1 hp
        refine ⟨_, rfl, _, _, rfl, rfl, _, rfl, d, c, e, p, n - 1, kd, xs, ls, y, x, by rw [show ((n - 1 : Nat) : Int) = (n : Int) - 1 by omega]; rfl, by omega, by omega, by omega, np.src, fr.same np.sm, SqT.of np.at_, hy, hx, fun u H' s1 sm g => ⟨szl (by show 2 ≤ 1000; decide), fun T hT => ?_⟩⟩
        obtain ⟨t, h1, h2, h3⟩ := g
        have nT := new_h (.tup [V.str "turned", V.ref u]) s1 hT
        exact k' T _ nT.src (np.sm.trans (sm.trans nT.sm)) ⟨.one "turned" t, ⟨u, SqT.of nT.at_, h1.same nT.sm⟩, .turned h2, by unfold szR at h3 ⊢; show 1 + t.sz ≤ _; omega⟩
      have z1 : r ≠ 2 := fun z => hc1 (by rw [z]; rfl)
      have z2 : r ≠ 3 := fun z => hc2 (by rw [z]; rfl)
      -- r in [4, 5]
      refine ⟨_, rfl, szl (by show 2 ≤ 1000; decide), fun l0 hl0 => ?_⟩
      have nl0 := new_h (.lst [V.int 4, V.int 5]) src1 hl0
      refine ⟨l0, _, rfl, .inl (SqL.of upd_same), rfl, rfl, _, rfl, ite2 (fun hc => ?_) (fun hc3 => ?_)⟩
      · have r45 : r = 4 ∨ r = 5 := by
          have z : inV (V.int r) [V.int 4, V.int 5] = true := by simpa using hc
          simp [inV, eqV] at z
          omega
        refine ⟨_, rfl, _, rfl, _, rfl, _, rfl, _, rfl, d, c, e, a, n / 2, kd, xs, ls, x, y, rfl, by omega, by omega, by omega, nl0.src, fr.same nl0.sm, sqt_same nl0.sm ha, hx, hy, fun u1 G1 s1 sm1 g1 => ?_⟩
        replace sm1 := nl0.sm.trans sm1
        refine ⟨szl (by show 2 ≤ 1000; decide), fun l hl => ?_⟩
        have nl := new_h (.lst [V.str "joined", V.str "cut"]) s1 hl
        obtain ⟨t1, a1, a2, a3⟩ := g1
        rcases r45 with rfl | rfl
        · refine ⟨_, rfl, .inl ⟨_, rfl, _, _, rfl, rfl, (show (0 : Int) < 2 by decide), l, _, _, .str "joined", rfl, rfl, SqL.of upd_same, rfl, ?_⟩⟩
          refine ⟨_, rfl, _, rfl, _, rfl, _, rfl, _, rfl, _, rfl, d, c, e, a, n / 2, kd, xs, ls, x, y, rfl, by omega, by omega, by omega, nl.src, fr.same (sm1.trans nl.sm), sqt_same (sm1.trans nl.sm) ha, hx, hy, fun u2 G2 s2 sm2 g2 => ⟨szl (by show 3 ≤ 1000; decide), fun T hT => ?_⟩⟩
          obtain ⟨t2, c1, c2, c3⟩ := g2
          have nT := new_h (.tup [V.str "joined", V.ref u1, V.ref u2]) s2 hT
          exact k' T _ nT.src (sm1.trans (nl.sm.trans (sm2.trans nT.sm))) ⟨.two "joined" t1 t2, ⟨u1, u2, SqT.of nT.at_, a1.same (nl.sm.trans (sm2.trans nT.sm)), c1.same nT.sm⟩, .joined a2 c2, by unfold szR at a3 c3 ⊢; show 1 + t1.sz + t2.sz ≤ _; omega⟩
        · refine ⟨_, rfl, .inl ⟨_, rfl, _, _, rfl, rfl, (show (0 : Int) < 2 by decide), l, _, _, .str "cut", rfl, rfl, SqL.of upd_same, rfl, ?_⟩⟩
          refine ⟨_, rfl, _, rfl, _, rfl, _, rfl, _, rfl, _, rfl, d, c, e, a, n / 2, kd, xs, ls, x, y, rfl, by omega, by omega, by omega, nl.src, fr.same (sm1.trans nl.sm), sqt_same (sm1.trans nl.sm) ha, hx, hy, fun u2 G2 s2 sm2 g2 => ⟨szl (by show 3 ≤ 1000; decide), fun T hT => ?_⟩⟩
          obtain ⟨t2, c1, c2, c3⟩ := g2
          have nT := new_h (.tup [V.str "cut", V.ref u1, V.ref u2]) s2 hT
          exact k' T _ nT.src (sm1.trans (nl.sm.trans (sm2.trans nT.sm))) ⟨.two "cut" t1 t2, ⟨u1, u2, SqT.of nT.at_, a1.same (nl.sm.trans (sm2.trans nT.sm)), c1.same nT.sm⟩, .cut a2 c2, by unfold szR at a3 c3 ⊢; show 1 + t1.sz + t2.sz ≤ _; omega⟩
      have src2 := nl0.src
      have sm2 := nl0.sm
      obtain ⟨G2, eg⟩ : ∃ Z, Z = upd G l0 (.lst [V.int 4, V.int 5]) := ⟨_, rfl⟩
      dsimp only [tNext]
      change tSeq (tIfS _ _ _) _ _ [some (.ref d), some (.ref e), some (.ref a), some (.int (n : Int)), some (.str kd), some (.int r), some (.bl (decide (V.str kd = V.str "plain"))), some (.int ((n / 2 : Nat) : Int)), none, none] (upd G l0 (.lst [V.int 4, V.int 5]))
      rw [← eg] at src2 sm2 ⊢
      clear eg nl0 hc3
      refine seq_if (fun G' => SrcAt G' d c ∧ Same (hid d c G) (hid d c G')) (fun G3 ⟨src3, sm3⟩ => ?_) (fun nx => ?_)
      · refine seq_if (fun G' => SrcAt G' d c ∧ Same (hid d c G) (hid d c G')) (fun G4 ⟨src4, sm4⟩ => ?_) (fun nx => ?_)
        · -- then
          obtain ⟨s, m, o, gs, _, _, es, _, _⟩ := fr.fr
          have gs4 := dget_mono hid_sub (dget_mono sm4 gs)
          have es4 := hid_sub _ _ (sm4 _ _ es)
          have x16 := fr.ok.nx.n
          have x1 : 1 ≤ xs.length := by
            cases xs with
            | nil => exact absurd hx List.not_mem_nil
            | cons _ _ => exact Nat.succ_pos _
          refine ⟨_, rfl, e, .ref s, rfl, gs4, _, rfl, _, rfl, e, .ref s, rfl, gs4, s, _, rfl, .inl (SqL.of es4), ?_⟩
          rw [List.length_map]
          refine ⟨d, c, (xs.length : Int), rfl, src4, by omega, by omega, fun r2 G5 r0 r1 src5 keep => ?_⟩
          obtain ⟨j, rfl⟩ : ∃ j : Nat, r2 = (j : Int) := ⟨r2.toNat, by omega⟩
          have lj : j < xs.length := by omega
          have eh5 : hid d c G5 = hid d c G4 := hid_pick keep
          have sm5 : Same (hid d c G) (hid d c G5) := by rw [eh5]; exact sm4
          refine ⟨s, _, _, _, rfl, rfl, SqL.of (hid_sub _ _ (sm5 _ _ es)), str_ix lj, ?_⟩
          obtain ⟨mid, em⟩ : ∃ mid, mid = xs[j] := ⟨_, rfl⟩
          have hm : mid ∈ xs := em ▸ List.getElem_mem lj
          rw [← em]
          dsimp only [gName]
          change tSeq (tAsg _ _) _ _ [some (.ref d), some (.ref e), some (.ref a), some (.int (n : Int)), some (.str kd), some (.int r), some (.bl (decide (V.str kd = V.str "plain"))), some (.int ((n / 2 : Nat) : Int)), none, some (.str mid)] G5
          refine ⟨_, rfl, _, rfl, _, rfl, a, _, 0, _, rfl, rfl, sqt_same hid_sub (sqt_same sm5 ha), rfl, _, rfl, szl (by show 2 ≤ 1000; decide), fun p hp => ?_⟩
          have np := new_h (.tup [V.str x, V.str mid]) src5 hp
          refine ⟨_, rfl, _, rfl, d, c, e, p, n / 2, kd, xs, ls, x, mid, rfl, by omega, by omega, by omega, np.src, fr.same (sm5.trans np.sm), SqT.of np.at_, hx, hm, fun u1 G6 s6 sm6 g1 => ?_⟩
          obtain ⟨t1, a1, a2, a3⟩ := g1
          have sm7 := sm5.trans (np.sm.trans sm6)
          refine ⟨_, rfl, _, rfl, _, rfl, _, rfl, _, rfl, a, _, 1, _, rfl, rfl, sqt_same hid_sub (sqt_same sm7 ha), rfl, szl (by show 2 ≤ 1000; decide), fun p2 hp2 => ?_⟩
          have np2 := new_h (.tup [V.str mid, V.str y]) s6 hp2
          refine ⟨_, rfl, _, rfl, d, c, e, p2, n / 2, kd, xs, ls, mid, y, rfl, by omega, by omega, by omega, np2.src, fr.same (sm7.trans np2.sm), SqT.of np2.at_, hm, hy, fun u2 G8 s8 sm8 g2 => ⟨szl (by show 3 ≤ 1000; decide), fun T hT => ?_⟩⟩
          obtain ⟨t2, c1, c2, c3⟩ := g2
          have nT := new_h (.tup [V.str "then", V.ref u1, V.ref u2]) s8 hT
          exact k' T _ nT.src (sm7.trans (np2.sm.trans (sm8.trans nT.sm))) ⟨.two "then" t1 t2, ⟨u1, u2, SqT.of nT.at_, a1.same (np2.sm.trans (sm8.trans nT.sm)), c1.same nT.sm⟩, .then_ a2 c2, by unfold szR at a3 c3 ⊢; show 1 + t1.sz + t2.sz ≤ _; omega⟩
        · refine ⟨_, rfl, rfl, _, rfl, ite2 (fun _ => ?_) (fun _ => iteF (nx _ ⟨src3, sm3⟩))⟩
          refine ⟨_, rfl, rfl, _, rfl, ite2 (fun _ => ?_) (fun _ => nx _ ⟨src3, sm3⟩)⟩
          refine ⟨_, rfl, _, rfl, _, rfl, _, rfl, _, _, rfl, rfl, _, rfl, d, c, e, a, n - 1, kd, xs, ls, x, y, by rw [show ((n - 1 : Nat) : Int) = (n : Int) - 1 by omega]; rfl, by omega, by omega, by omega, src3, fr.same sm3, sqt_same sm3 ha, hx, hy, fun u H' s1 sm g => ⟨szl (by show 2 ≤ 1000; decide), fun T hT => ?_⟩⟩
          obtain ⟨t, h1, h2, h3⟩ := g
          have nT := new_h (.tup [V.str "rest", V.ref u]) s1 hT
          exact k' T _ nT.src (sm3.trans (sm.trans nT.sm)) ⟨.one "rest" t, ⟨u, SqT.of nT.at_, h1.same nT.sm⟩, .rest h2, by unfold szR at h3 ⊢; show 1 + t.sz ≤ _; omega⟩
      · refine ⟨_, rfl, rfl, _, rfl, ite2 (fun _ => ?_) (fun _ => iteF (nx _ ⟨src2, sm2⟩))⟩
        have ha2 := sqt_same hid_sub (sqt_same sm2 ha)
        refine ⟨_, rfl, a, _, 0, _, rfl, rfl, ha2, rfl, _, rfl, a, _, 1, _, rfl, rfl, ha2, rfl, rfl, _, rfl, ite2 (fun hxy => ?_) (fun _ => iteF (nx _ ⟨src2, sm2⟩))⟩
        have exy : x = y := by simpa using hxy
        refine ⟨_, rfl, szl (by show 2 ≤ 1000; decide), fun l hl => ?_⟩
        have nl := new_h (.lst [V.str "kept", V.str "free"]) src2 hl
        refine ⟨l, _, rfl, .inl (SqL.of upd_same), rfl, rfl, _, rfl, ite2 (fun _ => ?_) (fun _ => nx _ ⟨nl.src, sm2.trans nl.sm⟩)⟩
        have sm3 := sm2.trans nl.sm
        refine ⟨szl (by show 2 ≤ 1000; decide), fun l2 hl2 => ?_⟩
        have nl2 := new_h (.lst [V.str "closed", V.str "walked"]) nl.src hl2
        refine ⟨_, rfl, d, c, 2, rfl, nl2.src, by decide, by decide, fun r2 G5 r0 r1 src5 keep => ?_⟩
        have eh5 := hid_pick keep
        have sm5 : Same (hid d c G) (hid d c G5) := by rw [eh5]; exact sm3.trans nl2.sm
        have el2 : G5 l2 = some (.lst [V.str "closed", V.str "walked"]) := (keep l2 nl2.nd nl2.nc).trans upd_same
        have r01 : r2 = 0 ∨ r2 = 1 := by omega
        rcases r01 with rfl | rfl
        · refine ⟨l2, _, _, .str "closed", rfl, rfl, SqL.of el2, rfl, _, rfl, _, rfl, _, rfl, _, rfl, _, rfl, d, c, e, a, n / 2, kd, xs, ls, x, y, rfl, by omega, by omega, by omega, src5, fr.same sm5, sqt_same sm5 ha, hx, hy, fun u H' s1 sm g => ⟨szl (by show 2 ≤ 1000; decide), fun T hT => ?_⟩⟩
          obtain ⟨t, h1, h2, h3⟩ := g
          have nT := new_h (.tup [V.str "closed", V.ref u]) s1 hT
          exact k' T _ nT.src (sm5.trans (sm.trans nT.sm)) ⟨.one "closed" t, ⟨u, SqT.of nT.at_, h1.same nT.sm⟩, by rw [← exy] at h2 ⊢; exact .closed h2, by unfold szR at h3 ⊢; show 1 + t.sz ≤ _; omega⟩
        · refine ⟨l2, _, _, .str "walked", rfl, rfl, SqL.of el2, rfl, _, rfl, _, rfl, _, rfl, _, rfl, _, rfl, d, c, e, a, n / 2, kd, xs, ls, x, y, rfl, by omega, by omega, by omega, src5, fr.same sm5, sqt_same sm5 ha, hx, hy, fun u H' s1 sm g => ⟨szl (by show 2 ≤ 1000; decide), fun T hT => ?_⟩⟩
          obtain ⟨t, h1, h2, h3⟩ := g
          have nT := new_h (.tup [V.str "walked", V.ref u]) s1 hT
          exact k' T _ nT.src (sm5.trans (sm.trans nT.sm)) ⟨.one "walked" t, ⟨u, SqT.of nT.at_, h1.same nT.sm⟩, by rw [← exy] at h2 ⊢; exact .walked h2, by unfold szR at h3 ⊢; show 1 + t.sz ≤ _; omega⟩
    · refine ⟨_, rfl, _, _, rfl, rfl, _, rfl, ite2 (fun hc => ?_) (fun hc => ?_)⟩
      · have n2 : 1 < (n : Int) := of_decide_eq_true hc
        exact ⟨_, rfl, d, c, 9, rfl, src, by decide, by decide, fun r G r0 r1 src1 keep => hQ _ _ ⟨r, rfl, r0, r1, fun _ => by omega, src1, hid_pick keep⟩⟩
      · exact hQ _ _ ⟨0, rfl, by decide, by decide, fun z => absurd z (by decide), src, rfl⟩
theorem tm_none : FnOk P w K mg base CX0 22 (He.ga K "_law_term") fd PTm (spTm K 0) := by
  refine ⟨fun vs H Q E h => ?_, fun A outer s H args us vs Q E hr e0 bt r h => ?_⟩
  · obtain ⟨_, _, _, _, n, _, _, _, _, _, _, h1, h2, _⟩ := h
    omega
  · obtain ⟨_, _, _, _, n, _, _, _, _, _, _, h1, h2, _⟩ := h
    omega
theorem ok_tm (F : FnP K "_law_term" sLawTerm (He.ga K "_law_term") fd) (Y : Fx w K mg) : ∀ N, FnOk P w K mg base CX0 (22 + N) (He.ga K "_law_term") fd PTm (spTm K N)
  | 0 => tm_none
  | N + 1 => tm_step F Y (ok_tm F Y N) (Nat.le_add_right 22 N)
abbrev NSe : List Str := ["_law_source_here", "_law_frame_here", "_law_pick_here", "_law_ends"]
theorem scSe : FnScope NSe ["_law_source_here", "_law_frame_here"] (defScope sLawSomeEnds) := ⟨rfl, rfl, rfl, by decide +kernel, rfl, by decide +kernel, by decide +kernel⟩
def spSe (K : PySem.W.Frag) : Sp := fun vs H Q _ => ∃ (d c e : Addr) (xs : List Str) (ls : List Lt), vs = [.ref d, .ref e] ∧ SrcAt H d c ∧ FrAt K (hid d c H) e xs ls ∧ 1 ≤ ls.length ∧
  ∀ (u : Addr) (x y : Str) (H' : Hp), SrcAt H' d c → Same (hid d c H) (hid d c H') → SqT K (hid d c H') u [.str x, .str y] → x ∈ xs → y ∈ xs → Q (.ref u) H'
theorem ok_se (F : FnP K "_law_some_ends" sLawSomeEnds f fd) (Y : Fx w K mg) : FnOk P w K mg base CX0 2 f fd ["_law_source_here", "_law_frame_here"] (spSe K) := by
  obtain ⟨d1, F1⟩ := Y.dLawPick
  have b1 := FunD.bindsN (ps := ["_law_source_here", "_law_many"]) F1 fun _ _ _ _ _ _ us hl => match us, hl with | [_, _], _ => rfl
  have G1 : FnOk P w K mg base CX0 1 _ d1 ["_law_source_here", "_law_many"] spPick := ok_pick F1 Y.bl
  refine okD F scSe (fun vs H Q E h => ?_) (fun cdv A outer s H vs Q E hr h => ?_)
  · obtain ⟨d, c, e, xs, ls, rfl, _⟩ := h
    rfl
  · have nd := scSe.nd
    have hu := hu_of hr
    refine ⟨_, pss_cons (ps_set (i := 2) nd rfl (Or.inl rfl) (pe_call G1 hr (by rfl) Y.gLawPick F1.kp b1 .nil pass0 (pa_cons (pv 0) (pa_cons pe_int pa_nil))))
      (pss_cons (ps_set (i := 3) nd rfl (Or.inl rfl) (pe_dget hu (pe_dget hu (pv 1) pe_str nosl) (pe_ix ix_list (pe_dget hu (pv 1) pe_str nosl) (pe_call G1 hr (by rfl) Y.gLawPick F1.kp b1 .nil pass0 (pa_cons (pv 0) (pa_cons (pe_callB call_len_seq (by rfl) Y.bLen PySem.boot_len (pa_cons (pe_dget hu (pv 1) pe_str nosl) pa_nil)) pa_nil))) (fun _ _ => rfl)) nosl))
      (pss_cons (ps_if (pt_cmpR op_eq (pv 2) pe_int (nomark _)) (pss_one (ps_set (i := 3) nd rfl (Or.inl rfl) (pe_rev (pv 3) (pe_un un_neg pe_int)))) pss_nil)
      (pss_cons (ps_if (pt_cmpR op_eq (pv 2) pe_int (nomark _)) (pss_one (ps_set (i := 3) nd rfl (Or.inl rfl) (pe_tup (pa_cons (pe_ix ix_tup (pv 3) pe_int (fun _ _ => rfl)) (pa_cons (pe_ix ix_tup (pv 3) pe_int (fun _ _ => rfl)) pa_nil))))) pss_nil)
      (pss_one (ps_ret (pv 3)))))), ?_⟩
    obtain ⟨d, c, e, xs, ls, rfl, src, fr, l1, k⟩ := h
    obtain ⟨s, m, o, _, gm, go, _, lm, lo⟩ := fr.fr
    have ok := fr.ok
    have l16 := ok.nl.n
    rw [List.length_map] at l16
    refine ⟨_, rfl, d, c, 5, rfl, src, by decide, by decide, fun r H1 r0 r1 src1 keep1 => ?_⟩
    have eh1 : hid d c H1 = hid d c H := hid_pick keep1
    have sm1 : Same (hid d c H) (hid d c H1) := by rw [eh1]; exact Same.refl _
    have go1 := dget_mono hid_sub (dget_mono sm1 go)
    have gm1 := dget_mono hid_sub (dget_mono sm1 gm)
    have lo1 : SqL K H1 o ((ls.map (·.1)).map V.str) := hid_sub.seq (sm1.seq lo)
    refine ⟨_, rfl, e, .ref m, rfl, gm1, _, rfl, e, .ref o, rfl, go1, _, rfl, _, rfl, e, .ref o, rfl, go1, o, _, rfl, .inl lo1, ?_⟩
    rw [List.length_map, List.length_map]
    refine ⟨d, c, (ls.length : Int), rfl, src1, by omega, by omega, fun r2 H2 q0 q1 src2 keep2 => ?_⟩
    obtain ⟨j, rfl⟩ : ∃ j : Nat, r2 = (j : Int) := ⟨r2.toNat, by omega⟩
    have eh2 : hid d c H2 = hid d c H := (hid_pick keep2).trans eh1
    have sm2 : Same (hid d c H) (hid d c H2) := by rw [eh2]; exact Same.refl _
    have lj : j < ls.length := by omega
    have ej : ls[j]? = some ls[j] := List.getElem?_eq_getElem lj
    obtain ⟨t, dg, st⟩ := (lm.same sm2).get ok.nl.nd ej
    obtain ⟨m1, m2⟩ := ok.ends _ (List.getElem_mem lj)
    refine ⟨o, _, _, .str ls[j].1, rfl, rfl, hid_sub.seq (sm2.seq lo), atI_nat (by rw [List.getElem?_map, List.getElem?_map, ej]; rfl), m, .ref t, rfl, dget_mono hid_sub dg, ?_⟩
    obtain ⟨x, ex⟩ : ∃ x, x = ls[j].2.1 := ⟨_, rfl⟩
    obtain ⟨y, ey⟩ : ∃ y, y = ls[j].2.2 := ⟨_, rfl⟩
    have st : SqT K (hid d c H2) t [.str x, .str y] := by rw [ex, ey]; exact st
    rw [← ex] at m1
    rw [← ey] at m2
    clear ex ey dg
    dsimp only [gName]
    change tSeq (tIfS _ _ _) _ _ [some (.ref d), some (.ref e), some (.int r), some (.ref t)] H2
    refine ⟨_, rfl, rfl, _, rfl, ite2 (fun hc => ?_) (fun hc => ?_)⟩
    · have er : r = 0 := by simpa using hc
      subst er
      refine ⟨_, rfl, _, rfl, rfl, t, _, rfl, .inr ⟨sqt_same hid_sub st, fun p hp => ?_⟩⟩
      have np := new_h (.tup [V.str y, V.str x]) src2 hp
      refine ⟨_, rfl, rfl, _, rfl, ite2 (fun hc => absurd hc (by decide)) (fun _ => ?_)⟩
      exact ⟨_, rfl, k p y x _ np.src (sm2.trans np.sm) (SqT.of np.at_) m2 m1⟩
    · refine ⟨_, rfl, rfl, _, rfl, ite2 (fun hc => ?_) (fun _ => ?_)⟩
      · have sG := sqt_same hid_sub st
        refine ⟨_, rfl, t, _, 0, _, rfl, rfl, sG, rfl, _, rfl, t, _, 0, _, rfl, rfl, sG, rfl, szl (by show 2 ≤ 1000; decide), fun p hp => ?_⟩
        have np := new_h (.tup [V.str x, V.str x]) src2 hp
        exact ⟨_, rfl, k p x x _ np.src (sm2.trans np.sm) (SqT.of np.at_) m1 m1⟩
      · exact ⟨_, rfl, k t x y H2 src2 sm2 st m1 m2⟩
end
end K25

namespace K25
open PySem PySem.Spec PyProof.Rows L2 Ow
/-! ### .get of a written dict -/
theorem keyOf_of {e : DictEntry} {k : Str} {h : Int} (q : He.keyOf e = some (k, h)) : ∃ t, e.key = .str k t := by
  unfold He.keyOf at q
  split at q
  · rename_i x t q2
    exact ⟨t, by rw [q2, (Prod.mk.inj (Option.some.inj q)).1]⟩
  · cases q
theorem keys_no {P : Params} {x : Str} : ∀ {l : List DictEntry} {ks : List Str}, l.map He.keyOf = He.keysIn P ks → x ∉ ks → l.find? (·.key.isStr x) = none ∧ l.any (·.refKey) = false
  | [], _, _, _ => ⟨rfl, rfl⟩
  | e :: r, [], h, _ => by cases h
  | e :: r, k :: ks, h, n => by
    have h1 : He.keyOf e :: r.map He.keyOf = some (k, PyData.keyHash P k) :: He.keysIn P ks := h
    injection h1 with h2 h3
    obtain ⟨t, ek⟩ := keyOf_of h2
    obtain ⟨a, b⟩ := keys_no h3 (fun z => n (List.mem_cons_of_mem _ z))
    have nx : k ≠ x := fun z => n (z ▸ List.mem_cons_self)
    have e1 : e.key.isStr x = false := by
      rw [ek]
      show (k == x) = false
      exact beq_eq_false_iff_ne.mpr nx
    refine ⟨by rw [List.find?_cons, e1]; exact a, ?_⟩
    rw [List.any_cons, b, Bool.or_false]
    unfold DictEntry.refKey
    rw [ek]
theorem dicW_no {K : PySem.W.Frag} {P : Params} {a : Addr} {ks : List Str} {x : Str} (h : He.dicW K a = some (He.keysIn P ks)) (nx : x ∉ ks) : PySem.W.nsIn K a x = some none := by
  unfold He.dicW at h
  unfold PySem.W.nsIn
  cases q : K.lookup a with
  | none => rw [q] at h; cases h
  | some o =>
    obtain ⟨oc, od, dt, osl⟩ := o
    rw [q] at h
    cases oc with
    | type c =>
      cases od with
      | none =>
        cases dt with
        | dict es n =>
          have h1 : (match decide (c = "dict") && (osl.isEmpty && !(a == sysModules)) with
            | true => some (es.toList.map He.keyOf)
            | false => none) = some (He.keysIn P ks) := h
          cases z : decide (c = "dict") && (osl.isEmpty && !(a == sysModules)) with
          | false => rw [z] at h1; cases h1
          | true =>
            rw [z] at h1
            obtain ⟨e1, e2⟩ := keys_no (Option.some.inj h1) nx
            dsimp only
            rw [e1]
            dsimp only
            rw [e2]
            rfl
        | _ => cases h
      | some b => cases dt <;> cases h
    | _ => cases od <;> cases dt <;> cases h
def tKGet2 (K : PySem.W.Frag) (d : Addr) (td ty tx : TE) : TE := fun σ H Q => td σ H fun x H1 => x = .ref d ∧ ty σ H1 fun y H2 => tx σ H2 fun z H3 => ∃ (s : Str) (r : Option Value) (v : V), y = .str s ∧ PySem.W.nsIn K d s = some r ∧ (match r with
  | none => v = z
  | some u => RelV v u) ∧ Q v H3
section
variable {X : Cx} {o e f : Expr} {apos cpos : Pos} {td ty tx : TE} {d : Addr} {es : Array DictEntry} {n : Nat}
theorem pe_kdget2 (D : KDict X.K X.w d es n) (ho : PE X o td) (he : PE X e ty) (hf : PE X f tx) (m : M2 X o "get" apos e f cpos) : PE X (.Call (.Attribute o "get" apos) [e, f] [] cpos) (tKGet2 X.K d td ty tx) := by
  refine ⟨fun pins s σ H Q I h => ?_⟩
  refine wpAny_Call_method m.base m.few m.line PySem.F.plainAttrs_dict PySem.F.slot_dict_get PySem.F.type_dict_get (thn (ho.run pins s σ H _ I h) fun u s1 ⟨x, H1, I1, rx, ex, q1⟩ => ?_)
  subst ex
  obtain rfl : u = Value.ref d := rx
  refine ⟨kd_type D I1, fun b q => ?_, ?_⟩
  · cases q
    exact ⟨_, I1.kIn _ _ D.at_, rfl⟩
  rw [m.trees]
  refine Calls.callWith_builtin rfl (Calls.evalArgs_plain (Calls.spliced_cons (thn (he.run pins s1 σ H1 _ I1 q1) fun iv s2 ⟨y, H2, I2, ry, q2⟩ =>
    Calls.spliced_cons (thn (hf.run pins s2 σ H2 _ I2 q2) fun fv s3 ⟨z, H3, I3, rz, s, r, v, ey, en, er, q3⟩ => Calls.spliced_nil ?_))))
  subst ey
  obtain ⟨t, rfl⟩ := ry
  refine call_meetsIn PySem.F.slot_dict_get (kd_type D I3) PySem.F.entry_dict_get (PySem.F.args_dict_get_3 _ _ _) (PySem.meets_dict_get_default (knd := strKind X.prog X.w) (k := s) d (PySem.strKind_is X.prog X.w s t) D.low fv) ⟨_, PySem.W.mapOf_K (prog := X.prog) I3.kIn D.at_ D.lit, ?_⟩
  rw [PySem.W.find_K D.at_ en]
  cases r with
  | none =>
    subst er
    exact ⟨v, H3, I3.tok _, rz, q3⟩
  | some u => exact ⟨v, H3, I3.tok _, er, q3⟩
end
end K25

namespace K25
open PySem PySem.Spec PyProof.Rows L2 Ow
/-! ### right words of terms; the parts below, the sorts told -/
def Tm.hd : Tm → Str
  | .leaf w _ => w
  | .one w _ => w
  | .two w _ _ => w
def Tm.ss : Tm → List Str
  | .leaf _ ss => ss
  | _ => []
def Tm.kids : Tm → List Tm
  | .leaf _ _ => []
  | .one _ t => [t]
  | .two _ s t => [s, t]
/-- the sorts that a term tells itself -/
def Tm.srt : Tm → List Str
  | .leaf w ss => if w = "letter" then [] else ss
  | _ => []
def LeafOk (w : Str) (ss : List Str) : Prop := (w = "letter" ∧ ∃ n : Str, ss = [n] ∧ Wd n) ∨ (w = "same" ∧ ∃ a : Str, ss = [a] ∧ Wd a) ∨ (w = "other" ∧ ∃ a : Str, ss = [a] ∧ Wd a) ∨ (w = "none" ∧ ∃ a b : Str, ss = [a, b] ∧ Wd a ∧ Wd b) ∨ (w = "all" ∧ ∃ a b : Str, ss = [a, b] ∧ Wd a ∧ Wd b)
def OneOk (w : Str) : Prop := w = "rest" ∨ w = "turned" ∨ w = "closed" ∨ w = "walked"
def TwoOk (w : Str) : Prop := w = "joined" ∨ w = "cut" ∨ w = "then"
/-- right by its words -/
def Rt : Tm → Prop
  | .leaf w ss => LeafOk w ss
  | .one w t => OneOk w ∧ Rt t
  | .two w s t => TwoOk w ∧ Rt s ∧ Rt t
theorem Ty.rt {xs : List Str} {ls : List Lt} (ok : FrOk xs ls) {t : Tm} {x y : Str} (h : Ty xs ls t x y) : Rt t := by
  induction h with
  | letter h => exact .inl ⟨rfl, _, rfl, ok.nl.w _ (List.mem_map_of_mem h)⟩
  | same h => exact .inr (.inl ⟨rfl, _, rfl, ok.nx.w _ h⟩)
  | other h => exact .inr (.inr (.inl ⟨rfl, _, rfl, ok.nx.w _ h⟩))
  | none h g => exact .inr (.inr (.inr (.inl ⟨rfl, _, _, rfl, ok.nx.w _ h, ok.nx.w _ g⟩)))
  | all h g => exact .inr (.inr (.inr (.inr ⟨rfl, _, _, rfl, ok.nx.w _ h, ok.nx.w _ g⟩)))
  | rest _ ih => exact ⟨.inl rfl, ih⟩
  | turned _ ih => exact ⟨.inr (.inl rfl), ih⟩
  | closed _ ih => exact ⟨.inr (.inr (.inl rfl)), ih⟩
  | walked _ ih => exact ⟨.inr (.inr (.inr rfl)), ih⟩
  | joined _ _ i1 i2 => exact ⟨.inl rfl, i1, i2⟩
  | cut _ _ i1 i2 => exact ⟨.inr (.inl rfl), i1, i2⟩
  | then_ _ _ i1 i2 => exact ⟨.inr (.inr rfl), i1, i2⟩
/-- at the addresses stand the terms -/
inductive Tms (K : PySem.W.Frag) (H : Hp) : List Addr → List Tm → Prop
  | nil : Tms K H [] []
  | cons {a : Addr} {t : Tm} {as : List Addr} {ts : List Tm} : TmAt K H a t → Tms K H as ts → Tms K H (a :: as) (t :: ts)
section
variable {K : PySem.W.Frag} {H H' : Hp}
theorem Tms.same (s : Same H H') : ∀ {as : List Addr} {ts : List Tm}, Tms K H as ts → Tms K H' as ts
  | _, _, .nil => .nil
  | _, _, .cons h g => .cons (h.same s) (g.same s)
theorem Tms.len : ∀ {as : List Addr} {ts : List Tm}, Tms K H as ts → as.length = ts.length
  | _, _, .nil => rfl
  | _, _, .cons _ g => congrArg Nat.succ g.len
theorem Tms.app : ∀ {as bs : List Addr} {ts us : List Tm}, Tms K H as ts → Tms K H bs us → Tms K H (as ++ bs) (ts ++ us)
  | _, _, _, _, .nil, g => g
  | _, _, _, _, .cons h r, g => .cons h (r.app g)
theorem Tms.get : ∀ {as : List Addr} {ts : List Tm}, Tms K H as ts → ∀ {i : Nat} {a : Addr}, as[i]? = some a → ∃ t, ts[i]? = some t ∧ TmAt K H a t
  | _, _, .nil, i, a, e => by cases e
  | _, _, .cons h r, 0, a, e => ⟨_, rfl, (Option.some.inj e) ▸ h⟩
  | _, _, .cons h r, i + 1, a, e => r.get e
/-- the tuple of a term -/
theorem TmAt.view {t : Tm} {a : Addr} (h : TmAt K H a t) : ∃ us : List Addr, SqT K H a (.str t.hd :: (t.ss.map V.str ++ us.map V.ref)) ∧ Tms K H us t.kids := by
  cases t with
  | leaf w ss => exact ⟨[], by rw [List.map_nil, List.append_nil]; exact h, .nil⟩
  | one w t =>
    obtain ⟨b, h1, h2⟩ := h
    exact ⟨[b], h1, .cons h2 .nil⟩
  | two w s t =>
    obtain ⟨b, c, h1, h2, h3⟩ := h
    exact ⟨[b, c], h1, .cons h2 (.cons h3 .nil)⟩
end
theorem vpb (i : Nat) {q : Str × He.Dv} (h : vPARTSBELOW[i]? = some q) : q ∈ vPARTSBELOW := List.mem_of_getElem? h
theorem vst (i : Nat) {q : Str × He.Dv} (h : vSORTSTOLD[i]? = some q) : q ∈ vSORTSTOLD := List.mem_of_getElem? h
theorem Rt.pb : ∀ {t : Tm}, Rt t → (t.hd, He.Dv.int (t.kids.length : Int)) ∈ vPARTSBELOW
  | .leaf w ss, h => by
    rcases h with ⟨rfl, _⟩ | ⟨rfl, _⟩ | ⟨rfl, _⟩ | ⟨rfl, _⟩ | ⟨rfl, _⟩
    · exact vpb 0 rfl
    · exact vpb 1 rfl
    · exact vpb 2 rfl
    · exact vpb 3 rfl
    · exact vpb 4 rfl
  | .one w t, h => by
    rcases h.1 with rfl | rfl | rfl | rfl
    · exact vpb 5 rfl
    · exact vpb 6 rfl
    · exact vpb 10 rfl
    · exact vpb 11 rfl
  | .two w s t, h => by
    rcases h.1 with rfl | rfl | rfl
    · exact vpb 7 rfl
    · exact vpb 8 rfl
    · exact vpb 9 rfl
theorem Rt.st : ∀ {t : Tm}, Rt t → (t.srt = t.ss ∧ (t.hd, He.Dv.int (t.ss.length : Int)) ∈ vSORTSTOLD ∧ 0 < t.ss.length) ∨ (t.srt = [] ∧ t.hd ∉ kSORTSTOLD)
  | .leaf w ss, h => by
    rcases h with ⟨rfl, _⟩ | ⟨rfl, a, rfl, _⟩ | ⟨rfl, a, rfl, _⟩ | ⟨rfl, a, b, rfl, _⟩ | ⟨rfl, a, b, rfl, _⟩
    · exact .inr ⟨rfl, (by decide +kernel : ("letter" : Str) ∉ kSORTSTOLD)⟩
    · exact .inl ⟨rfl, vst 0 rfl, Nat.succ_pos _⟩
    · exact .inl ⟨rfl, vst 1 rfl, Nat.succ_pos _⟩
    · exact .inl ⟨rfl, vst 2 rfl, Nat.succ_pos _⟩
    · exact .inl ⟨rfl, vst 3 rfl, Nat.succ_pos _⟩
  | .one w t, h => by
    rcases h.1 with rfl | rfl | rfl | rfl
    · exact .inr ⟨rfl, (by decide +kernel : ("rest" : Str) ∉ kSORTSTOLD)⟩
    · exact .inr ⟨rfl, (by decide +kernel : ("turned" : Str) ∉ kSORTSTOLD)⟩
    · exact .inr ⟨rfl, (by decide +kernel : ("closed" : Str) ∉ kSORTSTOLD)⟩
    · exact .inr ⟨rfl, (by decide +kernel : ("walked" : Str) ∉ kSORTSTOLD)⟩
  | .two w s t, h => by
    rcases h.1 with rfl | rfl | rfl
    · exact .inr ⟨rfl, (by decide +kernel : ("joined" : Str) ∉ kSORTSTOLD)⟩
    · exact .inr ⟨rfl, (by decide +kernel : ("cut" : Str) ∉ kSORTSTOLD)⟩
    · exact .inr ⟨rfl, (by decide +kernel : ("then" : Str) ∉ kSORTSTOLD)⟩
/-- a term has a part or a word behind its first word -/
theorem Rt.pos : ∀ {t : Tm}, Rt t → 1 ≤ t.ss.length + t.kids.length ∧ t.ss.length + t.kids.length ≤ 2 ∧ (t.ss = [] ∨ t.kids = [])
  | .leaf w ss, h => by
    rcases h with ⟨rfl, a, rfl, _⟩ | ⟨rfl, a, rfl, _⟩ | ⟨rfl, a, rfl, _⟩ | ⟨rfl, a, b, rfl, _⟩ | ⟨rfl, a, b, rfl, _⟩ <;> exact ⟨by simp [Tm.ss, Tm.kids], by simp [Tm.ss, Tm.kids], .inr rfl⟩
  | .one w t, h => ⟨by simp [Tm.ss, Tm.kids], by simp [Tm.ss, Tm.kids], .inl rfl⟩
  | .two w s t, h => ⟨by simp [Tm.ss, Tm.kids], by simp [Tm.ss, Tm.kids], .inl rfl⟩
theorem cutV_1 (x : V) (xs : List V) (n : Nat) (l : n ≤ xs.length) : cutV (x :: xs) (some 1) (some ((1 + n : Nat) : Int)) = xs.take n := by
  have e1 : HT.sIx (x :: xs).length 0 (some 1) = 1 := by
    unfold HT.sIx
    simp
  have e2 : HT.sIx (x :: xs).length (x :: xs).length (some ((1 + n : Nat) : Int)) = 1 + n := by
    unfold HT.sIx
    rw [List.length_cons]
    simp only
    split
    · omega
    · omega
  unfold cutV
  rw [e1, e2, show 1 + n - 1 = n by omega]
  rfl
theorem sIx_1 (x : V) (xs : List V) : ¬ (HT.sIx (x :: xs).length 0 (some 1) = 0 ∧ True) := by
  rintro ⟨h, _⟩
  unfold HT.sIx at h
  simp at h
theorem atI_0 (x : V) (xs : List V) : atI (x :: xs) 0 = some x := by
  unfold atI ixN
  rw [if_pos (Int.le_refl 0), if_pos (by rw [List.length_cons]; omega)]
  rfl
abbrev NPB : List Str := ["term"]
theorem scPB : FnScope NPB ["term"] (defScope sPartsBelow) := ⟨rfl, rfl, rfl, by decide +kernel, rfl, by decide +kernel, by decide +kernel⟩
def spPB (K : PySem.W.Frag) : Sp := fun vs H Q _ => ∃ (a : Addr) (t : Tm), vs = [.ref a] ∧ TmAt K H a t ∧ Rt t ∧ ∀ (p : Addr) (us : List Addr) (H' : Hp), Same H H' → H' p = some (.tup (us.map V.ref)) → Tms K H' us t.kids → Q (.ref p) H'
abbrev NST : List Str := ["part"]
theorem scST : FnScope NST ["part"] (defScope sSortsTold) := ⟨rfl, rfl, rfl, by decide +kernel, rfl, by decide +kernel, by decide +kernel⟩
def spST (K : PySem.W.Frag) : Sp := fun vs H Q _ => ∃ (a : Addr) (t : Tm), vs = [.ref a] ∧ TmAt K H a t ∧ Rt t ∧ ∀ (p : Addr) (H' : Hp), Same H H' → H' p = some (.tup (t.srt.map V.str)) → Q (.ref p) H'
section
variable {P : Program} {w : World} {K : PySem.W.Frag} {mg : Str → Option Value} {base : Heap} {f : Addr} {fd : FuncData}
theorem ok_pb (F : FnP K "parts_below" sPartsBelow f fd) (Y : Fx w K mg) : FnOk P w K mg base CX0 1 f fd ["term"] (spPB K) := by
  obtain ⟨es, n, D⟩ := Y.kPARTSBELOW
  refine okD F scPB (fun vs H Q E h => ?_) (fun cdv A outer s H vs Q E hr h => ?_)
  · obtain ⟨a, t, rfl, _⟩ := h
    rfl
  · have nd := scPB.nd
    refine ⟨_, pss_one (ps_ret (pe_slice sl_tupA (pv 0) (po_some pe_int) (po_some (pe_op op_add pe_int (pe_ix ix_kdict (pe_glob (v := .ref (He.ga K "_PARTS_BELOW")) (by rfl) Y.gPARTSBELOW rfl) (pe_ix ix_tup (pv 0) pe_int (fun _ _ => rfl)) (fun _ _ => rfl)))))), ?_⟩
    obtain ⟨a, t, rfl, ha, rt, k⟩ := h
    obtain ⟨us, h1, h2⟩ := ha.view
    obtain ⟨u, eu, ru⟩ := He.valsB_ok Y.x4 rt.pb
    refine ⟨_, rfl, _, rfl, _, rfl, a, _, 0, _, rfl, rfl, h1, atI_0 _ _, _, _, _, rfl, rfl, ⟨es, n, u, D.at_, D.lit, eu, ru⟩, ?_⟩
    have lk := h2.len
    obtain ⟨p1, p2, p3⟩ := rt.pos
    have ec : cutV (V.str t.hd :: (t.ss.map V.str ++ us.map V.ref)) (some 1) (some ((1 + t.kids.length : Nat) : Int)) = us.map V.ref := by
      rcases p3 with z | z
      · rw [z, List.map_nil, List.nil_append, cutV_1 _ _ _ (by rw [List.length_map]; omega), List.take_of_length_le (by rw [List.length_map]; omega)]
      · rw [cutV_1 _ _ _ (by rw [z]; exact Nat.zero_le _), z, List.length_nil, List.take_zero]
        rw [z] at lk
        rw [List.length_eq_zero_iff.mp lk, List.map_nil]
    refine ⟨_, _, rfl, rfl, _, rfl, a, _, rfl, h1, fun hh => absurd ⟨hh.1, trivial⟩ (sIx_1 _ _), fun _ p hp => ?_⟩
    rw [show (1 : Int) + (t.kids.length : Int) = ((1 + t.kids.length : Nat) : Int) by omega, ec]
    exact k p us _ (same_upd hp) upd_same (h2.same (same_upd hp))
theorem ok_st (F : FnP K "sorts_told" sSortsTold f fd) (Y : Fx w K mg) : FnOk P w K mg base CX0 1 f fd ["part"] (spST K) := by
  obtain ⟨es, n, D⟩ := Y.kSORTSTOLD
  refine okD F scST (fun vs H Q E h => ?_) (fun cdv A outer s H vs Q E hr h => ?_)
  · obtain ⟨a, t, rfl, _⟩ := h
    rfl
  · have nd := scST.nd
    refine ⟨_, pss_one (ps_ret (pe_slice sl_tupA (pv 0) (po_some pe_int) (po_some (pe_op op_add pe_int (pe_kdget2 D (pe_glob (v := .ref (He.ga K "_SORTS_TOLD")) (by rfl) Y.gSORTSTOLD rfl) (pe_ix ix_tup (pv 0) pe_int (fun _ _ => rfl)) pe_int ⟨rfl, rfl, rfl, rfl⟩))))), ?_⟩
    obtain ⟨a, t, rfl, ha, rt, k⟩ := h
    obtain ⟨us, h1, h2⟩ := ha.view
    have lk := h2.len
    obtain ⟨p1, p2, p3⟩ := rt.pos
    have eD : He.dicW K (He.ga K "_SORTS_TOLD") = some (He.keysIn w.params kSORTSTOLD) := by
      have e : tabs.map (fun t => He.dicW K (t.1 K)) = tabs.map fun t => some (He.keysIn w.params t.2) := congrArg (fun z : He.AlT => z.2) Y.t
      exact (List.cons.inj (List.cons.inj e).2).1
    rcases rt.st with ⟨es, m, l0⟩ | ⟨es, no⟩
    · obtain ⟨u, eu, ru⟩ := He.valsB_ok Y.x5 m
      refine ⟨_, rfl, _, rfl, rfl, _, rfl, a, _, 0, _, rfl, rfl, h1, atI_0 _ _, t.hd, some u, .int (t.ss.length : Int), rfl, eu, ru, ?_⟩
      refine ⟨_, _, rfl, rfl, _, rfl, a, _, rfl, h1, fun hh => absurd ⟨hh.1, trivial⟩ (sIx_1 _ _), fun _ p hp => ?_⟩
      have ec : cutV (V.str t.hd :: (t.ss.map V.str ++ us.map V.ref)) (some 1) (some ((1 + t.ss.length : Nat) : Int)) = t.srt.map V.str := by
        rw [cutV_1 _ _ _ (by rw [List.length_append, List.length_map]; omega), es, List.take_append_of_le_length (by rw [List.length_map]; omega), List.take_of_length_le (by rw [List.length_map]; omega)]
      rw [show (1 : Int) + (t.ss.length : Int) = ((1 + t.ss.length : Nat) : Int) by omega, ec]
      exact k p _ (same_upd hp) upd_same
    · refine ⟨_, rfl, _, rfl, rfl, _, rfl, a, _, 0, _, rfl, rfl, h1, atI_0 _ _, t.hd, none, .int 0, rfl, dicW_no eD no, rfl, ?_⟩
      refine ⟨_, _, rfl, rfl, _, rfl, a, _, rfl, h1, fun hh => absurd ⟨hh.1, trivial⟩ (sIx_1 _ _), fun _ p hp => ?_⟩
      have ec : cutV (V.str t.hd :: (t.ss.map V.str ++ us.map V.ref)) (some 1) (some ((1 + 0 : Nat) : Int)) = t.srt.map V.str := by
        rw [cutV_1 _ _ _ (Nat.zero_le _), es]
        rfl
      rw [show (1 : Int) + (0 : Int) = ((1 + 0 : Nat) : Int) by omega, ec]
      exact k p _ (same_upd hp) upd_same
end
end K25

namespace K25
open PySem PySem.Spec PyProof.Rows L2 Ow
/-! ### all parts, by the stack -/
def Tm.pre : Tm → List Tm
  | .leaf w ss => [.leaf w ss]
  | .one w t => .one w t :: t.pre
  | .two w s t => .two w s t :: (s.pre ++ t.pre)
theorem pre_kids (t : Tm) : t.pre = t :: t.kids.flatMap Tm.pre := by
  cases t <;> simp [Tm.pre, Tm.kids]
theorem pre_len : ∀ t : Tm, t.pre.length = t.sz
  | .leaf _ _ => rfl
  | .one _ t => by simp only [Tm.pre, Tm.sz, List.length_cons, pre_len t]; omega
  | .two _ s t => by simp only [Tm.pre, Tm.sz, List.length_cons, List.length_append, pre_len s, pre_len t]; omega
theorem Rt.kids : ∀ {t : Tm}, Rt t → ∀ u ∈ t.kids, Rt u
  | .leaf _ _, _, u, hu => absurd hu List.not_mem_nil
  | .one _ t, h, u, hu => by rw [List.mem_singleton.mp hu]; exact h.2
  | .two _ s t, h, u, hu => by
    rcases List.mem_cons.mp hu with z | z
    · rw [z]; exact h.2.1
    · rw [List.mem_singleton.mp z]; exact h.2.2
theorem Rt.pre : ∀ {t : Tm}, Rt t → ∀ u ∈ t.pre, Rt u
  | .leaf _ _, h, u, hu => by rw [List.mem_singleton.mp hu]; exact h
  | .one _ t, h, u, hu => by
    rcases List.mem_cons.mp hu with z | z
    · rw [z]; exact h
    · exact h.2.pre u z
  | .two _ s t, h, u, hu => by
    rcases List.mem_cons.mp hu with z | z
    · rw [z]; exact h
    · rcases List.mem_append.mp z with z | z
      · exact h.2.1.pre u z
      · exact h.2.2.pre u z
/-- at r stands the pair of a path, at most n long, and a term -/
def Pr (K : PySem.W.Frag) (H : Hp) (n : Nat) (r : Addr) (t : Tm) : Prop := ∃ (q u : Addr) (xs : List V), SqT K H r [.ref q, .ref u] ∧ SqT K H q xs ∧ xs.length ≤ n ∧ TmAt K H u t
inductive Prs (K : PySem.W.Frag) (H : Hp) (n : Nat) : List Addr → List Tm → Prop
  | nil : Prs K H n [] []
  | cons {a : Addr} {t : Tm} {as : List Addr} {ts : List Tm} : Pr K H n a t → Prs K H n as ts → Prs K H n (a :: as) (t :: ts)
section
variable {K : PySem.W.Frag} {H H' : Hp} {n m : Nat}
theorem Pr.same (s : Same H H') {r : Addr} {t : Tm} (h : Pr K H n r t) : Pr K H' n r t := let ⟨q, u, xs, a, b, c, d⟩ := h; ⟨q, u, xs, sqt_same s a, sqt_same s b, c, d.same s⟩
theorem Pr.put {D : Addr} {l : List V} {o : HO} (e : H D = some (.lst l)) {r : Addr} {t : Tm} (h : Pr K H n r t) : Pr K (upd H D o) n r t := let ⟨q, u, xs, a, b, c, d⟩ := h; ⟨q, u, xs, sqt_put e a, sqt_put e b, c, d.put e⟩
theorem Pr.le (l : n ≤ m) {r : Addr} {t : Tm} (h : Pr K H n r t) : Pr K H m r t := let ⟨q, u, xs, a, b, c, d⟩ := h; ⟨q, u, xs, a, b, Nat.le_trans c l, d⟩
theorem Prs.same (s : Same H H') : ∀ {as : List Addr} {ts : List Tm}, Prs K H n as ts → Prs K H' n as ts
  | _, _, .nil => .nil
  | _, _, .cons h g => .cons (h.same s) (g.same s)
theorem Prs.put {D : Addr} {l : List V} {o : HO} (e : H D = some (.lst l)) : ∀ {as : List Addr} {ts : List Tm}, Prs K H n as ts → Prs K (upd H D o) n as ts
  | _, _, .nil => .nil
  | _, _, .cons h g => .cons (h.put e) (g.put e)
theorem Prs.le (l : n ≤ m) : ∀ {as : List Addr} {ts : List Tm}, Prs K H n as ts → Prs K H m as ts
  | _, _, .nil => .nil
  | _, _, .cons h g => .cons (h.le l) (g.le l)
theorem Prs.len : ∀ {as : List Addr} {ts : List Tm}, Prs K H n as ts → as.length = ts.length
  | _, _, .nil => rfl
  | _, _, .cons _ g => congrArg Nat.succ g.len
theorem Prs.app : ∀ {as bs : List Addr} {ts us : List Tm}, Prs K H n as ts → Prs K H n bs us → Prs K H n (as ++ bs) (ts ++ us)
  | _, _, _, _, .nil, g => g
  | _, _, _, _, .cons h r, g => .cons h (r.app g)
theorem Prs.rev : ∀ {as : List Addr} {ts : List Tm}, Prs K H n as ts → Prs K H n as.reverse ts.reverse
  | _, _, .nil => .nil
  | _, _, .cons h r => by rw [List.reverse_cons, List.reverse_cons]; exact r.rev.app (.cons h .nil)
theorem Prs.get : ∀ {as : List Addr} {ts : List Tm}, Prs K H n as ts → ∀ {i : Nat} {a : Addr}, as[i]? = some a → ∃ t, ts[i]? = some t ∧ Pr K H n a t
  | _, _, .nil, i, a, e => by cases e
  | _, _, .cons h r, 0, a, e => ⟨_, rfl, (Option.some.inj e) ▸ h⟩
  | _, _, .cons h r, i + 1, a, e => r.get e
theorem Prs.uncons {a : Addr} {as : List Addr} {ts : List Tm} (h : Prs K H n (a :: as) ts) : ∃ t us, ts = t :: us ∧ Pr K H n a t ∧ Prs K H n as us := by
  cases h with
  | cons h r => exact ⟨_, _, rfl, h, r⟩
theorem Prs.unnil {ts : List Tm} (h : Prs K H n [] ts) : ts = [] := by
  cases h
  rfl
/-- the last one -/
theorem Prs.last {as : List Addr} {a : Addr} : ∀ {ts : List Tm}, Prs K H n (as ++ [a]) ts → ∃ us t, ts = us ++ [t] ∧ Prs K H n as us ∧ Pr K H n a t := by
  induction as with
  | nil =>
    intro ts h
    obtain ⟨t, us, e, h1, h2⟩ := h.uncons
    exact ⟨[], t, by rw [e, h2.unnil]; rfl, .nil, h1⟩
  | cons b as ih =>
    intro ts h
    obtain ⟨t, us, e, h1, h2⟩ := Prs.uncons (as := as ++ [a]) h
    obtain ⟨vs, u, e2, r1, r2⟩ := ih h2
    exact ⟨t :: vs, u, by rw [e, e2]; rfl, .cons h1 r1, r2⟩
end
/-! ### is not None, of None; an and whose first is false -/
def rNotN : R2 := fun x y H Q => x = .non ∧ y = .non ∧ Q (.bl false) H
theorem op_notN {X : Cx} : OpR X (compareOp .IsNot) rNotN := by
  intro pins s σ H x y v u Q I rx ry h
  obtain ⟨rfl, rfl, q⟩ := h
  cases (show v = Value.none from rx)
  cases (show u = Value.none from ry)
  exact wpAny_isNot_self rfl ⟨.bl false, H, I, rfl, q⟩
def tAndF (tA : TT) : TT := fun σ H Q => tA σ H fun c H1 => c = false ∧ Q false H1
theorem pw_andF {X : Cx} {a b : Expr} {rest : List Expr} {pos : Pos} {tA : TT} (ha : PT X a tA) : PW X (.BoolOp .And (a :: b :: rest) pos) (tAndF tA) := by
  refine ⟨fun wh pins s σ H Q I h => ?_⟩
  refine isTrue_and (thn (ha.run pins s σ H _ I h) fun c s1 ⟨H1, I1, e, q1⟩ => ?_)
  subst e
  exact ⟨H1, I1, q1⟩
abbrev NBe : List Str := ["path", "part", "number", "below"]
theorem scBe : FnScope NBe ["path", "part"] (defScope sBelow) := ⟨rfl, rfl, rfl, by decide +kernel, rfl, by decide +kernel, by decide +kernel⟩
def spBe (K : PySem.W.Frag) : Sp := fun vs H Q _ => ∃ (q a : Addr) (xs : List V) (t : Tm), vs = [.ref q, .ref a] ∧ SqT K H q xs ∧ xs.length ≤ 900 ∧ TmAt K H a t ∧ Rt t ∧ ∀ (L : Addr) (rs : List Addr) (H' : Hp), Same H H' → H L = none → H' L = some (.lst (rs.map V.ref)) → Prs K H' (xs.length + 1) rs t.kids → Q (.ref L) H'
abbrev NPC : List Str := ["frame", "value", "found", "waiting", "path", "part"]
theorem scPC : FnScope NPC ["frame", "value"] (defScope sPartsChecked) := ⟨rfl, rfl, rfl, by decide +kernel, rfl, by decide +kernel, by decide +kernel⟩
def spPC (K : PySem.W.Frag) : Sp := fun vs H Q _ => ∃ (a : Addr) (t : Tm), vs = [.non, .ref a] ∧ TmAt K H a t ∧ Rt t ∧ t.sz ≤ 400 ∧ ∀ (L : Addr) (rs : List Addr) (H' : Hp), Same H H' → H L = none → H' L = some (.lst (rs.map V.ref)) → Prs K H' 400 rs t.pre → Q (.ref L) H'
abbrev NPO : List Str := ["term"]
theorem scPO : FnScope NPO ["term"] (defScope sPartsOf) := ⟨rfl, rfl, rfl, by decide +kernel, rfl, by decide +kernel, by decide +kernel⟩
def spPO (K : PySem.W.Frag) : Sp := fun vs H Q _ => ∃ (a : Addr) (t : Tm), vs = [.ref a] ∧ TmAt K H a t ∧ Rt t ∧ t.sz ≤ 400 ∧ ∀ (L : Addr) (rs : List Addr) (H' : Hp), Same H H' → H L = none → H' L = some (.lst (rs.map V.ref)) → Prs K H' 400 rs t.pre → Q (.ref L) H'
section
variable {P : Program} {w : World} {K : PySem.W.Frag} {mg : Str → Option Value} {base : Heap} {f : Addr} {fd : FuncData}
theorem ok_be (F : FnP K "_below" sBelow f fd) (Y : Fx w K mg) : FnOk P w K mg base CX0 2 f fd ["path", "part"] (spBe K) := by
  obtain ⟨d1, F1⟩ := Y.dPartsBelow
  have b1 := FunD.bindsN (ps := ["term"]) F1 fun _ _ _ _ _ _ us hl => match us, hl with | [_], _ => rfl
  have G1 : FnOk P w K mg base CX0 1 _ d1 ["term"] (spPB K) := ok_pb F1 Y
  refine okD F scBe (fun vs H Q E h => ?_) (fun cdv A outer s H vs Q E hr h => ?_)
  · obtain ⟨q, a, xs, t, rfl, _⟩ := h
    rfl
  · have nd := scBe.nd
    refine ⟨_, pss_one (ps_ret (pe_lc (own := [("number", 2), ("below", 3)]) (g := gTup K 2 (gCons (gName 2) (gCons (gName 3) gNil))) (tt := tYes) (te := tTup (tCons (tOp (rCatA K) (tVar 0) (tTup (tCons (tVar 2) tNil))) (tCons (tVar 3) tNil))) rfl nd
      (pi_enumA (by rfl) Y.bEnumerate (pa_cons (pe_call G1 hr (by rfl) Y.gPartsBelow F1.kp b1 .nil pass0 (pa_cons (pv 1) pa_nil)) pa_nil)) (blkOk_by (N := NBe) (sc := defScope sBelow) (by decide +kernel))
      (fun _ _ _ _ _ => pg_tup rfl (pgs_cons (pg_name (i := 2) nd rfl (Or.inl rfl)) (pgs_cons (pg_name (i := 3) nd rfl (Or.inl rfl)) pgs_nil))) (fun _ _ _ _ _ => pts_nil)
      (fun _ _ _ _ _ => pe_tup (pa_cons (pe_op op_catA (pv 0) (pe_tup (pa_cons (pv 2) pa_nil))) (pa_cons (pv 3) pa_nil))))), ?_⟩
    obtain ⟨q, a, xs, t, rfl, hq, lx, ha, rt, k⟩ := h
    refine ⟨_, rfl, a, t, rfl, ha, rt, fun p us H1 s1 hp hk => ?_⟩
    refine ⟨p, us.map V.ref, rfl, .inr (SqT.of hp), fun J GG wk gk D hD => lc_it wk (fun i G => ∃ rs : List Addr, G D = some (.lst (rs.map V.ref)) ∧ Prs K G (xs.length + 1) rs (t.kids.take i) ∧ Same H1 G) ⟨[], upd_same, .nil, same_upd hD⟩ (fun i G _ ⟨_, _, _, z⟩ => gk G z) ?_ ?_⟩
    · rintro i v G G' hi ⟨rs, e, hP, sm⟩ ⟨T, x, y, rfl, hT, rfl, ex, ey⟩
      cases ex
      obtain ⟨u, eu, rfl⟩ : ∃ u, us[i]? = some u ∧ y = V.ref u := by
        replace ey : (us.map V.ref)[i]? = some y := ey
        rw [List.getElem?_map] at ey
        cases z : us[i]? with
        | none => rw [z] at ey; cases ey
        | some u => rw [z] at ey; exact ⟨u, rfl, (Option.some.inj ey).symm⟩
      obtain ⟨kd, ek, hkd⟩ := hk.get eu
      have li := (List.getElem?_eq_some_iff.mp ek).1
      have l2 := rt.pos.2.1
      have lr := hP.len
      rw [List.length_take] at lr
      have sT := same_upd (o := .tup [V.int (i : Int), V.ref u]) hT
      refine ⟨T, _, rfl, SqT.of upd_same, rfl, _, _, rfl, _, _, rfl, rfl, rfl, _, rfl, _, rfl, szl (by show 1 ≤ 1000; decide), fun T2 hT2 => ?_⟩
      have sT2 := same_upd (o := .tup [V.int (i : Int)]) hT2
      refine ⟨q, T2, xs, [.int (i : Int)], rfl, rfl, sqt_same (s1.trans (sm.trans (sT.trans sT2))) hq, SqT.of upd_same, szl (by show xs.length + 1 ≤ 1000; omega), fun hx => ?_, fun hx h0 => absurd h0 (List.cons_ne_nil _ _), fun hx _ => ?_⟩
      · refine ⟨_, rfl, szl (by show 2 ≤ 1000; decide), fun T3 hT3 => ?_⟩
        have sT3 := same_upd (o := .tup [V.ref T2, V.ref u]) hT3
        have s9 := sT.trans (sT2.trans sT3)
        have e9 := s9 _ _ e
        refine ⟨_, e9, ?_, rs ++ [T3], ?_, ?_, same_put hD (sm.trans s9)⟩
        · rw [List.length_map]
          exact small1000 (by omega)
        · rw [upd_same, List.map_append]
          rfl
        · rw [List.take_add_one, ek]
          refine Prs.put e9 ((hP.same s9).app (.cons ⟨T2, u, [.int (i : Int)], SqT.of upd_same, sqt_same sT3 (SqT.of upd_same), Nat.succ_le_succ (Nat.zero_le _), hkd.same (sm.trans s9)⟩ .nil))
      · intro T4 hT4
        have sT4 := same_upd (o := .tup (xs ++ [V.int (i : Int)])) hT4
        refine ⟨_, rfl, szl (by show 2 ≤ 1000; decide), fun T3 hT3 => ?_⟩
        have sT3 := same_upd (o := .tup [V.ref T4, V.ref u]) hT3
        have s9 := sT.trans (sT2.trans (sT4.trans sT3))
        have e9 := s9 _ _ e
        refine ⟨_, e9, ?_, rs ++ [T3], ?_, ?_, same_put hD (sm.trans s9)⟩
        · rw [List.length_map]
          exact small1000 (by omega)
        · rw [upd_same, List.map_append]
          rfl
        · rw [List.take_add_one, ek]
          refine Prs.put e9 ((hP.same s9).app (.cons ⟨T4, u, xs ++ [.int (i : Int)], SqT.of upd_same, sqt_same sT3 (SqT.of upd_same), by rw [List.length_append]; exact Nat.le_refl _, hkd.same (sm.trans s9)⟩ .nil))
    · rintro G ⟨rs, e, hP, sm⟩
      have lk := hk.len
      rw [List.length_map, List.take_of_length_le (by omega)] at hP
      have hD0 : H D = none := by
        cases z : H D with
        | none => rfl
        | some u => exact absurd (s1 _ _ z) (by rw [hD]; intro q; cases q)
      exact k D rs G (s1.trans sm) hD0 e hP
end
end K25

namespace K25
open PySem PySem.Spec PyProof.Rows L2 Ow
theorem none_same {H G : Hp} (s : Same H G) {D : Addr} (hD : G D = none) : H D = none := by
  cases z : H D with
  | none => rfl
  | some u => exact absurd (s _ _ z) (by rw [hD]; intro q; cases q)
def lenAt (σ : L2.St) (i : Nat) (G : Hp) : Nat := match σ[i]? with
  | some (some (V.ref b)) => (match G b with
    | some (.lst zs) => zs.length
    | _ => 0)
  | _ => 0
section
variable {P : Program} {w : World} {K : PySem.W.Frag} {mg : Str → Option Value} {base : Heap} {f : Addr} {fd : FuncData}
theorem ok_pc (F : FnP K "_parts_checked" sPartsChecked f fd) (Y : Fx w K mg) : FnOk P w K mg base CX0 3 f fd ["frame", "value"] (spPC K) := by
  obtain ⟨d1, F1⟩ := Y.dBelow
  have b1 := FunD.bindsN (ps := ["path", "part"]) F1 fun _ _ _ _ _ _ us hl => match us, hl with | [_, _], _ => rfl
  have G1 : FnOk P w K mg base CX0 2 _ d1 ["path", "part"] (spBe K) := ok_be F1 Y
  refine okD F scPC (fun vs H Q E h => ?_) (fun cdv A outer s H vs Q E hr h => ?_)
  · obtain ⟨a, t, rfl, _⟩ := h
    rfl
  · have nd := scPC.nd
    refine ⟨_, pss_cons (ps_set (i := 2) nd rfl (Or.inl rfl) (pe_lst pa_nil))
      (pss_cons (ps_set (i := 3) nd rfl (Or.inl rfl) (pe_lst (pa_cons (pe_tup (pa_cons (pe_tup pa_nil) (pa_cons (pv 1) pa_nil))) pa_nil)))
      (pss_cons (ps_while PassesOwn.never (pt_truth (pv 3) (by intro _; rfl))
        (pss_cons (ps_asg (pe_bm0 PySem.F.plainAttrs_list PySem.F.slot_list_pop PySem.F.type_list_pop mt_pop (pv 3)) (pg_tup rfl (pgs_cons (pg_name (i := 4) nd rfl (Or.inl rfl)) (pgs_cons (pg_name (i := 5) nd rfl (Or.inl rfl)) pgs_nil))))
        (pss_cons (ps_ifN (pw_andF (pt_cmpR op_notN (pv 0) pe_non (nomark _))).pt pss_nil)
        (pss_cons (ps_expr (pe_bm PySem.F.plainAttrs_list PySem.F.slot_list_append PySem.F.type_list_append mt_append (pv 2) (pa_cons (pe_tup (pa_cons (pv 4) (pa_cons (pv 5) pa_nil))) pa_nil)))
        (pss_one (ps_expr (pe_bm PySem.F.plainAttrs_list PySem.F.slot_list_extend PySem.F.type_list_extend mt_extend (pv 3) (pa_cons (pe_rev (pe_call G1 hr (by rfl) Y.gBelow F1.kp b1 .nil pass0 (pa_cons (pv 4) (pa_cons (pv 5) pa_nil))) (pe_un un_neg pe_int)) pa_nil))))))))
      (pss_one (ps_ret (pv 2))))), ?_⟩
    obtain ⟨a, t, rfl, ha, rt, z4, k⟩ := h
    refine ⟨szl (by show 0 ≤ 1000; decide), fun Fd hF => ?_⟩
    have s0 := same_upd (o := .lst []) hF
    refine ⟨szl (by show 0 ≤ 1000; decide), fun T0 hT0 => ?_⟩
    have s1 := same_upd (o := .tup []) hT0
    refine ⟨_, rfl, szl (by show 2 ≤ 1000; decide), fun T1 hT1 => ?_⟩
    have s2 := same_upd (o := .tup [V.ref T0, V.ref a]) hT1
    refine ⟨szl (by show 1 ≤ 1000; decide), fun Wt hW => ?_⟩
    have s3 := same_upd (o := .lst [V.ref T1]) hW
    have e3F := s3 _ _ (s2 _ _ (s1 _ _ (upd_same : upd H Fd (.lst []) Fd = _)))
    have e3W := (upd_same : upd (upd (upd (upd H Fd (.lst [])) T0 (.tup [])) T1 (.tup [V.ref T0, V.ref a])) Wt (.lst [V.ref T1]) Wt = _)
    have q3 : SqT K (upd (upd (upd (upd H Fd (.lst [])) T0 (.tup [])) T1 (.tup [V.ref T0, V.ref a])) Wt (.lst [V.ref T1])) T1 [.ref T0, .ref a] := sqt_same s3 (SqT.of upd_same)
    have q4 : SqT K (upd (upd (upd (upd H Fd (.lst [])) T0 (.tup [])) T1 (.tup [V.ref T0, V.ref a])) Wt (.lst [V.ref T1])) T0 [] := sqt_same (s2.trans s3) (SqT.of upd_same)
    have s9 := s0.trans (s1.trans (s2.trans s3))
    have hW0 : H Wt = none := none_same (s0.trans (s1.trans s2)) hW
    have nFW : Fd ≠ Wt := fun q => by
      subst q
      have z := (s1.trans s2) _ _ (upd_same : upd H Fd (.lst []) Fd = _)
      rw [hW] at z
      cases z
    have ha9 := ha.same s9
    obtain ⟨G0, eG⟩ : ∃ Z, Z = upd (upd (upd (upd H Fd (.lst [])) T0 (.tup [])) T1 (.tup [V.ref T0, V.ref a])) Wt (.lst [V.ref T1]) := ⟨_, rfl⟩
    dsimp only [gName]
    change tSeq (tWhile _ _) _ _ [some .non, some (.ref a), some (.ref Fd), some (.ref Wt), none, none] (upd (upd (upd (upd H Fd (.lst [])) T0 (.tup [])) T1 (.tup [V.ref T0, V.ref a])) Wt (.lst [V.ref T1]))
    rw [← eG] at e3F e3W q3 q4 s9 ha9 ⊢
    clear eG s0 s1 s2 s3 hW hT1 hT0
    refine while_by (fun σ G => ∃ (rs ws : List Addr) (ts us : List Tm) (v4 v5 : Option V), σ = [some .non, some (.ref a), some (.ref Fd), some (.ref Wt), v4, v5] ∧ G Fd = some (.lst (rs.map V.ref)) ∧ G Wt = some (.lst (ws.map V.ref)) ∧ Prs K G rs.length rs ts ∧ Prs K G rs.length ws us ∧ (∀ u ∈ us, Rt u) ∧ ts ++ us.reverse.flatMap Tm.pre = t.pre ∧ Same H G)
      (fun σ G => t.sz - lenAt σ 2 G) ⟨[], [T1], [], [t], none, none, rfl, e3F, e3W, .nil, .cons ⟨T0, a, [], q3, q4, Nat.le_refl _, ha9⟩ .nil, fun u hu => (List.mem_singleton.mp hu) ▸ rt, by simp, s9⟩ ?_ ?_
    · rintro σ G ⟨rs, ws, ts, us, v4, v5, rfl, eF, eW, P1, P2, hR, hsum, sm⟩
      have l1 := P1.len
      have l2 := P2.len
      have lsum := congrArg List.length hsum
      rw [List.length_append, pre_len] at lsum
      refine ⟨_, rfl, !(ws.map V.ref).isEmpty, .inl ⟨_, SqL.of eW, rfl⟩, ?_⟩
      rcases List.eq_nil_or_concat ws with rfl | ⟨ws', r, rfl⟩
      · refine iteF ?_
        rw [List.length_eq_zero_iff.mp l2.symm] at hsum
        have e : ts = t.pre := by rw [← hsum]; simp
        subst e
        exact ⟨_, rfl, k Fd rs G sm hF eF (P1.le (by rw [l1, pre_len]; exact z4))⟩
      · rw [List.concat_eq_append] at *
        have ne : (!((ws' ++ [r]).map V.ref).isEmpty) = true := by simp
        rw [ne]
        refine iteT ?_
        obtain ⟨us', u, rfl, P3, q, ua, xs, h1, h2, h3, h4⟩ := P2.last
        have hRu := hR u (List.mem_append_right _ List.mem_cons_self)
        have hsum2 : (ts ++ [u]) ++ (us' ++ u.kids.reverse).reverse.flatMap Tm.pre = t.pre := by
          rw [← hsum]
          simp only [List.reverse_append, List.reverse_reverse, List.reverse_cons, List.reverse_nil, List.nil_append, List.flatMap_append, List.append_assoc, List.singleton_append, List.flatMap_cons, List.cons_append]
          rw [pre_kids u]
          simp
        have lsum2 := congrArg List.length hsum2
        rw [List.length_append, List.length_append, pre_len] at lsum2
        have ll2 := P3.len
        have hku : ∀ v ∈ us' ++ u.kids.reverse, Rt v := fun v hv => by
          rcases List.mem_append.mp hv with z | z
          · exact hR v (List.mem_append_left _ z)
          · exact hRu.kids v (List.mem_reverse.mp z)
        have pos_len : ∀ l : List Tm, l.length ≤ (l.flatMap Tm.pre).length := fun l => by
          induction l with
          | nil => exact Nat.le_refl _
          | cons x l ih =>
            rw [List.flatMap_cons, List.length_append, List.length_cons, pre_len]
            have : 1 ≤ x.sz := by cases x <;> simp only [Tm.sz] <;> omega
            omega
        have lu := pos_len (us' ++ u.kids.reverse).reverse
        rw [List.length_reverse, List.length_append, List.length_reverse] at lu
        simp only [List.length_cons, List.length_nil] at lsum2
        have l9 : rs.length ≤ 399 := by omega
        refine ⟨_, rfl, .inl ⟨rfl, _, SqL.of eW⟩, Wt, _, .ref r, rfl, rfl, eW, by rw [List.map_append, List.length_append, List.map_cons, List.map_nil, List.length_cons, List.length_nil, Nat.add_sub_cancel]; simp, ?_⟩
        rw [List.map_append, List.map_cons, List.map_nil, List.dropLast_concat]
        have smA := same_put (o := .lst (ws'.map V.ref)) hW0 sm
        have eFA : upd G Wt (.lst (ws'.map V.ref)) Fd = some (.lst (rs.map V.ref)) := (upd_ne nFW).trans eF
        have eWA : upd G Wt (.lst (ws'.map V.ref)) Wt = some (.lst (ws'.map V.ref)) := upd_same
        have P1A := P1.put (o := .lst (ws'.map V.ref)) eW
        have P3A := P3.put (o := .lst (ws'.map V.ref)) eW
        have h1A := sqt_put (o := .lst (ws'.map V.ref)) eW h1
        have h2A := sqt_put (o := .lst (ws'.map V.ref)) eW h2
        have h4A := h4.put (o := .lst (ws'.map V.ref)) eW
        generalize upd G Wt (.lst (ws'.map V.ref)) = GA at smA eFA eWA P1A P3A h1A h2A h4A ⊢
        refine ⟨r, _, rfl, h1A, rfl, _, _, rfl, _, _, rfl, rfl, ?_⟩
        dsimp only
        change tSeq _ _ _ [some .non, some (.ref a), some (.ref Fd), some (.ref Wt), some (.ref q), some (.ref ua)] GA
        refine ⟨_, rfl, rfl, rfl, _, rfl, rfl, rfl, ?_⟩
        change tSeq _ _ _ [some .non, some (.ref a), some (.ref Fd), some (.ref Wt), some (.ref q), some (.ref ua)] GA
        refine ⟨_, rfl, .inl ⟨rfl, _, SqL.of eFA⟩, _, rfl, _, rfl, szl (by show 2 ≤ 1000; decide), fun T hT => ?_⟩
        have sT := same_upd (o := .tup [V.ref q, V.ref ua]) hT
        have eFB := sT _ _ eFA
        refine ⟨Fd, _, _, rfl, rfl, eFB, by rw [List.length_map]; exact small1000 (by omega), ?_⟩
        have nm : rs.map V.ref ++ [V.ref T] = (rs ++ [T]).map V.ref := by rw [List.map_append]; rfl
        rw [nm]
        have prT : Pr K (upd GA T (.tup [V.ref q, V.ref ua])) (rs.length + 1) T u := ⟨q, ua, xs, SqT.of upd_same, sqt_same sT h2A, Nat.le_succ_of_le h3, h4A.same sT⟩
        have P1B := (((P1A.same sT).le (Nat.le_succ _)).app (.cons prT .nil)).put (o := .lst ((rs ++ [T]).map V.ref)) eFB
        have P3B := ((P3A.same sT).le (Nat.le_succ _)).put (o := .lst ((rs ++ [T]).map V.ref)) eFB
        have h2B := sqt_put (o := .lst ((rs ++ [T]).map V.ref)) eFB (sqt_same sT h2A)
        have h4B := (h4A.same sT).put (o := .lst ((rs ++ [T]).map V.ref)) eFB
        have smB := same_put (o := .lst ((rs ++ [T]).map V.ref)) hF (smA.trans sT)
        have eFC : upd (upd GA T (.tup [V.ref q, V.ref ua])) Fd (.lst ((rs ++ [T]).map V.ref)) Fd = some (.lst ((rs ++ [T]).map V.ref)) := upd_same
        have eWC : upd (upd GA T (.tup [V.ref q, V.ref ua])) Fd (.lst ((rs ++ [T]).map V.ref)) Wt = some (.lst (ws'.map V.ref)) := (upd_ne nFW.symm).trans (sT _ _ eWA)
        generalize upd (upd GA T (.tup [V.ref q, V.ref ua])) Fd (.lst ((rs ++ [T]).map V.ref)) = GB at P1B P3B h2B h4B smB eFC eWC ⊢
        refine ⟨_, rfl, .inl ⟨rfl, _, SqL.of eWC⟩, _, rfl, _, rfl, q, ua, xs, u, rfl, h2B, by omega, h4B, hRu, fun L rs2 GC sC hL eL hP => ?_⟩
        refine ⟨_, rfl, rfl, L, _, rfl, .inl ⟨SqL.of eL, fun p hp => ?_⟩⟩
        have sp := same_upd (o := .lst (rs2.map V.ref).reverse) hp
        have eWD := sp _ _ (sC _ _ eWC)
        have lr2 := hP.len
        refine ⟨Wt, p, _, _, rfl, rfl, eWD, upd_same, szl (by rw [List.length_map, List.length_reverse, List.length_map]; omega), ?_⟩
        have nm2 : ws'.map V.ref ++ (rs2.map V.ref).reverse = (ws' ++ rs2.reverse).map V.ref := by rw [List.map_append, List.map_reverse]
        rw [nm2]
        have eFD := (upd_ne (o := HO.lst ((ws' ++ rs2.reverse).map V.ref)) nFW).trans (sp _ _ (sC _ _ eFC))
        have lr : (rs ++ [T]).length = rs.length + 1 := by rw [List.length_append]; rfl
        refine ⟨⟨rs ++ [T], ws' ++ rs2.reverse, ts ++ [u], us' ++ u.kids.reverse, _, _, rfl, eFD, upd_same, ?_, ?_, hku, hsum2, same_put hW0 (smB.trans (sC.trans sp))⟩, ?_⟩
        · rw [lr]
          exact (P1B.same (sC.trans sp)).put eWD
        · rw [lr]
          exact ((P3B.same (sC.trans sp)).app ((hP.same sp).le (by omega)).rev).put eWD
        · show t.sz - (match upd (upd GC p (.lst (rs2.map V.ref).reverse)) Wt (.lst ((ws' ++ rs2.reverse).map V.ref)) Fd with
            | some (HO.lst zs) => zs.length
            | _ => 0) < t.sz - (match G Fd with
            | some (HO.lst zs) => zs.length
            | _ => 0)
          rw [eFD, eF]
          dsimp only
          rw [List.length_map, List.length_map, lr]
          omega
    · rintro σ G Q1 Q2 hq ⟨v, e1, b, e2, z⟩
      exact ⟨v, e1, b, e2, hq _ _ z⟩
end
end K25

namespace K25
open PySem PySem.Spec PyProof.Rows L2 Ow
/-! ### parts_of, and what asks all parts -/
theorem fl_strs (ws : List Str) : (ws.map V.str).all flatV = true := by
  rw [List.all_map]
  exact List.all_eq_true.mpr fun _ _ => rfl
def noneB (ws : List Str) (u : Tm) : Bool := !decide (u.hd ∈ ws)
def noneOf (ws : List Str) (t : Tm) : Bool := (t.pre.map (noneB ws)).all id
abbrev NF : List Str := ["then", "closed", "walked"]
abbrev NSh : List Str := ["closed", "walked"]
abbrev NPl : List Str := ["rest", "other", "closed", "walked"]
def isRest (u : Tm) : Bool := decide (u.hd = "rest")
def rk (l : List Tm) : List Tm := (l.filter isRest).flatMap Tm.kids
theorem rk_yes {l : List Tm} {i : Nat} {u : Tm} (e : l[i]? = some u) (h : isRest u = true) : rk (l.take (i + 1)) = rk (l.take i) ++ u.kids := by
  unfold rk
  rw [List.take_add_one, e, List.filter_append, List.flatMap_append]
  simp [h]
theorem rk_no {l : List Tm} {i : Nat} {u : Tm} (e : l[i]? = some u) (h : isRest u = false) : rk (l.take (i + 1)) = rk (l.take i) := by
  unfold rk
  rw [List.take_add_one, e, List.filter_append, List.flatMap_append]
  simp [h]
def keptB (t : Tm) : Bool := ((rk t.pre).map (noneOf NF)).all id
theorem Rt.rest : ∀ {u : Tm}, Rt u → u.hd = "rest" → ∃ v, u = .one "rest" v ∧ Rt v
  | .leaf w ss, h, e => by
    exfalso
    rcases h with ⟨rfl, _⟩ | ⟨rfl, _⟩ | ⟨rfl, _⟩ | ⟨rfl, _⟩ | ⟨rfl, _⟩
    · exact absurd (show ("letter" : Str) = "rest" from e) (by decide +kernel)
    · exact absurd (show ("same" : Str) = "rest" from e) (by decide +kernel)
    · exact absurd (show ("other" : Str) = "rest" from e) (by decide +kernel)
    · exact absurd (show ("none" : Str) = "rest" from e) (by decide +kernel)
    · exact absurd (show ("all" : Str) = "rest" from e) (by decide +kernel)
  | .one w v, h, e => by
    cases (show w = "rest" from e)
    exact ⟨v, rfl, h.2⟩
  | .two w s t, h, e => by
    exfalso
    rcases h.1 with rfl | rfl | rfl
    · exact absurd (show ("joined" : Str) = "rest" from e) (by decide +kernel)
    · exact absurd (show ("cut" : Str) = "rest" from e) (by decide +kernel)
    · exact absurd (show ("then" : Str) = "rest" from e) (by decide +kernel)
theorem sz_pre : ∀ {t u : Tm}, u ∈ t.pre → u.sz ≤ t.sz
  | .leaf w ss, u, h => by rw [List.mem_singleton.mp h]; exact Nat.le_refl _
  | .one w v, u, h => by
    rcases List.mem_cons.mp h with z | z
    · rw [z]; exact Nat.le_refl _
    · have := sz_pre z
      show u.sz ≤ 1 + v.sz
      omega
  | .two w s t, u, h => by
    rcases List.mem_cons.mp h with z | z
    · rw [z]; exact Nat.le_refl _
    · show u.sz ≤ 1 + s.sz + t.sz
      rcases List.mem_append.mp z with z | z
      · have := sz_pre z
        omega
      · have := sz_pre z
        omega
/-- a def that tells a Bool of a term -/
def spBo (K : PySem.W.Frag) (g : Tm → Bool) : Sp := fun vs H Q _ => ∃ (a : Addr) (t : Tm), vs = [.ref a] ∧ TmAt K H a t ∧ Rt t ∧ t.sz ≤ 400 ∧ ∀ H', Same H H' → Q (.bl (g t)) H'
abbrev NHN : List Str := ["term", "words", "_", "part"]
theorem scHN : FnScope NHN ["term", "words"] (defScope sHasNoneOf) := ⟨rfl, rfl, rfl, by decide +kernel, rfl, by decide +kernel, by decide +kernel⟩
def spHN (K : PySem.W.Frag) : Sp := fun vs H Q _ => ∃ (a w : Addr) (t : Tm) (ws : List Str), vs = [.ref a, .ref w] ∧ TmAt K H a t ∧ Rt t ∧ t.sz ≤ 400 ∧ SqT K H w (ws.map V.str) ∧ ∀ H', Same H H' → Q (.bl (noneOf ws t)) H'
theorem scIF : FnScope ["term"] ["term"] (defScope sIsFlat) := ⟨rfl, rfl, rfl, by decide +kernel, rfl, by decide +kernel, by decide +kernel⟩
theorem scIS : FnScope ["term"] ["term"] (defScope sIsShort) := ⟨rfl, rfl, rfl, by decide +kernel, rfl, by decide +kernel, by decide +kernel⟩
theorem scIP : FnScope ["term"] ["term"] (defScope sIsPlain) := ⟨rfl, rfl, rfl, by decide +kernel, rfl, by decide +kernel, by decide +kernel⟩
theorem scSz : FnScope ["term"] ["term"] (defScope sSize) := ⟨rfl, rfl, rfl, by decide +kernel, rfl, by decide +kernel, by decide +kernel⟩
abbrev NIK : List Str := ["term", "_", "part"]
theorem scIK : FnScope NIK ["term"] (defScope sIsKept) := ⟨rfl, rfl, rfl, by decide +kernel, rfl, by decide +kernel, by decide +kernel⟩
def spSz (K : PySem.W.Frag) : Sp := fun vs H Q _ => ∃ (a : Addr) (t : Tm), vs = [.ref a] ∧ TmAt K H a t ∧ Rt t ∧ t.sz ≤ 400 ∧ ∀ H', Same H H' → Q (.int (t.sz : Int)) H'
section
variable {P : Program} {w : World} {K : PySem.W.Frag} {mg : Str → Option Value} {base : Heap} {f : Addr} {fd : FuncData}
theorem ok_po (F : FnP K "parts_of" sPartsOf f fd) (Y : Fx w K mg) : FnOk P w K mg base CX0 4 f fd ["term"] (spPO K) := by
  obtain ⟨d1, F1⟩ := Y.dPartsChecked
  have b1 := FunD.bindsN (ps := ["frame", "value"]) F1 fun _ _ _ _ _ _ us hl => match us, hl with | [_, _], _ => rfl
  have G1 : FnOk P w K mg base CX0 3 _ d1 ["frame", "value"] (spPC K) := ok_pc F1 Y
  refine okD F scPO (fun vs H Q E h => ?_) (fun cdv A outer s H vs Q E hr h => ?_)
  · obtain ⟨a, t, rfl, _⟩ := h
    rfl
  · have nd := scPO.nd
    refine ⟨_, pss_one (ps_ret (pe_call G1 hr (by rfl) Y.gPartsChecked F1.kp b1 .nil pass0 (pa_cons pe_non (pa_cons (pv 0) pa_nil)))), ?_⟩
    obtain ⟨a, t, rfl, ha, rt, z4, k⟩ := h
    exact ⟨_, rfl, a, t, rfl, ha, rt, z4, k⟩
theorem ok_hn (F : FnP K "_has_none_of" sHasNoneOf f fd) (Y : Fx w K mg) : FnOk P w K mg base CX0 5 f fd ["term", "words"] (spHN K) := by
  obtain ⟨d1, F1⟩ := Y.dPartsOf
  have b1 := FunD.bindsN (ps := ["term"]) F1 fun _ _ _ _ _ _ us hl => match us, hl with | [_], _ => rfl
  have G1 : FnOk P w K mg base CX0 4 _ d1 ["term"] (spPO K) := ok_po F1 Y
  refine okD F scHN (fun vs H Q E h => ?_) (fun cdv A outer s H vs Q E hr h => ?_)
  · obtain ⟨a, w, t, ws, rfl, _⟩ := h
    rfl
  · have nd := scHN.nd
    refine ⟨_, pss_one (ps_ret (pe_callB (cr_all rfl) (by rfl) Y.bAll (by decide +kernel) (pa_cons (pe_lc (own := [("_", 2), ("part", 3)]) (g := gTup K 2 (gCons (gName 2) (gCons (gName 3) gNil))) (tt := tYes) (te := tOp (rIn K true) (tOp (rIxT K) (tVar 3) (tC (.int 0))) (tVar 1)) rfl nd
      (pi_list (pe_call G1 hr (by rfl) Y.gPartsOf F1.kp b1 .nil pass0 (pa_cons (pv 0) pa_nil))) (blkOk_by (N := NHN) (sc := defScope sHasNoneOf) (by decide +kernel))
      (fun _ _ _ _ _ => pg_tup rfl (pgs_cons (pg_name (i := 2) nd rfl (Or.inl rfl)) (pgs_cons (pg_name (i := 3) nd rfl (Or.inl rfl)) pgs_nil))) (fun _ _ _ _ _ => pts_nil)
      (fun _ _ _ _ _ => pe_cmpR op_notIn_seq (pe_ix ix_tup (pv 3) pe_int (fun _ _ => rfl)) (pv 1) (by rfl))) pa_nil))), ?_⟩
    obtain ⟨a, wa, t, ws, rfl, ha, rt, z4, hw, k⟩ := h
    refine ⟨_, rfl, a, t, rfl, ha, rt, z4, fun L rs H1 s1 hL eL hP => ⟨L, rfl, ⟨_, SqL.of eL⟩, fun D hD => ?_⟩⟩
    refine lc_list (K := K) (a := L) (xs := rs.map V.ref) (fun i G => G D = some (.lst (((t.pre.take i).map (noneB ws)).map V.bl)) ∧ Same H1 G) ⟨upd_same, same_upd hD⟩ (fun i G _ p => p.2.seq (SqL.of eL)) ?_ ?_
    · rintro i v G hi ⟨e, sm⟩
      obtain ⟨r, er, rfl⟩ := ref_at hi
      obtain ⟨u, eu, q, ua, xs, h1, h2, h3, h4⟩ := hP.get er
      obtain ⟨us, hv, _⟩ := (h4.same sm).view
      have li := (List.getElem?_eq_some_iff.mp eu).1
      rw [pre_len] at li
      refine ⟨r, _, rfl, sqt_same sm h1, rfl, _, _, rfl, _, _, rfl, rfl, rfl, _, rfl, ua, _, 0, _, rfl, rfl, hv, atI_0 _ _, _, rfl, wa, _, rfl, .inr (sqt_same (s1.trans sm) hw), rfl, fl_strs ws, ?_⟩
      refine ⟨_, e, ?_, ?_, same_put hD sm⟩
      · rw [List.length_map, List.length_map, List.length_take, pre_len]
        exact small1000 (by omega)
      · rw [upd_same, List.take_add_one, eu, inV_strs]
        simp [noneB]
    · rintro G ⟨e, sm⟩
      rw [List.length_map, hP.len, List.take_length] at e
      exact ⟨D, _, rfl, SqL.of e, k G (s1.trans sm)⟩
theorem ok_if (F : FnP K "is_flat" sIsFlat f fd) (Y : Fx w K mg) : FnOk P w K mg base CX0 6 f fd ["term"] (spBo K (noneOf NF)) := by
  obtain ⟨d1, F1⟩ := Y.dHasNoneOf
  have b1 := FunD.bindsN (ps := ["term", "words"]) F1 fun _ _ _ _ _ _ us hl => match us, hl with | [_, _], _ => rfl
  have G1 : FnOk P w K mg base CX0 5 _ d1 ["term", "words"] (spHN K) := ok_hn F1 Y
  refine okD F scIF (fun vs H Q E h => ?_) (fun cdv A outer s H vs Q E hr h => ?_)
  · obtain ⟨a, t, rfl, _⟩ := h
    rfl
  · have nd := scIF.nd
    refine ⟨_, pss_one (ps_ret (pe_call G1 hr (by rfl) Y.gHasNoneOf F1.kp b1 .nil pass0 (pa_cons (pv 0) (pa_cons (pe_glob (v := .ref (He.ga K "_NOT_FLAT")) (by rfl) Y.gNOTFLAT rfl) pa_nil)))), ?_⟩
    obtain ⟨a, t, rfl, ha, rt, z4, k⟩ := h
    exact ⟨_, rfl, a, _, t, NF, rfl, ha, rt, z4, He.tupB_ok Y.x1 H, k⟩
theorem ok_ip (F : FnP K "is_plain" sIsPlain f fd) (Y : Fx w K mg) : FnOk P w K mg base CX0 6 f fd ["term"] (spBo K (noneOf NPl)) := by
  obtain ⟨d1, F1⟩ := Y.dHasNoneOf
  have b1 := FunD.bindsN (ps := ["term", "words"]) F1 fun _ _ _ _ _ _ us hl => match us, hl with | [_, _], _ => rfl
  have G1 : FnOk P w K mg base CX0 5 _ d1 ["term", "words"] (spHN K) := ok_hn F1 Y
  refine okD F scIP (fun vs H Q E h => ?_) (fun cdv A outer s H vs Q E hr h => ?_)
  · obtain ⟨a, t, rfl, _⟩ := h
    rfl
  · have nd := scIP.nd
    refine ⟨_, pss_one (ps_ret (pe_call G1 hr (by rfl) Y.gHasNoneOf F1.kp b1 .nil pass0 (pa_cons (pv 0) (pa_cons (pe_glob (v := .ref (He.ga K "_NOT_PLAIN")) (by rfl) Y.gNOTPLAIN rfl) pa_nil)))), ?_⟩
    obtain ⟨a, t, rfl, ha, rt, z4, k⟩ := h
    exact ⟨_, rfl, a, _, t, NPl, rfl, ha, rt, z4, He.tupB_ok Y.x3 H, k⟩
theorem ok_sz (F : FnP K "size" sSize f fd) (Y : Fx w K mg) : FnOk P w K mg base CX0 5 f fd ["term"] (spSz K) := by
  obtain ⟨d1, F1⟩ := Y.dPartsOf
  have b1 := FunD.bindsN (ps := ["term"]) F1 fun _ _ _ _ _ _ us hl => match us, hl with | [_], _ => rfl
  have G1 : FnOk P w K mg base CX0 4 _ d1 ["term"] (spPO K) := ok_po F1 Y
  refine okD F scSz (fun vs H Q E h => ?_) (fun cdv A outer s H vs Q E hr h => ?_)
  · obtain ⟨a, t, rfl, _⟩ := h
    rfl
  · have nd := scSz.nd
    refine ⟨_, pss_one (ps_ret (pe_callB call_len_seq (by rfl) Y.bLen PySem.boot_len (pa_cons (pe_call G1 hr (by rfl) Y.gPartsOf F1.kp b1 .nil pass0 (pa_cons (pv 0) pa_nil)) pa_nil))), ?_⟩
    obtain ⟨a, t, rfl, ha, rt, z4, k⟩ := h
    refine ⟨_, rfl, a, t, rfl, ha, rt, z4, fun L rs H1 s1 hL eL hP => ⟨L, _, rfl, .inl (SqL.of eL), ?_⟩⟩
    rw [List.length_map, hP.len, pre_len]
    exact k H1 s1
theorem ok_ik (F : FnP K "is_kept" sIsKept f fd) (Y : Fx w K mg) : FnOk P w K mg base CX0 7 f fd ["term"] (spBo K keptB) := by
  obtain ⟨d1, F1⟩ := Y.dPartsOf
  obtain ⟨d2, F2⟩ := Y.dIsFlat
  have b1 := FunD.bindsN (ps := ["term"]) F1 fun _ _ _ _ _ _ us hl => match us, hl with | [_], _ => rfl
  have b2 := FunD.bindsN (ps := ["term"]) F2 fun _ _ _ _ _ _ us hl => match us, hl with | [_], _ => rfl
  have G1 : FnOk P w K mg base CX0 4 _ d1 ["term"] (spPO K) := ok_po F1 Y
  have G2 : FnOk P w K mg base CX0 6 _ d2 ["term"] (spBo K (noneOf NF)) := ok_if F2 Y
  refine okD F scIK (fun vs H Q E h => ?_) (fun cdv A outer s H vs Q E hr h => ?_)
  · obtain ⟨a, t, rfl, _⟩ := h
    rfl
  · have nd := scIK.nd
    have hr1 : Room 4 _ := hr.mono (by decide)
    refine ⟨_, pss_one (ps_ret (pe_callB (cr_all rfl) (by rfl) Y.bAll (by decide +kernel) (pa_cons (pe_lc (own := [("_", 1), ("part", 2)]) (g := gTup K 2 (gCons (gName 1) (gCons (gName 2) gNil))) (tt := tTest (tOp rEq (tOp (rIxT K) (tVar 2) (tC (.int 0))) (tC (.str "rest"))))
      (te := tCall (spBo K (noneOf NF)) [] E0 (tCons (tOp (rIxT K) (tVar 2) (tC (.int 1))) tNil)) rfl nd
      (pi_list (pe_call G1 hr1 (by rfl) Y.gPartsOf F1.kp b1 .nil pass0 (pa_cons (pv 0) pa_nil))) (blkOk_by (N := NIK) (sc := defScope sIsKept) (by decide +kernel))
      (fun _ _ _ _ _ => pg_tup rfl (pgs_cons (pg_name (i := 1) nd rfl (Or.inl rfl)) (pgs_cons (pg_name (i := 2) nd rfl (Or.inl rfl)) pgs_nil))) (fun _ _ _ _ _ => pts_one (pt_cmpR op_eq (pe_ix ix_tup (pv 2) pe_int (fun _ _ => rfl)) pe_str (nomark _)))
      (fun _ _ _ _ _ => pe_call G2 hr (by rfl) Y.gIsFlat F2.kp b2 .nil pass0 (pa_cons (pe_ix ix_tup (pv 2) pe_int (fun _ _ => rfl)) pa_nil))) pa_nil))), ?_⟩
    obtain ⟨a, t, rfl, ha, rt, z4, k⟩ := h
    refine ⟨_, rfl, a, t, rfl, ha, rt, z4, fun L rs H1 s1 hL eL hP => ⟨L, rfl, ⟨_, SqL.of eL⟩, fun D hD => ?_⟩⟩
    refine lc_list (K := K) (a := L) (xs := rs.map V.ref) (fun i G => G D = some (.lst (((rk (t.pre.take i)).map (noneOf NF)).map V.bl)) ∧ (rk (t.pre.take i)).length ≤ i ∧ Same H1 G) ⟨upd_same, Nat.le_refl _, same_upd hD⟩ (fun i G _ p => p.2.2.seq (SqL.of eL)) ?_ ?_
    · rintro i v G hi ⟨e, ln, sm⟩
      obtain ⟨r, er, rfl⟩ := ref_at hi
      obtain ⟨u, eu, q, ua, xs, h1, h2, h3, h4⟩ := hP.get er
      obtain ⟨us, hv, _⟩ := (h4.same sm).view
      have li := (List.getElem?_eq_some_iff.mp eu).1
      rw [pre_len] at li
      have hu := List.mem_of_getElem? eu
      have hsu := sz_pre hu
      have hRu := rt.pre u hu
      refine ⟨r, _, rfl, sqt_same sm h1, rfl, _, _, rfl, _, _, rfl, rfl, rfl, ?_⟩
      refine ⟨_, rfl, ua, _, 0, _, rfl, rfl, hv, atI_0 _ _, rfl, _, rfl, ite2 (fun hc => ?_) (fun hc => ?_)⟩
      · have ew : u.hd = "rest" := by
          have z : V.str u.hd = V.str "rest" := of_decide_eq_true hc
          injection z
        obtain ⟨v, rfl, rv⟩ := hRu.rest ew
        obtain ⟨b, hb1, hb2⟩ := h4.same sm
        refine ⟨_, rfl, ua, _, 1, _, rfl, rfl, hb1, rfl, b, v, rfl, hb2, rv, (by have z : 1 + v.sz ≤ t.sz := hsu; omega), fun G2 s2 => ?_⟩
        refine ⟨_, s2 _ _ e, ?_, ?_, ?_, same_put hD (sm.trans s2)⟩
        · rw [List.length_map, List.length_map]
          exact small1000 (by omega)
        · rw [upd_same, rk_yes eu (decide_eq_true rfl), List.map_append, List.map_append]
          rfl
        · rw [rk_yes eu (decide_eq_true rfl), List.length_append]
          exact Nat.succ_le_succ ln
      · have z : isRest u = false := by
          refine Bool.eq_false_iff.mpr fun z => hc ?_
          have z2 : u.hd = "rest" := of_decide_eq_true z
          show decide (V.str u.hd = V.str "rest") = true
          rw [z2]
          exact decide_eq_true rfl
        refine ⟨?_, ?_, sm⟩
        · rw [rk_no eu z]
          exact e
        · rw [rk_no eu z]
          exact Nat.le_succ_of_le ln
    · rintro G ⟨e, _, sm⟩
      rw [List.length_map, hP.len, List.take_length] at e
      exact ⟨D, _, rfl, SqL.of e, k G (s1.trans sm)⟩
theorem ok_is (F : FnP K "is_short" sIsShort f fd) (Y : Fx w K mg) : FnOk P w K mg base CX0 8 f fd ["term"] (spBo K (fun t => keptB t && noneOf NSh t)) := by
  obtain ⟨d1, F1⟩ := Y.dHasNoneOf
  obtain ⟨d2, F2⟩ := Y.dIsKept
  have b1 := FunD.bindsN (ps := ["term", "words"]) F1 fun _ _ _ _ _ _ us hl => match us, hl with | [_, _], _ => rfl
  have b2 := FunD.bindsN (ps := ["term"]) F2 fun _ _ _ _ _ _ us hl => match us, hl with | [_], _ => rfl
  have G1 : FnOk P w K mg base CX0 5 _ d1 ["term", "words"] (spHN K) := ok_hn F1 Y
  have G2 : FnOk P w K mg base CX0 7 _ d2 ["term"] (spBo K keptB) := ok_ik F2 Y
  refine okD F scIS (fun vs H Q E h => ?_) (fun cdv A outer s H vs Q E hr h => ?_)
  · obtain ⟨a, t, rfl, _⟩ := h
    rfl
  · have nd := scIS.nd
    have hr1 : Room 5 _ := hr.mono (by decide)
    refine ⟨_, pss_one (ps_ret (pe_and (pe_call G2 hr (by rfl) Y.gIsKept F2.kp b2 .nil pass0 (pa_cons (pv 0) pa_nil)) (pe_one (pe_call G1 hr1 (by rfl) Y.gHasNoneOf F1.kp b1 .nil pass0 (pa_cons (pv 0) (pa_cons (pe_glob (v := .ref (He.ga K "_NOT_SHORT")) (by rfl) Y.gNOTSHORT rfl) pa_nil)))))), ?_⟩
    obtain ⟨a, t, rfl, ha, rt, z4, k⟩ := h
    refine ⟨_, rfl, a, t, rfl, ha, rt, z4, fun H1 s1 => ⟨_, rfl, ite2 (fun hc => ?_) (fun hc => ?_)⟩⟩
    · refine ⟨_, rfl, a, _, t, NSh, rfl, ha.same s1, rt, z4, He.tupB_ok Y.x2 H1, fun H2 s2 => ?_⟩
      have z : Q (.bl (keptB t && noneOf NSh t)) H2 := k H2 (s1.trans s2)
      rw [hc, Bool.true_and] at z
      exact z
    · have z : Q (.bl (keptB t && noneOf NSh t)) H1 := k H1 s1
      rw [Bool.eq_false_iff.mpr hc, Bool.false_and] at z
      exact z
end
end K25

namespace K25
open PySem PySem.Spec PyProof.Rows L2 Ow
/-! ### two fors in a comprehension -/
theorem lc2_it {J : It} {n : Nat} {G : Hp → Prop} {Y : Nat → Hp → V → Hp → Prop} (w : Walk J n G Y) {g g1 : TG} {tt tt1 : TT} {te : TE} {wi1 : TI} {vs vs1 : List Nat} {σ : L2.St} {H1 : Hp} {D : Addr} {Qd : Hp → Prop} (Pv : Nat → Hp → Prop) (h0 : Pv 0 (upd H1 D (.lst []))) (hG : ∀ i H, i ≤ n → Pv i H → G H)
    (hs : ∀ i x H H', i < n → Pv i H → Y i H x H' → g x (wipe σ vs) H' fun σ2 H2 => wipe σ2 vs = wipe σ vs ∧ tt σ2 H2 fun b H3 =>
      if b = true then wi1 σ2 H3 fun J1 H4 => ∃ W1 : Nat → Nat → Hp → Prop, (∃ m, W1 0 m H4) ∧ ∀ j k H, W1 j k H →
        (J1.stop j H ∧ Pv (i + 1) H) ∨ (J1.go j H ∧ ∃ Nx1 : Hp → Prop, (∀ H', Nx1 H' → ∃ k', k' < k ∧ W1 (j + 1) k' H') ∧ ∀ x H', J1.yld j H x H' → g1 x (wipe σ2 vs1) H' fun σ3 H5 => wipe σ3 vs1 = wipe σ2 vs1 ∧ tt1 σ3 H5 fun b H6 =>
          if b = true then te σ3 H6 fun y H7 => ∃ acc, H7 D = some (.lst acc) ∧ acc.length < sizeLine ∧ Nx1 (upd H7 D (.lst (acc ++ [y]))) else Nx1 H6)
      else Pv (i + 1) H3) (hd : ∀ H, Pv n H → Qd H) :
    ∃ W : Nat → Nat → Hp → Prop, (∃ m, W 0 m (upd H1 D (.lst []))) ∧ ∀ i m H, W i m H →
  (J.stop i H ∧ Qd H) ∨ (J.go i H ∧ ∃ Nx : Hp → Prop, (∀ H', Nx H' → ∃ m', m' < m ∧ W (i + 1) m' H') ∧ ∀ x H', J.yld i H x H' → g x (wipe σ vs) H' fun σ2 H2 => wipe σ2 vs = wipe σ vs ∧ tt σ2 H2 fun b H3 =>
    if b = true then wi1 σ2 H3 fun J1 H4 => ∃ W1 : Nat → Nat → Hp → Prop, (∃ m, W1 0 m H4) ∧ ∀ j k H, W1 j k H →
      (J1.stop j H ∧ Nx H) ∨ (J1.go j H ∧ ∃ Nx1 : Hp → Prop, (∀ H', Nx1 H' → ∃ k', k' < k ∧ W1 (j + 1) k' H') ∧ ∀ x H', J1.yld j H x H' → g1 x (wipe σ2 vs1) H' fun σ3 H5 => wipe σ3 vs1 = wipe σ2 vs1 ∧ tt1 σ3 H5 fun b H6 =>
        if b = true then te σ3 H6 fun y H7 => ∃ acc, H7 D = some (.lst acc) ∧ acc.length < sizeLine ∧ Nx1 (upd H7 D (.lst (acc ++ [y]))) else Nx1 H6)
    else Nx H3) := by
  refine ⟨fun i m H => m = n - i ∧ i ≤ n ∧ Pv i H, ⟨n, rfl, Nat.zero_le _, h0⟩, ?_⟩
  rintro i m H ⟨rfl, le, p⟩
  have q := hG i H le p
  by_cases lt : i < n
  · exact .inr ⟨w.goes i H lt q, Pv (i + 1), fun H' p' => ⟨n - (i + 1), by omega, rfl, lt, p'⟩, fun x H' y => hs i x H H' lt p (w.yields i H x H' lt q y)⟩
  · have e : i = n := by omega
    subst e
    exact .inl ⟨w.stops H q, hd H p⟩
theorem in_it {J : It} {n : Nat} {G : Hp → Prop} {Y : Nat → Hp → V → Hp → Prop} (w : Walk J n G Y) {g1 : TG} {tt1 : TT} {te : TE} {vs1 : List Nat} {σ2 : L2.St} {H4 : Hp} {D : Addr} {Qd : Hp → Prop} (Pv : Nat → Hp → Prop) (h0 : Pv 0 H4) (hG : ∀ i H, i ≤ n → Pv i H → G H)
    (hs : ∀ j x H H', j < n → Pv j H → Y j H x H' → g1 x (wipe σ2 vs1) H' fun σ3 H5 => wipe σ3 vs1 = wipe σ2 vs1 ∧ tt1 σ3 H5 fun b H6 =>
      if b = true then te σ3 H6 fun y H7 => ∃ acc, H7 D = some (.lst acc) ∧ acc.length < sizeLine ∧ Pv (j + 1) (upd H7 D (.lst (acc ++ [y]))) else Pv (j + 1) H6) (hd : ∀ H, Pv n H → Qd H) :
    ∃ W1 : Nat → Nat → Hp → Prop, (∃ m, W1 0 m H4) ∧ ∀ j k H, W1 j k H →
      (J.stop j H ∧ Qd H) ∨ (J.go j H ∧ ∃ Nx1 : Hp → Prop, (∀ H', Nx1 H' → ∃ k', k' < k ∧ W1 (j + 1) k' H') ∧ ∀ x H', J.yld j H x H' → g1 x (wipe σ2 vs1) H' fun σ3 H5 => wipe σ3 vs1 = wipe σ2 vs1 ∧ tt1 σ3 H5 fun b H6 =>
        if b = true then te σ3 H6 fun y H7 => ∃ acc, H7 D = some (.lst acc) ∧ acc.length < sizeLine ∧ Nx1 (upd H7 D (.lst (acc ++ [y]))) else Nx1 H6) := by
  refine ⟨fun i m H => m = n - i ∧ i ≤ n ∧ Pv i H, ⟨n, rfl, Nat.zero_le _, h0⟩, ?_⟩
  rintro i m H ⟨rfl, le, p⟩
  have q := hG i H le p
  by_cases lt : i < n
  · exact .inr ⟨w.goes i H lt q, Pv (i + 1), fun H' p' => ⟨n - (i + 1), by omega, rfl, lt, p'⟩, fun x H' y => hs i x H H' lt p (w.yields i H x H' lt q y)⟩
  · have e : i = n := by omega
    subst e
    exact .inl ⟨w.stops H q, hd H p⟩
/-! ### each once -/
/-- the first i, each once -/
def dd (xs : List Str) : Nat → List Str
  | 0 => []
  | i + 1 => match xs[i]? with
    | some x => if x ∈ xs.take i then dd xs i else dd xs i ++ [x]
    | none => dd xs i
theorem dd_len (xs : List Str) : ∀ i, (dd xs i).length ≤ i
  | 0 => Nat.le_refl _
  | i + 1 => by
    have h := dd_len xs i
    unfold dd
    split
    · split
      · omega
      · rw [List.length_append]; exact Nat.succ_le_succ h
    · omega
theorem dd_mem (xs : List Str) (x : Str) : ∀ i, x ∈ dd xs i ↔ x ∈ xs.take i
  | 0 => by simp [dd]
  | i + 1 => by
    have h := dd_mem xs x i
    unfold dd
    rw [List.take_add_one]
    cases e : xs[i]? with
    | none => simpa using h
    | some y =>
      dsimp only
      by_cases hy : y ∈ xs.take i
      · rw [if_pos hy, h]
        simp only [List.mem_append, Option.mem_toList, Option.mem_def]
        constructor
        · exact Or.inl
        · rintro (z | z)
          · exact z
          · rw [← Option.some.inj z]; exact hy
      · rw [if_neg hy, List.mem_append, List.mem_append, h]
        simp [eq_comm]
theorem dd_nodup (xs : List Str) : ∀ i, (dd xs i).Nodup
  | 0 => List.nodup_nil
  | i + 1 => by
    have h := dd_nodup xs i
    unfold dd
    split
    · rename_i x e
      split
      · exact h
      · rename_i hx
        refine List.nodup_append.mpr ⟨h, List.nodup_cons.mpr ⟨List.not_mem_nil, List.nodup_nil⟩, fun a ha b hb => ?_⟩
        rw [List.mem_singleton.mp hb]
        rintro rfl
        exact hx ((dd_mem xs _ i).mp ha)
    · exact h
def isLet (u : Tm) : Bool := decide (u.hd = "letter")
/-- the letters, part by part -/
def lets (l : List Tm) : List Str := (l.filter isLet).flatMap Tm.ss
theorem lets_yes {l : List Tm} {i : Nat} {u : Tm} (e : l[i]? = some u) (h : isLet u = true) : lets (l.take (i + 1)) = lets (l.take i) ++ u.ss := by
  unfold lets
  rw [List.take_add_one, e, List.filter_append, List.flatMap_append]
  simp [h]
theorem lets_no {l : List Tm} {i : Nat} {u : Tm} (e : l[i]? = some u) (h : isLet u = false) : lets (l.take (i + 1)) = lets (l.take i) := by
  unfold lets
  rw [List.take_add_one, e, List.filter_append, List.flatMap_append]
  simp [h]
theorem Rt.letter : ∀ {u : Tm}, Rt u → u.hd = "letter" → ∃ n, u = .leaf "letter" [n] ∧ Wd n
  | .leaf w ss, h, e => by
    rcases h with ⟨rfl, n, rfl, hn⟩ | ⟨rfl, _⟩ | ⟨rfl, _⟩ | ⟨rfl, _⟩ | ⟨rfl, _⟩
    · exact ⟨n, rfl, hn⟩
    · exact absurd (show ("same" : Str) = "letter" from e) (by decide +kernel)
    · exact absurd (show ("other" : Str) = "letter" from e) (by decide +kernel)
    · exact absurd (show ("none" : Str) = "letter" from e) (by decide +kernel)
    · exact absurd (show ("all" : Str) = "letter" from e) (by decide +kernel)
  | .one w v, h, e => by
    exfalso
    rcases h.1 with rfl | rfl | rfl | rfl
    · exact absurd (show ("rest" : Str) = "letter" from e) (by decide +kernel)
    · exact absurd (show ("turned" : Str) = "letter" from e) (by decide +kernel)
    · exact absurd (show ("closed" : Str) = "letter" from e) (by decide +kernel)
    · exact absurd (show ("walked" : Str) = "letter" from e) (by decide +kernel)
  | .two w s t, h, e => by
    exfalso
    rcases h.1 with rfl | rfl | rfl
    · exact absurd (show ("joined" : Str) = "letter" from e) (by decide +kernel)
    · exact absurd (show ("cut" : Str) = "letter" from e) (by decide +kernel)
    · exact absurd (show ("then" : Str) = "letter" from e) (by decide +kernel)
theorem Rt.srt2 : ∀ {u : Tm}, Rt u → u.srt.length ≤ 2 := fun {u} h => by
  rcases h.st with ⟨e, _, _⟩ | ⟨e, _⟩
  · rw [e]; have := h.pos.2.1; omega
  · rw [e]; exact Nat.zero_le _
abbrev NWD : List Str := ["values", "at", "value"]
theorem scWD : FnScope NWD ["values"] (defScope sWithoutDuplicates) := ⟨rfl, rfl, rfl, by decide +kernel, rfl, by decide +kernel, by decide +kernel⟩
def spWD (K : PySem.W.Frag) : Sp := fun vs H Q _ => ∃ (a : Addr) (xs : List Str), vs = [.ref a] ∧ SqL K H a (xs.map V.str) ∧ xs.length ≤ 900 ∧ ∀ (D : Addr) H', Same H H' → H D = none → H' D = some (.lst ((dd xs xs.length).map V.str)) → Q (.ref D) H'
abbrev NLI : List Str := ["term", "_", "part"]
theorem scLI : FnScope NLI ["term"] (defScope sLettersIn) := ⟨rfl, rfl, rfl, by decide +kernel, rfl, by decide +kernel, by decide +kernel⟩
abbrev NSI : List Str := ["term", "_", "part", "sort"]
theorem scSI : FnScope NSI ["term"] (defScope sSortsIn) := ⟨rfl, rfl, rfl, by decide +kernel, rfl, by decide +kernel, by decide +kernel⟩
/-- a def that tells a list of texts of a term -/
def spLs (K : PySem.W.Frag) (g : Tm → List Str) : Sp := fun vs H Q _ => ∃ (a : Addr) (t : Tm), vs = [.ref a] ∧ TmAt K H a t ∧ Rt t ∧ t.sz ≤ 400 ∧ ∀ (D : Addr) H', Same H H' → H D = none → H' D = some (.lst ((g t).map V.str)) → Q (.ref D) H'
def letB (t : Tm) : List Str := dd (lets t.pre) (lets t.pre).length
def srtB (t : Tm) : List Str := dd (t.pre.flatMap Tm.srt) (t.pre.flatMap Tm.srt).length
section
variable {P : Program} {w : World} {K : PySem.W.Frag} {mg : Str → Option Value} {base : Heap} {f : Addr} {fd : FuncData}
theorem ok_wd (F : FnP K "without_duplicates" sWithoutDuplicates f fd) (Y : Fx w K mg) : FnOk P w K mg base CX0 1 f fd ["values"] (spWD K) := by
  refine okD F scWD (fun vs H Q E h => ?_) (fun cdv A outer s H vs Q E hr h => ?_)
  · obtain ⟨a, xs, rfl, _⟩ := h
    rfl
  · have nd := scWD.nd
    refine ⟨_, pss_one (ps_ret (pe_lc (own := [("at", 1), ("value", 2)]) (g := gTup K 2 (gCons (gName 1) (gCons (gName 2) gNil))) (tt := tTest (tOp (rIn K true) (tVar 2) (tSl (rSlL K) (tVar 0) tNoPart (tPart (tVar 1))))) (te := tVar 2) rfl nd
      (pi_enumA (by rfl) Y.bEnumerate (pa_cons (pv 0) pa_nil)) (blkOk_by (N := NWD) (sc := defScope sWithoutDuplicates) (by decide +kernel))
      (fun _ _ _ _ _ => pg_tup rfl (pgs_cons (pg_name (i := 1) nd rfl (Or.inl rfl)) (pgs_cons (pg_name (i := 2) nd rfl (Or.inl rfl)) pgs_nil)))
      (fun _ _ _ _ _ => pts_one (pt_cmpR op_notIn_seq (pv 2) (pe_slice sl_list (pv 0) po_none (po_some (pv 1))) (by rfl))) (fun _ _ _ _ _ => pv 2))), ?_⟩
    obtain ⟨a, xs, rfl, ha, z9, k⟩ := h
    refine ⟨_, rfl, a, xs.map V.str, rfl, .inl ha, fun J GG wk gk D hD => lc_it wk (fun i G => G D = some (.lst ((dd xs i).map V.str)) ∧ Same H G) ⟨upd_same, same_upd hD⟩ (fun i G _ p => gk G p.2) ?_ ?_⟩
    · rintro i v G G' hi ⟨e, sm⟩ ⟨T, x, y, rfl, hT, rfl, ex, ey⟩
      cases ex
      obtain ⟨z, ez, rfl⟩ := str_at ey
      have sT := same_upd (o := .tup [V.int (i : Int), V.str z]) hT
      refine ⟨T, _, rfl, SqT.of upd_same, rfl, _, _, rfl, _, _, rfl, rfl, rfl, ?_⟩
      refine ⟨_, rfl, _, rfl, _, rfl, _, rfl, a, _, rfl, (sm.trans sT).seq ha, fun p hp => ?_⟩
      rw [cutV_take, ← List.map_take]
      have sp := same_upd (o := .lst ((xs.take i).map V.str)) hp
      have s9 := sT.trans sp
      refine ⟨p, _, rfl, .inl (SqL.of upd_same), rfl, fl_strs _, _, rfl, ?_⟩
      rw [if_pos rfl, inV_strs]
      have ln := dd_len xs i
      rw [List.length_map] at hi
      refine ite2 (fun hc => ?_) (fun hc => ?_)
      · refine ⟨_, rfl, _, s9 _ _ e, ?_, ?_, same_put hD (sm.trans s9)⟩
        · rw [List.length_map]
          exact small1000 (by omega)
        · have no : z ∉ xs.take i := by simpa using hc
          rw [upd_same, show dd xs (i + 1) = dd xs i ++ [z] by rw [dd, ez]; exact if_neg no, List.map_append]
          rfl
      · have yes : z ∈ xs.take i := by simpa using hc
        refine ⟨?_, sm.trans s9⟩
        rw [show dd xs (i + 1) = dd xs i by rw [dd, ez]; exact if_pos yes]
        exact s9 _ _ e
    · rintro G ⟨e, sm⟩
      rw [List.length_map] at e
      exact k D G sm hD e
end
end K25

namespace K25
open PySem PySem.Spec PyProof.Rows L2 Ow
theorem fm_take {l : List Tm} {i : Nat} {u : Tm} (g : Tm → List Str) (e : l[i]? = some u) : (l.take (i + 1)).flatMap g = (l.take i).flatMap g ++ g u := by
  rw [List.take_add_one, e, List.flatMap_append]
  simp
theorem fm_len (g : Tm → List Str) (n : Nat) : ∀ l : List Tm, (∀ u ∈ l, (g u).length ≤ n) → (l.flatMap g).length ≤ n * l.length
  | [], _ => Nat.zero_le _
  | u :: l, h => by
    have a := h u List.mem_cons_self
    have b := fm_len g n l fun v hv => h v (List.mem_cons_of_mem _ hv)
    rw [List.flatMap_cons, List.length_append, List.length_cons, Nat.mul_succ]
    omega
section
variable {P : Program} {w : World} {K : PySem.W.Frag} {mg : Str → Option Value} {base : Heap} {f : Addr} {fd : FuncData}
theorem ok_li (F : FnP K "letters_in" sLettersIn f fd) (Y : Fx w K mg) : FnOk P w K mg base CX0 5 f fd ["term"] (spLs K letB) := by
  obtain ⟨d1, F1⟩ := Y.dPartsOf
  obtain ⟨d2, F2⟩ := Y.dWithoutDuplicates
  have b1 := FunD.bindsN (ps := ["term"]) F1 fun _ _ _ _ _ _ us hl => match us, hl with | [_], _ => rfl
  have b2 := FunD.bindsN (ps := ["values"]) F2 fun _ _ _ _ _ _ us hl => match us, hl with | [_], _ => rfl
  have G1 : FnOk P w K mg base CX0 4 _ d1 ["term"] (spPO K) := ok_po F1 Y
  have G2 : FnOk P w K mg base CX0 1 _ d2 ["values"] (spWD K) := ok_wd F2 Y
  refine okD F scLI (fun vs H Q E h => ?_) (fun cdv A outer s H vs Q E hr h => ?_)
  · obtain ⟨a, t, rfl, _⟩ := h
    rfl
  · have nd := scLI.nd
    have hr2 : Room 1 _ := hr.mono (by decide)
    refine ⟨_, pss_one (ps_ret (pe_call G2 hr2 (by rfl) Y.gWithoutDuplicates F2.kp b2 .nil pass0 (pa_cons (pe_lc (own := [("_", 1), ("part", 2)]) (g := gTup K 2 (gCons (gName 1) (gCons (gName 2) gNil))) (tt := tTest (tOp rEq (tOp (rIxT K) (tVar 2) (tC (.int 0))) (tC (.str "letter"))))
      (te := tOp (rIxT K) (tVar 2) (tC (.int 1))) rfl nd
      (pi_list (pe_call G1 hr (by rfl) Y.gPartsOf F1.kp b1 .nil pass0 (pa_cons (pv 0) pa_nil))) (blkOk_by (N := NLI) (sc := defScope sLettersIn) (by decide +kernel))
      (fun _ _ _ _ _ => pg_tup rfl (pgs_cons (pg_name (i := 1) nd rfl (Or.inl rfl)) (pgs_cons (pg_name (i := 2) nd rfl (Or.inl rfl)) pgs_nil))) (fun _ _ _ _ _ => pts_one (pt_cmpR op_eq (pe_ix ix_tup (pv 2) pe_int (fun _ _ => rfl)) pe_str (nomark _)))
      (fun _ _ _ _ _ => pe_ix ix_tup (pv 2) pe_int (fun _ _ => rfl))) pa_nil))), ?_⟩
    obtain ⟨a, t, rfl, ha, rt, z4, k⟩ := h
    refine ⟨_, rfl, a, t, rfl, ha, rt, z4, fun L rs H1 s1 hL eL hP => ⟨L, rfl, ⟨_, SqL.of eL⟩, fun D hD => ?_⟩⟩
    refine lc_list (K := K) (a := L) (xs := rs.map V.ref) (fun i G => G D = some (.lst ((lets (t.pre.take i)).map V.str)) ∧ (lets (t.pre.take i)).length ≤ i ∧ Same H1 G) ⟨upd_same, Nat.le_refl _, same_upd hD⟩ (fun i G _ p => p.2.2.seq (SqL.of eL)) ?_ ?_
    · rintro i v G hi ⟨e, ln, sm⟩
      obtain ⟨r, er, rfl⟩ := ref_at hi
      obtain ⟨u, eu, q, ua, xs, h1, h2, h3, h4⟩ := hP.get er
      obtain ⟨us, hv, _⟩ := (h4.same sm).view
      have li := (List.getElem?_eq_some_iff.mp eu).1
      rw [pre_len] at li
      have hRu := rt.pre u (List.mem_of_getElem? eu)
      refine ⟨r, _, rfl, sqt_same sm h1, rfl, _, _, rfl, _, _, rfl, rfl, rfl, ?_⟩
      refine ⟨_, rfl, ua, _, 0, _, rfl, rfl, hv, atI_0 _ _, rfl, _, rfl, ite2 (fun hc => ?_) (fun hc => ?_)⟩
      · have ew : u.hd = "letter" := by
          have z : V.str u.hd = V.str "letter" := of_decide_eq_true hc
          injection z
        obtain ⟨n, rfl, _⟩ := hRu.letter ew
        refine ⟨_, rfl, ua, _, 1, _, rfl, rfl, h4.same sm, rfl, ?_⟩
        refine ⟨_, e, ?_, ?_, ?_, same_put hD sm⟩
        · rw [List.length_map]
          exact small1000 (by omega)
        · rw [upd_same, lets_yes eu (decide_eq_true rfl), List.map_append]
          rfl
        · rw [lets_yes eu (decide_eq_true rfl), List.length_append]
          exact Nat.succ_le_succ ln
      · have z : isLet u = false := by
          refine Bool.eq_false_iff.mpr fun z => hc ?_
          have z2 : u.hd = "letter" := of_decide_eq_true z
          show decide (V.str u.hd = V.str "letter") = true
          rw [z2]
          exact decide_eq_true rfl
        refine ⟨?_, ?_, sm⟩
        · rw [lets_no eu z]
          exact e
        · rw [lets_no eu z]
          exact Nat.le_succ_of_le ln
    · rintro G ⟨e, ln, sm⟩
      rw [List.length_map, hP.len, List.take_length] at e ln
      rw [pre_len] at ln
      have sG := s1.trans sm
      exact ⟨D, lets t.pre, rfl, SqL.of e, by omega, fun D2 G2 s2 hD2 e2 => k D2 G2 (sG.trans s2) (none_same sG hD2) e2⟩
theorem ok_si (F : FnP K "sorts_in" sSortsIn f fd) (Y : Fx w K mg) : FnOk P w K mg base CX0 5 f fd ["term"] (spLs K srtB) := by
  obtain ⟨d1, F1⟩ := Y.dPartsOf
  obtain ⟨d2, F2⟩ := Y.dWithoutDuplicates
  obtain ⟨d3, F3⟩ := Y.dSortsTold
  have b1 := FunD.bindsN (ps := ["term"]) F1 fun _ _ _ _ _ _ us hl => match us, hl with | [_], _ => rfl
  have b2 := FunD.bindsN (ps := ["values"]) F2 fun _ _ _ _ _ _ us hl => match us, hl with | [_], _ => rfl
  have b3 := FunD.bindsN (ps := ["part"]) F3 fun _ _ _ _ _ _ us hl => match us, hl with | [_], _ => rfl
  have G1 : FnOk P w K mg base CX0 4 _ d1 ["term"] (spPO K) := ok_po F1 Y
  have G2 : FnOk P w K mg base CX0 1 _ d2 ["values"] (spWD K) := ok_wd F2 Y
  have G3 : FnOk P w K mg base CX0 1 _ d3 ["part"] (spST K) := ok_st F3 Y
  refine okD F scSI (fun vs H Q E h => ?_) (fun cdv A outer s H vs Q E hr h => ?_)
  · obtain ⟨a, t, rfl, _⟩ := h
    rfl
  · have nd := scSI.nd
    have hr2 : Room 1 _ := hr.mono (by decide)
    refine ⟨_, pss_one (ps_ret (pe_call G2 hr2 (by rfl) Y.gWithoutDuplicates F2.kp b2 .nil pass0 (pa_cons (pe_lc2 (own := [("_", 1), ("part", 2), ("sort", 3)]) (vs1 := [3]) (g := gTup K 2 (gCons (gName 1) (gCons (gName 2) gNil))) (tt := tYes) (tt1 := tYes) (g1 := gName 3) (te := tVar 3)
      (wi1 := iTup K (tCall (spST K) [] E0 (tCons (tVar 2) tNil))) rfl nd
      (pi_list (pe_call G1 hr (by rfl) Y.gPartsOf F1.kp b1 .nil pass0 (pa_cons (pv 0) pa_nil))) (blkOk_by (N := NSI) (sc := defScope sSortsIn) (by decide +kernel)) (by decide)
      (fun _ _ _ _ _ => pg_tup rfl (pgs_cons (pg_name (i := 1) nd rfl (Or.inl rfl)) (pgs_cons (pg_name (i := 2) nd rfl (Or.inl rfl)) pgs_nil))) (fun _ _ _ _ _ => pts_nil)
      (fun _ _ _ _ _ => pi_tup (pe_call G3 hr2 (by rfl) Y.gSortsTold F3.kp b3 .nil pass0 (pa_cons (pv 2) pa_nil)))
      (fun _ _ _ _ _ => pg_name (i := 3) nd rfl (Or.inl rfl)) (fun _ _ _ _ _ => pts_nil) (fun _ _ _ _ _ => pv 3)) pa_nil))), ?_⟩
    obtain ⟨a, t, rfl, ha, rt, z4, k⟩ := h
    refine ⟨_, rfl, a, t, rfl, ha, rt, z4, fun L rs H1 s1 hL eL hP => ⟨L, rfl, ⟨_, SqL.of eL⟩, fun D hD => ?_⟩⟩
    have bd : ∀ i, ((t.pre.take i).flatMap Tm.srt).length ≤ 2 * i := fun i => by
      have z := fm_len Tm.srt 2 (t.pre.take i) fun u hu => (rt.pre u (List.mem_of_mem_take hu)).srt2
      rw [List.length_take] at z
      omega
    refine lc2_it (walk_list (K := K) (a := L) (xs := rs.map V.ref)) (fun i G => G D = some (.lst (((t.pre.take i).flatMap Tm.srt).map V.str)) ∧ Same H1 G) ⟨upd_same, same_upd hD⟩ (fun i G _ p => p.2.seq (SqL.of eL)) ?_ ?_
    · rintro i v G G' hi ⟨e, sm⟩ ⟨rfl, hv⟩
      obtain ⟨r, er, rfl⟩ := ref_at hv
      obtain ⟨u, eu, q, ua, xs, h1, h2, h3, h4⟩ := hP.get er
      have li := (List.getElem?_eq_some_iff.mp eu).1
      rw [pre_len] at li
      have hRu := rt.pre u (List.mem_of_getElem? eu)
      have bi := bd i
      have b2 := hRu.srt2
      refine ⟨r, _, rfl, sqt_same sm h1, rfl, _, _, rfl, _, _, rfl, rfl, rfl, ?_⟩
      refine ⟨_, rfl, ua, u, rfl, h4.same sm, hRu, fun p G2 s2 hp => ⟨p, rfl, ⟨_, SqT.of hp⟩, ?_⟩⟩
      refine in_it (walk_tup (K := K) (a := p) (xs := u.srt.map V.str)) (fun j G3 => G3 D = some (.lst (((t.pre.take i).flatMap Tm.srt ++ u.srt.take j).map V.str)) ∧ Same H1 G3 ∧ SqT K G3 p (u.srt.map V.str)) ⟨by rw [List.take_zero, List.append_nil]; exact s2 _ _ e, sm.trans s2, SqT.of hp⟩ (fun j G3 _ q => q.2.2) ?_ ?_
      · rintro j v G3 G4 hj ⟨e3, sm3, s3⟩ ⟨rfl, ev⟩
        obtain ⟨z, ez, rfl⟩ := str_at ev
        refine ⟨rfl, _, rfl, _, e3, ?_, ?_, same_put hD sm3, sqt_put e3 s3⟩
        · rw [List.length_map, List.length_append, List.length_take]
          exact small1000 (by omega)
        · rw [upd_same, List.take_add_one, ez, ← List.append_assoc, List.map_append (l₂ := (some z).toList)]
          rfl
      · rintro G3 ⟨e3, sm3, _⟩
        rw [List.length_map, List.take_length] at e3
        rw [fm_take Tm.srt eu]
        exact ⟨e3, sm3⟩
    · rintro G ⟨e, sm⟩
      rw [List.length_map, hP.len, List.take_length] at e
      have sG := s1.trans sm
      have z := bd t.pre.length
      rw [List.take_length, pre_len] at z
      exact ⟨D, t.pre.flatMap Tm.srt, rfl, SqL.of e, by omega, fun D2 G2 s2 hD2 e2 => k D2 G2 (sG.trans s2) (none_same sG hD2) e2⟩
end
end K25

namespace K25
open PySem PySem.Spec PyProof.Rows L2 Ow
/-! ### led terms -/
/-- a dict of texts -/
def sdV (m : List (Str × Str)) : List (Key × V) := m.map fun q => ((.inr q.1 : Key), V.str q.2)
def lk (m : List (Str × Str)) (x : Str) : Str := (m.lookup x).getD x
theorem valV_sd (x : Str) : ∀ m : List (Str × Str), valV (sdV m) (.inr x) = (m.lookup x).map V.str
  | [] => rfl
  | (k, v) :: m => by
    have ih := valV_sd x m
    unfold sdV at ih ⊢
    rw [List.map_cons]
    unfold valV at ih ⊢
    rw [List.find?_cons]
    by_cases h : k = x
    · subst h
      simp
    · have h1 : decide ((Sum.inr k : Key) = Sum.inr x) = false := decide_eq_false fun z => h (Sum.inr.inj z)
      have h2 : (x == k) = false := beq_eq_false_iff_ne.mpr fun z => h z.symm
      rw [List.lookup_cons, h2]
      dsimp only
      rw [h1]
      exact ih
def led (fl fs : Str → Str) : Tm → Tm
  | .leaf w ss => if w = "letter" then .leaf w (ss.map fl) else .leaf w (ss.map fs)
  | .one w t => .one w (led fl fs t)
  | .two w s t => .two w (led fl fs s) (led fl fs t)
abbrev NLd : List Str := ["term", "letters", "sorts", "told", "sort", "below", "part"]
theorem scLd : FnScope NLd ["term", "letters", "sorts"] (defScope sLedTerm) := ⟨rfl, rfl, rfl, by decide +kernel, rfl, by decide +kernel, by decide +kernel⟩
def spLd (K : PySem.W.Frag) (N : Nat) : Sp := fun vs H Q _ => ∃ (a dl ds : Addr) (t : Tm) (ml ms : List (Str × Str)), vs = [.ref a, .ref dl, .ref ds] ∧ TmAt K H a t ∧ Rt t ∧ t.sz ≤ N ∧ H dl = some (.dK (sdV ml)) ∧ H ds = some (.dK (sdV ms)) ∧
  ∀ (u : Addr) H', Same H H' → TmAt K H' u (led (lk ml) (lk ms) t) → Q (.ref u) H'
theorem Tm.sz_pos (t : Tm) : 1 ≤ t.sz := by cases t <;> simp only [Tm.sz] <;> omega
theorem kids_sz : ∀ {t u : Tm}, u ∈ t.kids → u.sz < t.sz
  | .leaf _ _, u, h => absurd h List.not_mem_nil
  | .one _ t, u, h => by rw [List.mem_singleton.mp h]; show t.sz < 1 + t.sz; omega
  | .two _ s t, u, h => by
    show u.sz < 1 + s.sz + t.sz
    rcases List.mem_cons.mp h with z | z
    · rw [z]; omega
    · rw [List.mem_singleton.mp z]; omega
/-- the tuple of a led term that is no letter -/
theorem led_at {K : PySem.W.Frag} {H : Hp} {fl fs : Str → Str} {t : Tm} {p : Addr} {us : List Addr} (rt : Rt t) (nl : t.hd ≠ "letter") (h : SqT K H p (.str t.hd :: ((t.srt.map fs).map V.str ++ us.map V.ref))) (k : Tms K H us (t.kids.map (led fl fs))) : TmAt K H p (led fl fs t) := by
  cases t with
  | leaf w ss =>
    have hw : w ≠ "letter" := nl
    have e1 : Tm.srt (.leaf w ss) = ss := if_neg hw
    have e2 : led fl fs (.leaf w ss) = .leaf w (ss.map fs) := if_neg hw
    rw [e2]
    cases k
    rw [e1, List.map_nil, List.append_nil] at h
    exact h
  | one w t =>
    cases k with
    | cons k1 k2 =>
      cases k2
      exact ⟨_, h, k1⟩
  | two w s t =>
    cases k with
    | cons k1 k2 =>
      cases k2 with
      | cons k2 k3 =>
        cases k3
        exact ⟨_, _, h, k1, k2⟩
theorem lk_getD (m : List (Str × Str)) (x : Str) : (Option.map V.str (List.lookup x m)).getD (V.str x) = V.str (lk m x) := by
  unfold lk
  cases List.lookup x m <;> rfl
theorem Tms.put {K : PySem.W.Frag} {H : Hp} {D : Addr} {l : List V} {o : HO} (e : H D = some (.lst l)) : ∀ {as : List Addr} {ts : List Tm}, Tms K H as ts → Tms K (upd H D o) as ts
  | _, _, .nil => .nil
  | _, _, .cons h g => .cons (h.put e) (g.put e)
section
variable {P : Program} {w : World} {K : PySem.W.Frag} {mg : Str → Option Value} {base : Heap} {f : Addr} {fd : FuncData}
theorem ld_step {N k : Nat} (F : FnP K "led_term" sLedTerm (He.ga K "led_term") fd) (Y : Fx w K mg) (G0 : FnOk P w K mg base CX0 k (He.ga K "led_term") fd ["term", "letters", "sorts"] (spLd K N)) (hk : 1 ≤ k) (hN : N ≤ 400) :
    FnOk P w K mg base CX0 (k + 1) (He.ga K "led_term") fd ["term", "letters", "sorts"] (spLd K (N + 1)) := by
  obtain ⟨d1, F1⟩ := Y.dSortsTold
  obtain ⟨d2, F2⟩ := Y.dPartsBelow
  have b0 := FunD.bindsN (ps := ["term", "letters", "sorts"]) F fun _ _ _ _ _ _ us hl => match us, hl with | [_, _, _], _ => rfl
  have b1 := FunD.bindsN (ps := ["part"]) F1 fun _ _ _ _ _ _ us hl => match us, hl with | [_], _ => rfl
  have b2 := FunD.bindsN (ps := ["term"]) F2 fun _ _ _ _ _ _ us hl => match us, hl with | [_], _ => rfl
  have G1 : FnOk P w K mg base CX0 1 _ d1 ["part"] (spST K) := ok_st F1 Y
  have G2 : FnOk P w K mg base CX0 1 _ d2 ["term"] (spPB K) := ok_pb F2 Y
  refine okD F scLd (fun vs H Q E h => ?_) (fun cdv A outer s H vs Q E hr h => ?_)
  · obtain ⟨a, dl, ds, t, ml, ms, rfl, _⟩ := h
    rfl
  · have nd := scLd.nd
    have hu := hu_of hr
    have hr1 : Room 1 _ := hr.mono hk
    refine ⟨_, pss_cons (ps_if (pt_cmpR op_eq (pe_ix ix_tup (pv 0) pe_int (fun _ _ => rfl)) pe_str (nomark _))
        (pss_one (ps_ret (pe_tup (pa_cons pe_str (pa_cons (pe_dget2 hu (pv 1) (pe_ix ix_tup (pv 0) pe_int (fun _ _ => rfl)) (pe_ix ix_tup (pv 0) pe_int (fun _ _ => rfl)) ⟨rfl, rfl, rfl, rfl⟩) pa_nil))))) pss_nil)
      (pss_cons (ps_setLc (i := 3) (own := [("sort", 4)]) (g := gName 4) (tt := tYes) (te := tDGet2 (tVar 2) (tVar 4) (tVar 4)) rfl nd rfl rfl (by rfl) (pi_tup (pe_call G1 hr1 (by rfl) Y.gSortsTold F1.kp b1 .nil pass0 (pa_cons (pv 0) pa_nil))) (blkOk_by (N := NLd) (sc := defScope sLedTerm) (by decide +kernel))
        (fun _ _ _ _ _ => pg_name (i := 4) nd rfl (Or.inl rfl)) (fun _ _ _ _ _ => pts_nil) (fun _ _ _ _ _ => pe_dget2 hu (pv 2) (pv 4) (pv 4) ⟨rfl, rfl, rfl, rfl⟩))
      (pss_cons (ps_setLc (i := 5) (own := [("part", 6)]) (g := gName 6) (tt := tYes) (te := tCall (spLd K N) [] E0 (tCons (tVar 6) (tCons (tVar 1) (tCons (tVar 2) tNil)))) rfl nd rfl rfl (by rfl) (pi_tup (pe_call G2 hr1 (by rfl) Y.gPartsBelow F2.kp b2 .nil pass0 (pa_cons (pv 0) pa_nil))) (blkOk_by (N := NLd) (sc := defScope sLedTerm) (by decide +kernel))
        (fun _ _ _ _ _ => pg_name (i := 6) nd rfl (Or.inl rfl)) (fun _ _ _ _ _ => pts_nil) (fun _ _ _ _ _ => pe_call G0 hr (by rfl) Y.gLedTerm F.kp b0 .nil pass0 (pa_cons (pv 6) (pa_cons (pv 1) (pa_cons (pv 2) pa_nil)))))
      (pss_one (ps_ret (pe_tup (pa_cons (pe_ix ix_tup (pv 0) pe_int (fun _ _ => rfl)) (StX.pa_star (pv 3) (StX.pa_star (pv 5) pa_nil)))))))), ?_⟩
    obtain ⟨a, dl, ds, t, ml, ms, rfl, ha, rt, zN, el, es, k⟩ := h
    obtain ⟨us, hv, hk2⟩ := ha.view
    refine ⟨_, rfl, a, _, 0, _, rfl, rfl, hv, atI_0 _ _, rfl, _, rfl, ite2 (fun hc => ?_) (fun hc => ?_)⟩
    · have ew : t.hd = "letter" := by
        have z : V.str t.hd = V.str "letter" := of_decide_eq_true hc
        injection z
      obtain ⟨n, rfl, _⟩ := rt.letter ew
      refine ⟨_, rfl, dl, rfl, .inl ⟨_, .inl el⟩, ?_⟩
      refine ⟨_, rfl, a, _, 1, _, rfl, rfl, ha, rfl, ?_⟩
      refine ⟨_, rfl, a, _, 1, _, rfl, rfl, ha, rfl, ?_⟩
      refine ⟨_, DGet.k (k := .inr n) el, szl (by show 2 ≤ 1000; decide), fun T hT => ?_⟩
      rw [valV_sd]
      refine k T _ (same_upd hT) ?_
      show SqT K _ T _
      rw [lk_getD]
      exact SqT.of upd_same
    · have nl : t.hd ≠ "letter" := fun z => hc (by rw [z]; exact decide_eq_true rfl)
      dsimp only [tNext]
      refine ⟨_, rfl, a, t, rfl, ha, rt, fun p H1 s1 hp => ⟨p, rfl, ⟨_, SqT.of hp⟩, fun D hD => ?_⟩⟩
      have ls := rt.srt2
      refine lc_it (walk_tup (K := K) (a := p) (xs := t.srt.map V.str)) (fun i G => G D = some (.lst (((t.srt.take i).map (lk ms)).map V.str)) ∧ Same H1 G) ⟨upd_same, same_upd hD⟩ (fun i G _ q => sqt_same q.2 (SqT.of hp)) ?_ ?_
      · rintro i v G G' hi ⟨e, sm⟩ ⟨rfl, hv2⟩
        obtain ⟨z, ez, rfl⟩ := str_at hv2
        have es2 := sm _ _ (s1 _ _ es)
        refine ⟨rfl, _, rfl, ds, rfl, .inl ⟨_, .inl es2⟩, _, rfl, _, rfl, _, DGet.k (k := .inr z) es2, ?_⟩
        rw [valV_sd, lk_getD]
        refine ⟨_, e, ?_, ?_, same_put hD sm⟩
        · rw [List.length_map, List.length_map, List.length_take]
          exact small1000 (by omega)
        · rw [upd_same, List.take_add_one, ez, List.map_append, List.map_append]
          rfl
      rintro G ⟨eD, smG⟩
      rw [List.length_map, List.take_length] at eD
      dsimp only [gName]
      replace smG := s1.trans smG
      have haG := ha.same smG
      refine ⟨_, rfl, a, t, rfl, haG, rt, fun p2 us2 H2 s2 hp2 hk3 => ⟨p2, rfl, ⟨_, SqT.of hp2⟩, fun D2 hD2 => ?_⟩⟩
      have lk3 := hk3.len
      have l2 := rt.pos.2.1
      refine lc_it (walk_tup (K := K) (a := p2) (xs := us2.map V.ref)) (fun i G3 => ∃ ws : List Addr, G3 D2 = some (.lst (ws.map V.ref)) ∧ Tms K G3 ws ((t.kids.take i).map (led (lk ml) (lk ms))) ∧ Same H2 G3) ⟨[], upd_same, .nil, same_upd hD2⟩ (fun i G3 _ ⟨_, _, _, q⟩ => sqt_same q (SqT.of hp2)) ?_ ?_
      · rintro i v G3 G4 hi ⟨ws, e, hT, sm⟩ ⟨rfl, hv2⟩
        obtain ⟨b, eb, rfl⟩ := ref_at hv2
        obtain ⟨kd, ek, hkd⟩ := hk3.get eb
        have hkm := List.mem_of_getElem? ek
        have zk := kids_sz hkm
        have sm3 := smG.trans (s2.trans sm)
        have lw := hT.len
        rw [List.length_map, List.length_take] at lw
        refine ⟨rfl, _, rfl, _, rfl, _, rfl, b, dl, ds, kd, ml, ms, rfl, hkd.same sm, rt.kids kd hkm, by omega, sm3 _ _ el, sm3 _ _ es, fun u G5 s5 hu5 => ?_⟩
        have e5 := s5 _ _ e
        refine ⟨_, e5, ?_, ws ++ [u], ?_, ?_, same_put hD2 (sm.trans s5)⟩
        · rw [List.length_map]
          exact small1000 (by omega)
        · rw [upd_same, List.map_append]
          rfl
        · rw [List.take_add_one, ek, List.map_append]
          exact ((hT.same s5).app (.cons hu5 .nil)).put e5
      rintro G3 ⟨ws, eD2, hT, sm3⟩
      rw [List.length_map, lk3, List.take_length] at hT
      dsimp only [gName]
      have sm4 := s2.trans sm3
      have smA := smG.trans sm4
      refine ⟨_, rfl, a, _, 0, _, rfl, rfl, sqt_same smA hv, atI_0 _ _, _, rfl, D, _, rfl, .inr (SqL.of (sm4 _ _ eD)), _, rfl, D2, _, rfl, .inr (SqL.of eD2), ?_, fun T hT2 => ?_⟩
      · have lw := hT.len
        rw [List.length_map] at lw
        refine szl ?_
        simp only [List.length_cons, List.length_append, List.length_map, List.length_nil]
        omega
      have sT := same_upd (o := .tup (V.str t.hd :: (((t.srt.map (lk ms)).map V.str) ++ (ws.map V.ref ++ [])))) hT2
      refine k T _ (smA.trans sT) (led_at rt nl ?_ (hT.same sT))
      exact SqT.of (upd_same.trans (by rw [List.append_nil]))
theorem ld_none {fd : FuncData} : FnOk P w K mg base CX0 1 (He.ga K "led_term") fd ["term", "letters", "sorts"] (spLd K 0) := by
  refine ⟨fun vs H Q E h => ?_, fun A outer s H args us vs Q E hr e0 bt r h => ?_⟩
  · obtain ⟨_, _, _, t, _, _, _, _, _, z, _⟩ := h
    have := t.sz_pos
    omega
  · obtain ⟨_, _, _, t, _, _, _, _, _, z, _⟩ := h
    have := t.sz_pos
    omega
theorem ok_ld (F : FnP K "led_term" sLedTerm (He.ga K "led_term") fd) (Y : Fx w K mg) : ∀ N, N ≤ 400 → FnOk P w K mg base CX0 (N + 1) (He.ga K "led_term") fd ["term", "letters", "sorts"] (spLd K N)
  | 0, _ => ld_none
  | N + 1, h => ld_step F Y (ok_ld F Y N (by omega)) (by omega) (by omega)
end
end K25

namespace K25
open PySem PySem.Spec PyProof.Rows L2 Ow
/-! ### terms as data -/
def dat : Tm → PyData
  | .leaf w ss => .tuple (.str w :: ss.map PyData.str)
  | .one w t => .tuple [.str w, dat t]
  | .two w s t => .tuple [.str w, dat s, dat t]
theorem dp_tm {K : PySem.W.Frag} {H : Hp} : ∀ {t : Tm} {a : Addr}, TmAt K H a t → Dp K H (.ref a) (dat t)
  | .leaf w ss, a, h => .tup h (.cons (.str w) (dpa_strs ss))
  | .one w t, a, ⟨b, h, g⟩ => .tup h (.cons (.str w) (.cons (dp_tm g) .nil))
  | .two w s t, a, ⟨b, c, h, g, g2⟩ => .tup h (.cons (.str w) (.cons (dp_tm g) (.cons (dp_tm g2) .nil)))
theorem dpa_tms {K : PySem.W.Frag} {H : Hp} : ∀ {as : List Addr} {ts : List Tm}, Tms K H as ts → DpAll K H (as.map V.ref) (ts.map dat)
  | _, _, .nil => .nil
  | _, _, .cons h g => .cons (dp_tm h) (dpa_tms g)
/-- what is asked of data that is compared or shown -/
structure Fine (d : PyData) (n : Nat) : Prop where
  lay : d.canLay0 = true
  dep : d.depth ≤ n
  sho : d.showable = true
  lv : d.leavesShort 13 = true
  wt : d.weight ≤ 40 * n
theorem str_lv {x : Str} (h : PyData.strOk x = true) : (PyData.str x).leavesShort 13 = true := by
  have e : ∀ c ∈ x.cps.toList, c < 0x110000 := fun c hc => by
    unfold PyData.strOk at h
    rw [Array.all_eq_true] at h
    obtain ⟨i, hi, e⟩ := List.getElem_of_mem hc
    have z := h i (by simpa using hi)
    rw [← e]
    simpa using z
  simp only [PyData.leavesShort, List.all_eq_true, decide_eq_true_eq]
  intro c hc
  have := e c hc
  omega
theorem Rt.hdWd : ∀ {t : Tm}, Rt t → Wd t.hd
  | .leaf w ss, h => by
    show Wd w
    rcases h with ⟨rfl, _⟩ | ⟨rfl, _⟩ | ⟨rfl, _⟩ | ⟨rfl, _⟩ | ⟨rfl, _⟩ <;> exact wd_of (by decide +kernel)
  | .one w t, h => by
    show Wd w
    rcases h.1 with rfl | rfl | rfl | rfl <;> exact wd_of (by decide +kernel)
  | .two w s t, h => by
    show Wd w
    rcases h.1 with rfl | rfl | rfl <;> exact wd_of (by decide +kernel)
theorem Rt.ssWd : ∀ {t : Tm}, Rt t → ∀ x ∈ t.ss, Wd x
  | .leaf w ss, h => by
    intro x hx
    rcases h with ⟨rfl, a, rfl, ha⟩ | ⟨rfl, a, rfl, ha⟩ | ⟨rfl, a, rfl, ha⟩ | ⟨rfl, a, b, rfl, ha, hb⟩ | ⟨rfl, a, b, rfl, ha, hb⟩
    · rw [List.mem_singleton.mp hx]; exact ha
    · rw [List.mem_singleton.mp hx]; exact ha
    · rw [List.mem_singleton.mp hx]; exact ha
    · rcases List.mem_cons.mp hx with z | z
      · rw [z]; exact ha
      · rw [List.mem_singleton.mp z]; exact hb
    · rcases List.mem_cons.mp hx with z | z
      · rw [z]; exact ha
      · rw [List.mem_singleton.mp z]; exact hb
  | .one w t, h => fun x hx => absurd hx List.not_mem_nil
  | .two w s t, h => fun x hx => absurd hx List.not_mem_nil
theorem fine_strs {xs : List Str} (h : ∀ x ∈ xs, Wd x) : PyData.canLayAll0 (xs.map PyData.str) = true ∧ PyData.depthAll (xs.map PyData.str) = 0 ∧ PyData.showableAll (xs.map PyData.str) = true ∧ PyData.leavesShortAll 13 (xs.map PyData.str) = true ∧ PyData.weightAll (xs.map PyData.str) ≤ 13 * xs.length := by
  induction xs with
  | nil => exact ⟨by simp [PyData.canLayAll0], by simp [PyData.depthAll], by simp [PyData.showableAll], by simp [PyData.leavesShortAll], by simp [PyData.weightAll]⟩
  | cons x xs ih =>
    obtain ⟨a, b, c, d, e⟩ := ih fun y hy => h y (List.mem_cons_of_mem _ hy)
    have hx := h x List.mem_cons_self
    have l := str_lv hx.lay
    have z : x.cps.size ≤ 12 := hx.hi
    refine ⟨?_, ?_, ?_, ?_, ?_⟩
    · simp [PyData.canLayAll0, PyData.canLay0, hx.lay, a]
    · simp [PyData.depthAll, PyData.depth, b]
    · simp [PyData.showableAll, PyData.showable, c]
    · rw [List.map_cons]
      simp only [PyData.leavesShortAll, Bool.and_eq_true]
      exact ⟨l, d⟩
    · rw [List.map_cons]
      simp only [PyData.weightAll, PyData.weight, List.length_cons]
      omega
theorem fine_tm : ∀ {t : Tm}, Rt t → Fine (dat t) t.sz
  | .leaf w ss, h => by
    have hw : Wd w := Rt.hdWd h
    have hs := Rt.ssWd h
    obtain ⟨a, b, c, d, e⟩ := fine_strs (xs := w :: ss) fun x hx => by
      rcases List.mem_cons.mp hx with z | z
      · rw [z]; exact hw
      · exact hs x z
    have l := (Rt.pos h).2.1
    have l2 : ss.length ≤ 2 := by
      have z : (Tm.leaf w ss).ss.length + (Tm.leaf w ss).kids.length ≤ 2 := l
      exact z
    rw [List.length_cons] at e
    refine ⟨?_, ?_, ?_, ?_, ?_⟩
    · simpa only [dat, PyData.canLay0, List.map_cons] using a
    · simp only [dat, PyData.depth]
      rw [show PyData.depthAll (PyData.str w :: List.map PyData.str ss) = 0 from b]
      exact Nat.le_refl _
    · simpa only [dat, PyData.showable, List.map_cons] using c
    · simpa only [dat, PyData.leavesShort, List.map_cons] using d
    · simp only [dat, PyData.weight]
      have z : PyData.weightAll (PyData.str w :: List.map PyData.str ss) ≤ 13 * (ss.length + 1) := e
      show _ ≤ 40 * 1
      omega
  | .one w t, h => by
    have hw : Wd w := Rt.hdWd h
    obtain ⟨a, b, c, d, e⟩ := fine_tm h.2
    have z : w.cps.size ≤ 12 := hw.hi
    refine ⟨?_, ?_, ?_, ?_, ?_⟩
    · simp [dat, PyData.canLay0, PyData.canLayAll0, hw.lay, a]
    · simp only [dat, PyData.depth, PyData.depthAll, Tm.sz]
      omega
    · simp [dat, PyData.showable, PyData.showableAll, c]
    · have l := str_lv hw.lay
      simp only [dat, PyData.leavesShort, PyData.leavesShortAll, Bool.and_eq_true] at l ⊢
      exact ⟨l, d, trivial⟩
    · simp only [dat, PyData.weight, PyData.weightAll, Tm.sz]
      omega
  | .two w s t, h => by
    have hw : Wd w := Rt.hdWd h
    obtain ⟨a, b, c, d, e⟩ := fine_tm h.2.1
    obtain ⟨a2, b2, c2, d2, e2⟩ := fine_tm h.2.2
    have z : w.cps.size ≤ 12 := hw.hi
    refine ⟨?_, ?_, ?_, ?_, ?_⟩
    · simp [dat, PyData.canLay0, PyData.canLayAll0, hw.lay, a, a2]
    · simp only [dat, PyData.depth, PyData.depthAll, Tm.sz]
      omega
    · simp [dat, PyData.showable, PyData.showableAll, c, c2]
    · have l := str_lv hw.lay
      simp only [dat, PyData.leavesShort, PyData.leavesShortAll, Bool.and_eq_true] at l ⊢
      exact ⟨l, d, d2, trivial⟩
    · simp only [dat, PyData.weight, PyData.weightAll, Tm.sz]
      omega
theorem Fine.shp {d : PyData} {n : Nat} (h : Fine d n) (l : n ≤ 64) : SeqAt.shaped d = true := shp_of h.lay (Nat.le_trans h.dep l)
theorem Fine.len {d : PyData} {n : Nat} (h : Fine d n) (l : n ≤ 400) : d.shown.length ≤ sizeLine := by
  have z := PyData.shown_le 13 (by decide) d h.lv
  have w := h.wt
  have e : sizeLine = 16777216 := by decide
  rw [e]
  omega
/-- two right terms compared -/
theorem ne_tm {K : PySem.W.Frag} {H : Hp} {a b : Addr} {t : Tm} {Q : VK} (rt : Rt t) (l : t.sz ≤ 64) (h1 : TmAt K H a t) (h2 : TmAt K H b t) (k : Q (.bl false) H) : rNeD K (.ref a) (.ref b) H Q :=
  ⟨dat t, dat t, dp_tm h1, dp_tm h2, (fine_tm rt).shp l, (fine_tm rt).shp l, by rw [SeqAt.eqv_refl _ (fine_tm rt).lay]; exact k⟩
/-- a list of right terms against [] -/
theorem lay_tms : ∀ {ts : List Tm}, (∀ t ∈ ts, Rt t) → PyData.canLayAll0 (ts.map dat) = true
  | [], _ => by simp [PyData.canLayAll0]
  | t :: ts, h => by simp [PyData.canLayAll0, (fine_tm (h t List.mem_cons_self)).lay, lay_tms fun u hu => h u (List.mem_cons_of_mem _ hu)]
theorem dep_tms {n : Nat} : ∀ {ts : List Tm}, (∀ t ∈ ts, Rt t ∧ t.sz ≤ n) → PyData.depthAll (ts.map dat) ≤ n
  | [], _ => by simp [PyData.depthAll]
  | t :: ts, h => by
    have a := (fine_tm (h t List.mem_cons_self).1).dep
    have b := (h t List.mem_cons_self).2
    have c := dep_tms fun u hu => h u (List.mem_cons_of_mem _ hu)
    simp only [List.map_cons, PyData.depthAll]
    omega
theorem shp_tms {n : Nat} {ts : List Tm} (h : ∀ t ∈ ts, Rt t ∧ t.sz ≤ n) (l : n ≤ 63) : SeqAt.shaped (.list (ts.map dat)) = true :=
  shp_of (by simpa [PyData.canLay0] using lay_tms fun t ht => (h t ht).1) (by
    have := dep_tms h
    simp only [PyData.depth]
    omega)
theorem cmp_nil {ts : List Tm} : PyData.eqv (.list (ts.map dat)) (.list []) = ts.isEmpty := by
  cases ts <;> simp [PyData.eqv, PyData.eqvAll]
theorem ne_tms {K : PySem.W.Frag} {H : Hp} {a b : Addr} {as : List Addr} {ts : List Tm} {n : Nat} {Q : VK} (h : ∀ t ∈ ts, Rt t ∧ t.sz ≤ n) (l : n ≤ 63) (h1 : SqL K H a (as.map V.ref)) (h2 : Tms K H as ts) (h3 : SqL K H b []) (k : Q (.bl (!ts.isEmpty)) H) : rNeD K (.ref a) (.ref b) H Q :=
  ⟨.list (ts.map dat), .list [], .lst h1 (dpa_tms h2), .lst h3 .nil, shp_tms h l, shp_nil, by rw [cmp_nil]; exact k⟩
theorem eq_tms {K : PySem.W.Frag} {H : Hp} {a b : Addr} {as : List Addr} {ts : List Tm} {n : Nat} {Q : VK} (h : ∀ t ∈ ts, Rt t ∧ t.sz ≤ n) (l : n ≤ 63) (h1 : SqL K H a (as.map V.ref)) (h2 : Tms K H as ts) (h3 : SqL K H b []) (k : Q (.bl ts.isEmpty) H) : rEqD K (.ref a) (.ref b) H Q :=
  ⟨.list (ts.map dat), .list [], .lst h1 (dpa_tms h2), .lst h3 .nil, shp_tms h l, shp_nil, by rw [cmp_nil]; exact k⟩
/-- two lists of words compared -/
theorem ne_ws {K : PySem.W.Frag} {H : Hp} {a b : Addr} {xs : List Str} {Q : VK} (hn : ∀ x ∈ xs, Wd x) (h1 : SqL K H a (xs.map V.str)) (h2 : SqL K H b (xs.map V.str)) (k : Q (.bl false) H) : rNeD K (.ref a) (.ref b) H Q := by
  have z := fine_strs hn
  have c : (PyData.list (xs.map PyData.str)).canLay0 = true := by simpa [PyData.canLay0] using z.1
  have s : SeqAt.shaped (.list (xs.map PyData.str)) = true := shp_of c (by simp only [PyData.depth, z.2.1]; omega)
  exact ⟨.list (xs.map PyData.str), .list (xs.map PyData.str), .lst h1 (dpa_strs xs), .lst h2 (dpa_strs xs), s, s, by rw [SeqAt.eqv_refl _ c]; exact k⟩
end K25

namespace K25
open PySem PySem.Spec PyProof.Rows L2 Ow
/-! ### the law's own looks at terms -/
abbrev LW : List Str := ["letter", "same", "other", "none", "all"]
abbrev LW4 : List Str := ["same", "other", "none", "all"]
theorem Rt.lw : ∀ {t : Tm}, Rt t → (t.hd ∈ LW ∧ t.kids = []) ∨ (t.hd ∉ LW ∧ t.ss = [])
  | .leaf w ss, h => by
    refine .inl ⟨?_, rfl⟩
    show w ∈ LW
    rcases h with ⟨rfl, _⟩ | ⟨rfl, _⟩ | ⟨rfl, _⟩ | ⟨rfl, _⟩ | ⟨rfl, _⟩ <;> decide +kernel
  | .one w t, h => by
    refine .inr ⟨?_, rfl⟩
    show w ∉ LW
    rcases h.1 with rfl | rfl | rfl | rfl <;> decide +kernel
  | .two w s t, h => by
    refine .inr ⟨?_, rfl⟩
    show w ∉ LW
    rcases h.1 with rfl | rfl | rfl <;> decide +kernel
theorem Rt.lw4 : ∀ {t : Tm}, Rt t → (t.hd ∈ LW4 ∧ t.srt = t.ss ∧ t.kids = [] ∧ t.hd ≠ "letter") ∨ (t.hd ∉ LW4 ∧ t.srt = [] ∧ (t.hd = "letter" ∨ t.ss = []))
  | .leaf w ss, h => by
    rcases h with ⟨rfl, _⟩ | ⟨rfl, _⟩ | ⟨rfl, _⟩ | ⟨rfl, _⟩ | ⟨rfl, _⟩
    · exact .inr ⟨show ("letter" : Str) ∉ LW4 by decide +kernel, rfl, .inl rfl⟩
    · exact .inl ⟨show ("same" : Str) ∈ LW4 by decide +kernel, rfl, rfl, show ("same" : Str) ≠ "letter" by decide +kernel⟩
    · exact .inl ⟨show ("other" : Str) ∈ LW4 by decide +kernel, rfl, rfl, show ("other" : Str) ≠ "letter" by decide +kernel⟩
    · exact .inl ⟨show ("none" : Str) ∈ LW4 by decide +kernel, rfl, rfl, show ("none" : Str) ≠ "letter" by decide +kernel⟩
    · exact .inl ⟨show ("all" : Str) ∈ LW4 by decide +kernel, rfl, rfl, show ("all" : Str) ≠ "letter" by decide +kernel⟩
  | .one w t, h => by
    refine .inr ⟨?_, rfl, .inr rfl⟩
    show w ∉ LW4
    rcases h.1 with rfl | rfl | rfl | rfl <;> decide +kernel
  | .two w s t, h => by
    refine .inr ⟨?_, rfl, .inr rfl⟩
    show w ∉ LW4
    rcases h.1 with rfl | rfl | rfl <;> decide +kernel
theorem cutV_tl (x : V) (xs : List V) : cutV (x :: xs) (some 1) none = xs := by
  have e1 : HT.sIx (x :: xs).length 0 (some 1) = 1 := by
    unfold HT.sIx
    simp
  unfold cutV
  rw [e1, HT.sIx_none]
  show (xs.take _) = xs
  rw [List.length_cons, Nat.add_sub_cancel, List.take_length]
theorem scLP : FnScope ["_law_term_here"] ["_law_term_here"] (defScope sLawParts) := ⟨rfl, rfl, rfl, by decide +kernel, rfl, by decide +kernel, by decide +kernel⟩
abbrev NLA : List Str := ["_law_term_here", "_law_found", "_law_piece"]
theorem scLA : FnScope NLA ["_law_term_here"] (defScope sLawAllParts) := ⟨rfl, rfl, rfl, by decide +kernel, rfl, by decide +kernel, by decide +kernel⟩
def spLA (K : PySem.W.Frag) (N : Nat) : Sp := fun vs H Q _ => ∃ (a : Addr) (t : Tm), vs = [.ref a] ∧ TmAt K H a t ∧ Rt t ∧ t.sz ≤ N ∧ ∀ (L : Addr) (us : List Addr) (H' : Hp), Same H H' → H L = none → H' L = some (.lst (us.map V.ref)) → Tms K H' us t.pre → Q (.ref L) H'
abbrev NLH : List Str := ["_law_term_here", "_law_words", "_law_part"]
theorem scLH : FnScope NLH ["_law_term_here", "_law_words"] (defScope sLawHas) := ⟨rfl, rfl, rfl, by decide +kernel, rfl, by decide +kernel, by decide +kernel⟩
def inB (ws : List Str) (u : Tm) : Bool := decide (u.hd ∈ ws)
def hasB (ws : List Str) (t : Tm) : Bool := !(t.pre.filter (inB ws)).isEmpty
def spLH (K : PySem.W.Frag) : Sp := fun vs H Q _ => ∃ (a w : Addr) (t : Tm) (ws : List Str), vs = [.ref a, .ref w] ∧ TmAt K H a t ∧ Rt t ∧ t.sz ≤ 60 ∧ SqL K H w (ws.map V.str) ∧ ∀ H', Same H H' → Q (.bl (hasB ws t)) H'
abbrev NLO : List Str := ["_law_names_here", "_law_found", "_law_name"]
theorem scLO : FnScope NLO ["_law_names_here"] (defScope sLawOnce) := ⟨rfl, rfl, rfl, by decide +kernel, rfl, by decide +kernel, by decide +kernel⟩
section
variable {P : Program} {w : World} {K : PySem.W.Frag} {mg : Str → Option Value} {base : Heap} {f : Addr} {fd : FuncData}
theorem ok_lp (F : FnP K "_law_parts" sLawParts f fd) (Y : Fx w K mg) : FnOk P w K mg base CX0 1 f fd ["_law_term_here"] (spPB K) := by
  refine okD F scLP (fun vs H Q E h => ?_) (fun cdv A outer s H vs Q E hr h => ?_)
  · obtain ⟨a, t, rfl, _⟩ := h
    rfl
  · have nd := scLP.nd
    refine ⟨_, pss_one (ps_ret (pe_ifExp (pt_cmpR op_in_seq (pe_ix ix_tup (pv 0) pe_int (fun _ _ => rfl)) (pe_lst (pa_cons pe_str (pa_cons pe_str (pa_cons pe_str (pa_cons pe_str (pa_cons pe_str pa_nil)))))) (by rfl)) (pe_tup pa_nil) (pe_slice sl_tupA (pv 0) (po_some pe_int) po_none))), ?_⟩
    obtain ⟨a, t, rfl, ha, rt, k⟩ := h
    obtain ⟨us, hv, hk⟩ := ha.view
    have lk := hk.len
    refine ⟨_, rfl, a, _, 0, _, rfl, rfl, hv, atI_0 _ _, szl (by show 5 ≤ 1000; decide), fun l0 hl0 => ?_⟩
    have s0 := same_upd (o := .lst (LW.map V.str)) hl0
    refine ⟨l0, _, rfl, .inl (SqL.of upd_same), rfl, fl_strs LW, _, rfl, ?_⟩
    rw [if_neg Bool.false_ne_true, show inV (V.str t.hd) [V.str "letter", V.str "same", V.str "other", V.str "none", V.str "all"] = decide (t.hd ∈ LW) from inV_strs t.hd LW]
    refine ite2 (fun hc => ?_) (fun hc => ?_)
    · have hm : t.hd ∈ LW := of_decide_eq_true hc
      have e : t.kids = [] := by
        rcases rt.lw with ⟨_, z⟩ | ⟨z, _⟩
        · exact z
        · exact absurd hm z
      refine ⟨szl (by show 0 ≤ 1000; decide), fun p hp => k p [] _ (s0.trans (same_upd hp)) upd_same ?_⟩
      rw [e]
      exact .nil
    · have hm : t.hd ∉ LW := fun z => hc (decide_eq_true z)
      have e : t.ss = [] := by
        rcases rt.lw with ⟨z, _⟩ | ⟨_, z⟩
        · exact absurd z hm
        · exact z
      refine ⟨_, rfl, _, rfl, a, _, rfl, sqt_same s0 hv, fun hh => absurd ⟨hh.1, trivial⟩ (sIx_1 _ _), fun _ p hp => ?_⟩
      rw [cutV_tl, e, List.map_nil, List.nil_append]
      exact k p us _ (s0.trans (same_upd hp)) upd_same (hk.same (s0.trans (same_upd hp)))
theorem la_step {N k : Nat} (F : FnP K "_law_all_parts" sLawAllParts (He.ga K "_law_all_parts") fd) (Y : Fx w K mg) (G0 : FnOk P w K mg base CX0 k (He.ga K "_law_all_parts") fd ["_law_term_here"] (spLA K N)) (hk : 1 ≤ k) (hN : N ≤ 400) :
    FnOk P w K mg base CX0 (k + 1) (He.ga K "_law_all_parts") fd ["_law_term_here"] (spLA K (N + 1)) := by
  obtain ⟨d1, F1⟩ := Y.dLawParts
  have b0 := FunD.bindsN (ps := ["_law_term_here"]) F fun _ _ _ _ _ _ us hl => match us, hl with | [_], _ => rfl
  have b1 := FunD.bindsN (ps := ["_law_term_here"]) F1 fun _ _ _ _ _ _ us hl => match us, hl with | [_], _ => rfl
  have G1 : FnOk P w K mg base CX0 1 _ d1 ["_law_term_here"] (spPB K) := ok_lp F1 Y
  refine okD F scLA (fun vs H Q E h => ?_) (fun cdv A outer s H vs Q E hr h => ?_)
  · obtain ⟨a, t, rfl, _⟩ := h
    rfl
  · have nd := scLA.nd
    have hr1 : Room 1 _ := hr.mono hk
    refine ⟨_, pss_cons (ps_set (i := 1) nd rfl (Or.inl rfl) (pe_lst (pa_cons (pv 0) pa_nil)))
      (pss_cons (ps_for PassesOwn.never rfl (pi_tup (pe_call G1 hr1 (by rfl) Y.gLawParts F1.kp b1 .nil pass0 (pa_cons (pv 0) pa_nil))) (pg_name (i := 2) nd rfl (Or.inl rfl))
        (pss_one (ps_set (i := 1) nd rfl (Or.inl rfl) (pe_op op_cat (pv 1) (pe_call G0 hr (by rfl) Y.gLawAllParts F.kp b0 .nil pass0 (pa_cons (pv 2) pa_nil))))))
      (pss_one (ps_ret (pv 1)))), ?_⟩
    obtain ⟨a, t, rfl, ha, rt, zN, k⟩ := h
    refine ⟨_, rfl, szl (by show 1 ≤ 1000; decide), fun D0 hD0 => ?_⟩
    have s0 := same_upd (o := .lst [V.ref a]) hD0
    have e0 := (upd_same : upd H D0 (.lst [V.ref a]) D0 = _)
    have ha0 := ha.same s0
    dsimp only [gName]
    refine ⟨_, rfl, a, t, rfl, ha0, rt, fun p us H1 s1 hp hk => ⟨p, rfl, ⟨_, SqT.of hp⟩, ?_⟩⟩
    have lk := hk.len
    have tot : (t.kids.flatMap Tm.pre).length + 1 = t.sz := by rw [← pre_len, pre_kids t, List.length_cons]
    refine for_it (walk_tup (K := K) (a := p) (xs := us.map V.ref)) (fun i σ G => ∃ (D : Addr) (ws : List Addr) (v2 : Option V), σ = [some (.ref a), some (.ref D), v2] ∧ H D = none ∧ G D = some (.lst (ws.map V.ref)) ∧ Tms K G ws (t :: (t.kids.take i).flatMap Tm.pre) ∧ Same H1 G)
      ⟨D0, [a], none, rfl, hD0, s1 _ _ e0, .cons (ha0.same s1) .nil, Same.refl _⟩ (fun i σ G _ ⟨_, _, _, _, _, _, _, q⟩ => sqt_same q (SqT.of hp)) ?_ ?_
    · rintro i v σ G G' hi ⟨D, ws, v2, rfl, hD, eD, hT, sm⟩ ⟨rfl, hv2⟩
      obtain ⟨b, eb, rfl⟩ := ref_at hv2
      obtain ⟨kd, ek, hkd⟩ := hk.get eb
      have hkm := List.mem_of_getElem? ek
      have zk := kids_sz hkm
      refine ⟨_, rfl, _, rfl, b, kd, rfl, hkd.same sm, rt.kids kd hkm, by omega, fun L us2 G2 s2 hL2 eL2 hT2 => ?_⟩
      have l1 := hT.len
      have l2 := hT2.len
      have pl : (t.kids.take (i + 1)).flatMap Tm.pre = (t.kids.take i).flatMap Tm.pre ++ kd.pre := by
        rw [List.take_add_one, ek, List.flatMap_append]
        simp
      have tl : ((t.kids.take (i + 1)).flatMap Tm.pre).length ≤ (t.kids.flatMap Tm.pre).length := by
        conv => rhs; rw [← List.take_append_drop (i + 1) t.kids]
        rw [List.flatMap_append, List.length_append]
        exact Nat.le_add_right _ _
      rw [pl, List.length_append] at tl
      rw [List.length_cons] at l1
      refine ⟨D, L, _, _, rfl, rfl, s2 _ _ eD, eL2, szl (by rw [List.length_map, List.length_map]; omega), fun D3 hD3 => ?_⟩
      have s3 := same_upd (o := .lst (ws.map V.ref ++ us2.map V.ref)) hD3
      have smA := sm.trans (s2.trans s3)
      refine ⟨D3, ws ++ us2, _, rfl, none_same (s0.trans (s1.trans (sm.trans s2))) hD3, by rw [upd_same, List.map_append], ?_, smA⟩
      rw [pl]
      exact (hT.same (s2.trans s3)).app (hT2.same s3)
    · rintro σ G ⟨D, ws, v2, rfl, hD, eD, hT, sm⟩
      rw [List.length_map, lk, List.take_length, ← pre_kids] at hT
      exact ⟨_, rfl, k D ws G (s0.trans (s1.trans sm)) hD eD hT⟩
theorem la_none {fd : FuncData} : FnOk P w K mg base CX0 1 (He.ga K "_law_all_parts") fd ["_law_term_here"] (spLA K 0) := by
  refine ⟨fun vs H Q E h => ?_, fun A outer s H args us vs Q E hr e0 bt r h => ?_⟩
  · obtain ⟨_, t, _, _, _, z, _⟩ := h
    have := t.sz_pos
    omega
  · obtain ⟨_, t, _, _, _, z, _⟩ := h
    have := t.sz_pos
    omega
theorem ok_la (F : FnP K "_law_all_parts" sLawAllParts (He.ga K "_law_all_parts") fd) (Y : Fx w K mg) : ∀ N, N ≤ 400 → FnOk P w K mg base CX0 (N + 1) (He.ga K "_law_all_parts") fd ["_law_term_here"] (spLA K N)
  | 0, _ => la_none
  | N + 1, h => la_step F Y (ok_la F Y N (by omega)) (by omega) (by omega)
end
end K25

namespace K25
open PySem PySem.Spec PyProof.Rows L2 Ow
def inF (ws : List Str) (l : List Tm) : List Tm := l.filter (inB ws)
theorem inF_yes {ws : List Str} {l : List Tm} {i : Nat} {u : Tm} (e : l[i]? = some u) (h : inB ws u = true) : inF ws (l.take (i + 1)) = inF ws (l.take i) ++ [u] := by
  unfold inF
  rw [List.take_add_one, e, List.filter_append]
  simp [h]
theorem inF_no {ws : List Str} {l : List Tm} {i : Nat} {u : Tm} (e : l[i]? = some u) (h : inB ws u = false) : inF ws (l.take (i + 1)) = inF ws (l.take i) := by
  unfold inF
  rw [List.take_add_one, e, List.filter_append]
  simp [h]
abbrev NLL : List Str := ["_law_term_here", "_law_letters", "_law_sorts", "_law_sort", "_law_piece"]
theorem scLL : FnScope NLL ["_law_term_here", "_law_letters", "_law_sorts"] (defScope sLawLed) := ⟨rfl, rfl, rfl, by decide +kernel, rfl, by decide +kernel, by decide +kernel⟩
section
variable {P : Program} {w : World} {K : PySem.W.Frag} {mg : Str → Option Value} {base : Heap} {f : Addr} {fd : FuncData}
theorem ok_lh (F : FnP K "_law_has" sLawHas f fd) (Y : Fx w K mg) : FnOk P w K mg base CX0 62 f fd ["_law_term_here", "_law_words"] (spLH K) := by
  obtain ⟨d1, F1⟩ := Y.dLawAllParts
  have b1 := FunD.bindsN (ps := ["_law_term_here"]) F1 fun _ _ _ _ _ _ us hl => match us, hl with | [_], _ => rfl
  have G1 : FnOk P w K mg base CX0 61 _ d1 ["_law_term_here"] (spLA K 60) := ok_la F1 Y 60 (by decide)
  refine okD F scLH (fun vs H Q E h => ?_) (fun cdv A outer s H vs Q E hr h => ?_)
  · obtain ⟨a, w, t, ws, rfl, _⟩ := h
    rfl
  · have nd := scLH.nd
    have hu64 := hu64_of hr
    refine ⟨_, pss_one (ps_ret (pe_cmpR (op_neD hu64) (pe_lc (own := [("_law_part", 2)]) (g := gName 2) (tt := tTest (tOp (rIn K false) (tOp (rIxT K) (tVar 2) (tC (.int 0))) (tVar 1))) (te := tVar 2) rfl nd
      (pi_list (pe_call G1 hr (by rfl) Y.gLawAllParts F1.kp b1 .nil pass0 (pa_cons (pv 0) pa_nil))) (blkOk_by (N := NLH) (sc := defScope sLawHas) (by decide +kernel))
      (fun _ _ _ _ _ => pg_name (i := 2) nd rfl (Or.inl rfl)) (fun _ _ _ _ _ => pts_one (pt_cmpR op_in_seq (pe_ix ix_tup (pv 2) pe_int (fun _ _ => rfl)) (pv 1) (by rfl))) (fun _ _ _ _ _ => pv 2)) (pe_lst pa_nil) (nomark _))), ?_⟩
    obtain ⟨a, wa, t, ws, rfl, ha, rt, zN, hw, k⟩ := h
    refine ⟨_, rfl, a, t, rfl, ha, rt, zN, fun L us H1 s1 hL eL hT => ⟨L, rfl, ⟨_, SqL.of eL⟩, fun D hD => ?_⟩⟩
    refine lc_list (K := K) (a := L) (xs := us.map V.ref) (fun i G => ∃ vs : List Addr, G D = some (.lst (vs.map V.ref)) ∧ Tms K G vs (inF ws (t.pre.take i)) ∧ vs.length ≤ i ∧ Same H1 G) ⟨[], upd_same, .nil, Nat.le_refl _, same_upd hD⟩ (fun i G _ ⟨_, _, _, _, q⟩ => q.seq (SqL.of eL)) ?_ ?_
    · rintro i v G hi ⟨vs, e, hV, lv, sm⟩
      obtain ⟨r, er, rfl⟩ := ref_at hi
      obtain ⟨u, eu, hu⟩ := hT.get er
      have hu2 := hu.same sm
      obtain ⟨us2, hv, _⟩ := hu2.view
      have li := (List.getElem?_eq_some_iff.mp eu).1
      rw [pre_len] at li
      refine ⟨rfl, ?_⟩
      refine ⟨_, rfl, r, _, 0, _, rfl, rfl, hv, atI_0 _ _, _, rfl, wa, _, rfl, .inl ((s1.trans sm).seq hw), rfl, fl_strs ws, _, rfl, ?_⟩
      rw [if_neg Bool.false_ne_true, inV_strs]
      refine ite2 (fun hc => ?_) (fun hc => ?_)
      · refine ⟨_, rfl, _, e, ?_, vs ++ [r], ?_, ?_, ?_, same_put hD sm⟩
        · rw [List.length_map]
          exact small1000 (by omega)
        · rw [upd_same, List.map_append]
          rfl
        · rw [inF_yes eu hc]
          exact (hV.app (.cons hu2 .nil)).put e
        · rw [List.length_append]
          exact Nat.succ_le_succ lv
      · refine ⟨vs, e, ?_, Nat.le_succ_of_le lv, sm⟩
        rw [inF_no eu (Bool.eq_false_iff.mpr hc)]
        exact hV
    · rintro G ⟨vs, e, hV, _, sm⟩
      rw [List.length_map, hT.len, List.take_length] at hV
      refine ⟨szl (by show 0 ≤ 1000; decide), fun p hp => ?_⟩
      have sp := same_upd (o := .lst []) hp
      exact ne_tms (n := 60) (fun u hu => by
        have hm : u ∈ t.pre := (List.mem_filter.mp hu).1
        exact ⟨rt.pre u hm, Nat.le_trans (sz_pre hm) zN⟩) (by decide) (SqL.of (sp _ _ e)) (hV.same sp) (SqL.of upd_same) (k _ (s1.trans (sm.trans sp)))
theorem ok_lo (F : FnP K "_law_once" sLawOnce f fd) (Y : Fx w K mg) : FnOk P w K mg base CX0 1 f fd ["_law_names_here"] (spWD K) := by
  refine okD F scLO (fun vs H Q E h => ?_) (fun cdv A outer s H vs Q E hr h => ?_)
  · obtain ⟨a, xs, rfl, _⟩ := h
    rfl
  · have nd := scLO.nd
    refine ⟨_, pss_cons (ps_set (i := 1) nd rfl (Or.inl rfl) (pe_lst pa_nil))
      (pss_cons (ps_for PassesOwn.never rfl (pi_list (pv 0)) (pg_name (i := 2) nd rfl (Or.inl rfl))
        (pss_one (ps_if (pt_cmpR op_notIn_seq (pv 2) (pv 1) (by rfl)) (pss_one (ps_expr (pe_bm PySem.F.plainAttrs_list PySem.F.slot_list_append PySem.F.type_list_append mt_append (pv 1) (pa_cons (pv 2) pa_nil)))) pss_nil)))
      (pss_one (ps_ret (pv 1)))), ?_⟩
    obtain ⟨a, xs, rfl, ha, z9, k⟩ := h
    refine ⟨szl (by show 0 ≤ 1000; decide), fun D hD => ?_⟩
    dsimp only [gName]
    refine ⟨_, rfl, a, rfl, ⟨_, (same_upd hD).seq ha⟩, for_list (K := K) (a := a) (xs := xs.map V.str) (fun i σ G => (∃ v2, σ = [some (.ref a), some (.ref D), v2]) ∧ G D = some (.lst ((dd xs i).map V.str)) ∧ Same H G) ⟨⟨_, rfl⟩, upd_same, same_upd hD⟩ (fun i σ G _ p => p.2.2.seq ha) ?_ ?_⟩
    · rintro i v σ G hi ⟨⟨v2, rfl⟩, e, sm⟩
      obtain ⟨z, ez, rfl⟩ := str_at hi
      have li := (List.getElem?_eq_some_iff.mp ez).1
      have ln := dd_len xs i
      refine ⟨_, rfl, _, rfl, D, _, rfl, .inl (SqL.of e), rfl, fl_strs _, _, rfl, ?_⟩
      rw [if_pos rfl, inV_strs]
      refine ite2 (fun hc => ?_) (fun hc => ?_)
      · have no : z ∉ dd xs i := by simpa using hc
        have no2 : z ∉ xs.take i := fun q => no ((dd_mem xs z i).mpr q)
        refine ⟨_, rfl, .inl ⟨rfl, _, SqL.of e⟩, _, rfl, D, _, _, rfl, rfl, e, ?_, ⟨_, rfl⟩, ?_, same_put hD sm⟩
        · rw [List.length_map]
          exact small1000 (by omega)
        · rw [upd_same, show dd xs (i + 1) = dd xs i ++ [z] by rw [dd, ez]; exact if_neg no2, List.map_append]
          rfl
      · have yes : z ∈ dd xs i := by simpa using hc
        have yes2 : z ∈ xs.take i := (dd_mem xs z i).mp yes
        refine ⟨⟨_, rfl⟩, ?_, sm⟩
        rw [show dd xs (i + 1) = dd xs i by rw [dd, ez]; exact if_pos yes2]
        exact e
    · rintro σ G ⟨⟨v2, rfl⟩, e, sm⟩
      rw [List.length_map] at e
      exact ⟨_, rfl, k D G sm hD e⟩
theorem ll_step {N k : Nat} (F : FnP K "_law_led" sLawLed (He.ga K "_law_led") fd) (Y : Fx w K mg) (G0 : FnOk P w K mg base CX0 k (He.ga K "_law_led") fd ["_law_term_here", "_law_letters", "_law_sorts"] (spLd K N)) (hN : N ≤ 400) :
    FnOk P w K mg base CX0 (k + 1) (He.ga K "_law_led") fd ["_law_term_here", "_law_letters", "_law_sorts"] (spLd K (N + 1)) := by
  have b0 := FunD.bindsN (ps := ["_law_term_here", "_law_letters", "_law_sorts"]) F fun _ _ _ _ _ _ us hl => match us, hl with | [_, _, _], _ => rfl
  refine okD F scLL (fun vs H Q E h => ?_) (fun cdv A outer s H vs Q E hr h => ?_)
  · obtain ⟨a, dl, ds, t, ml, ms, rfl, _⟩ := h
    rfl
  · have nd := scLL.nd
    have hu := hu_of hr
    refine ⟨_, pss_cons (ps_if (pt_cmpR op_eq (pe_ix ix_tup (pv 0) pe_int (fun _ _ => rfl)) pe_str (nomark _))
        (pss_one (ps_ret (pe_tup (pa_cons pe_str (pa_cons (pe_dget2 hu (pv 1) (pe_ix ix_tup (pv 0) pe_int (fun _ _ => rfl)) (pe_ix ix_tup (pv 0) pe_int (fun _ _ => rfl)) ⟨rfl, rfl, rfl, rfl⟩) pa_nil))))) pss_nil)
      (pss_cons (ps_if (pt_cmpR op_in_seq (pe_ix ix_tup (pv 0) pe_int (fun _ _ => rfl)) (pe_lst (pa_cons pe_str (pa_cons pe_str (pa_cons pe_str (pa_cons pe_str pa_nil))))) (by rfl))
        (pss_one (ps_ret (pe_op op_catT (pe_tup (pa_cons (pe_ix ix_tup (pv 0) pe_int (fun _ _ => rfl)) pa_nil)) (pe_callTy call_tuple_of (by rfl) Y.bTuple (by decide +kernel) (pa_cons
          (pe_lc (own := [("_law_sort", 3)]) (g := gName 3) (tt := tYes) (te := tDGet2 (tVar 2) (tVar 3) (tVar 3)) rfl nd (pi_tup (pe_slice sl_tupA (pv 0) (po_some pe_int) po_none)) (blkOk_by (N := NLL) (sc := defScope sLawLed) (by decide +kernel))
            (fun _ _ _ _ _ => pg_name (i := 3) nd rfl (Or.inl rfl)) (fun _ _ _ _ _ => pts_nil) (fun _ _ _ _ _ => pe_dget2 hu (pv 2) (pv 3) (pv 3) ⟨rfl, rfl, rfl, rfl⟩)) pa_nil))))) pss_nil)
      (pss_one (ps_ret (pe_op op_catT (pe_tup (pa_cons (pe_ix ix_tup (pv 0) pe_int (fun _ _ => rfl)) pa_nil)) (pe_callTy call_tuple_of (by rfl) Y.bTuple (by decide +kernel) (pa_cons
          (pe_lc (own := [("_law_piece", 4)]) (g := gName 4) (tt := tYes) (te := tCall (spLd K N) [] E0 (tCons (tVar 4) (tCons (tVar 1) (tCons (tVar 2) tNil)))) rfl nd (pi_tup (pe_slice sl_tupA (pv 0) (po_some pe_int) po_none)) (blkOk_by (N := NLL) (sc := defScope sLawLed) (by decide +kernel))
            (fun _ _ _ _ _ => pg_name (i := 4) nd rfl (Or.inl rfl)) (fun _ _ _ _ _ => pts_nil) (fun _ _ _ _ _ => pe_call G0 hr (by rfl) Y.gLawLed F.kp b0 .nil pass0 (pa_cons (pv 4) (pa_cons (pv 1) (pa_cons (pv 2) pa_nil))))) pa_nil)))))), ?_⟩
    obtain ⟨a, dl, ds, t, ml, ms, rfl, ha, rt, zN, el, es, k⟩ := h
    obtain ⟨us, hv, hk2⟩ := ha.view
    refine ⟨_, rfl, a, _, 0, _, rfl, rfl, hv, atI_0 _ _, rfl, _, rfl, ite2 (fun hc => ?_) (fun hc => ?_)⟩
    · have ew : t.hd = "letter" := by
        have z : V.str t.hd = V.str "letter" := of_decide_eq_true hc
        injection z
      obtain ⟨n, rfl, _⟩ := rt.letter ew
      refine ⟨_, rfl, dl, rfl, .inl ⟨_, .inl el⟩, ?_⟩
      refine ⟨_, rfl, a, _, 1, _, rfl, rfl, ha, rfl, ?_⟩
      refine ⟨_, rfl, a, _, 1, _, rfl, rfl, ha, rfl, ?_⟩
      refine ⟨_, DGet.k (k := .inr n) el, szl (by show 2 ≤ 1000; decide), fun T hT => ?_⟩
      rw [valV_sd]
      refine k T _ (same_upd hT) ?_
      show SqT K _ T _
      rw [lk_getD]
      exact SqT.of upd_same
    · have nl : t.hd ≠ "letter" := fun z => hc (by rw [z]; exact decide_eq_true rfl)
      dsimp only [tNext]
      have ps := rt.pos
      refine ⟨_, rfl, a, _, 0, _, rfl, rfl, hv, atI_0 _ _, szl (by show 4 ≤ 1000; decide), fun l0 hl0 => ?_⟩
      have s0 := same_upd (o := .lst (LW4.map V.str)) hl0
      refine ⟨l0, _, rfl, .inl (SqL.of upd_same), rfl, fl_strs LW4, _, rfl, ?_⟩
      rw [if_neg Bool.false_ne_true, show inV (V.str t.hd) [V.str "same", V.str "other", V.str "none", V.str "all"] = decide (t.hd ∈ LW4) from inV_strs t.hd LW4]
      refine ite2 (fun hc2 => ?_) (fun hc2 => ?_)
      · have hm : t.hd ∈ LW4 := of_decide_eq_true hc2
        obtain ⟨es1, ek, _⟩ : t.srt = t.ss ∧ t.kids = [] ∧ t.hd ≠ "letter" := by
          rcases rt.lw4 with ⟨_, z⟩ | ⟨z, _⟩
          · exact z
          · exact absurd hm z
        have hus : us = [] := by
          rw [ek] at hk2
          cases hk2
          rfl
        subst hus
        refine ⟨_, rfl, a, _, 0, _, rfl, rfl, sqt_same s0 hv, atI_0 _ _, szl (by show 1 ≤ 1000; decide), fun T0 hT0 => ?_⟩
        have sT0 := same_upd (o := .tup [V.str t.hd]) hT0
        have s1 := s0.trans sT0
        refine ⟨_, rfl, _, rfl, a, _, rfl, sqt_same s1 hv, fun hh => absurd ⟨hh.1, trivial⟩ (sIx_1 _ _), fun _ p hp => ⟨p, rfl, ⟨_, SqT.of upd_same⟩, fun D hD => ?_⟩⟩
        rw [cutV_tl, List.map_nil, List.append_nil] at hD ⊢
        have sp := same_upd (o := .tup (t.ss.map V.str)) hp
        have hpG := (upd_same : upd (upd (upd H l0 (.lst (LW4.map V.str))) T0 (.tup [V.str t.hd])) p (.tup (t.ss.map V.str)) p = _)
        have hTT : SqT K (upd (upd (upd H l0 (.lst (LW4.map V.str))) T0 (.tup [V.str t.hd])) p (.tup (t.ss.map V.str))) T0 [V.str t.hd] := sqt_same sp (SqT.of upd_same)
        replace s1 := s1.trans sp
        refine lc_it (walk_tup (K := K) (a := p) (xs := t.ss.map V.str)) (fun i G => G D = some (.lst (((t.ss.take i).map (lk ms)).map V.str)) ∧ Same (upd (upd (upd H l0 (.lst (LW4.map V.str))) T0 (.tup [V.str t.hd])) p (.tup (t.ss.map V.str))) G) ⟨upd_same, same_upd hD⟩ (fun i G _ q => sqt_same q.2 (SqT.of hpG)) ?_ ?_
        · rintro i v G G' hi ⟨e, sm⟩ ⟨rfl, hv2⟩
          obtain ⟨z, ez, rfl⟩ := str_at hv2
          have es2 := sm _ _ (s1 _ _ es)
          refine ⟨rfl, _, rfl, ds, rfl, .inl ⟨_, .inl es2⟩, _, rfl, _, rfl, _, DGet.k (k := .inr z) es2, ?_⟩
          rw [valV_sd, lk_getD]
          refine ⟨_, e, ?_, ?_, same_put hD sm⟩
          · rw [List.length_map, List.length_map, List.length_take]
            exact small1000 (by omega)
          · rw [upd_same, List.take_add_one, ez, List.map_append, List.map_append]
            rfl
        · rintro G ⟨eD, smG⟩
          rw [List.length_map, List.take_length] at eD
          refine ⟨D, _, rfl, .inl ⟨SqL.of eD, fun q hq => ?_⟩⟩
          have sq := same_upd (o := .tup ((t.ss.map (lk ms)).map V.str)) hq
          have pos1 : 1 ≤ t.ss.length := by
            have z := ps.1
            rw [ek, List.length_nil, Nat.add_zero] at z
            exact z
          refine ⟨T0, q, _, _, rfl, rfl, sqt_same (smG.trans sq) hTT, SqT.of upd_same, List.cons_ne_nil _ _, szl (by rw [List.length_map, List.length_map]; show 1 + t.ss.length ≤ 1000; omega), fun h0 => ?_, fun _ T hT => ?_⟩
          · have z := congrArg List.length h0
            rw [List.length_map, List.length_map, List.length_nil] at z
            omega
          · have sT := same_upd (o := .tup ([V.str t.hd] ++ (t.ss.map (lk ms)).map V.str)) hT
            refine k T _ (s1.trans (smG.trans (sq.trans sT))) (led_at (us := []) rt nl ?_ (by rw [ek]; exact .nil))
            rw [es1, List.map_nil, List.append_nil]
            exact SqT.of upd_same
      · have hm : t.hd ∉ LW4 := fun z => hc2 (decide_eq_true z)
        obtain ⟨es1, ek⟩ : t.srt = [] ∧ t.ss = [] := by
          rcases rt.lw4 with ⟨z, _⟩ | ⟨_, z, z2 | z2⟩
          · exact absurd z hm
          · exact absurd z2 nl
          · exact ⟨z, z2⟩
        rw [ek, List.map_nil, List.nil_append] at hv
        have lk2 := hk2.len
        dsimp only [tNext]
        refine ⟨_, rfl, a, _, 0, _, rfl, rfl, sqt_same s0 hv, atI_0 _ _, szl (by show 1 ≤ 1000; decide), fun T0 hT0 => ?_⟩
        have sT0 := same_upd (o := .tup [V.str t.hd]) hT0
        have s1 := s0.trans sT0
        refine ⟨_, rfl, _, rfl, a, _, rfl, sqt_same s1 hv, fun hh => absurd ⟨hh.1, trivial⟩ (sIx_1 _ _), fun _ p hp => ⟨p, rfl, ⟨_, SqT.of upd_same⟩, fun D hD => ?_⟩⟩
        rw [cutV_tl] at hD ⊢
        have sp := same_upd (o := .tup (us.map V.ref)) hp
        have hpG := (upd_same : upd (upd (upd H l0 (.lst (LW4.map V.str))) T0 (.tup [V.str t.hd])) p (.tup (us.map V.ref)) p = _)
        have hTT : SqT K (upd (upd (upd H l0 (.lst (LW4.map V.str))) T0 (.tup [V.str t.hd])) p (.tup (us.map V.ref))) T0 [V.str t.hd] := sqt_same sp (SqT.of upd_same)
        replace s1 := s1.trans sp
        refine lc_it (walk_tup (K := K) (a := p) (xs := us.map V.ref)) (fun i G => ∃ ws : List Addr, G D = some (.lst (ws.map V.ref)) ∧ Tms K G ws ((t.kids.take i).map (led (lk ml) (lk ms))) ∧ Same (upd (upd (upd H l0 (.lst (LW4.map V.str))) T0 (.tup [V.str t.hd])) p (.tup (us.map V.ref))) G) ⟨[], upd_same, .nil, same_upd hD⟩ (fun i G _ ⟨_, _, _, q⟩ => sqt_same q (SqT.of hpG)) ?_ ?_
        · rintro i v G G' hi ⟨ws, e, hT, sm⟩ ⟨rfl, hv2⟩
          obtain ⟨b, eb, rfl⟩ := ref_at hv2
          obtain ⟨kd, ek2, hkd⟩ := hk2.get eb
          have hkm := List.mem_of_getElem? ek2
          have zk := kids_sz hkm
          have smA := s1.trans sm
          have lw := hT.len
          rw [List.length_map, List.length_take] at lw
          refine ⟨rfl, _, rfl, _, rfl, _, rfl, b, dl, ds, kd, ml, ms, rfl, hkd.same smA, rt.kids kd hkm, by omega, smA _ _ el, smA _ _ es, fun u G5 s5 hu5 => ?_⟩
          have e5 := s5 _ _ e
          refine ⟨_, e5, ?_, ws ++ [u], ?_, ?_, same_put hD (sm.trans s5)⟩
          · rw [List.length_map]
            exact small1000 (by omega)
          · rw [upd_same, List.map_append]
            rfl
          · rw [List.take_add_one, ek2, List.map_append]
            exact ((hT.same s5).app (.cons hu5 .nil)).put e5
        · rintro G ⟨ws, eD, hT, smG⟩
          rw [List.length_map, lk2, List.take_length] at hT
          have lw := hT.len
          rw [List.length_map] at lw
          have p1 := ps.1
          rw [ek, List.length_nil, Nat.zero_add] at p1
          have p2 := ps.2.1
          refine ⟨D, _, rfl, .inl ⟨SqL.of eD, fun q hq => ?_⟩⟩
          have sq := same_upd (o := .tup (ws.map V.ref)) hq
          refine ⟨T0, q, _, _, rfl, rfl, sqt_same (smG.trans sq) hTT, SqT.of upd_same, List.cons_ne_nil _ _, szl (by rw [List.length_map]; show 1 + ws.length ≤ 1000; omega), fun h0 => ?_, fun _ T hT2 => ?_⟩
          · have z := congrArg List.length h0
            rw [List.length_map, List.length_nil] at z
            omega
          · have sT := same_upd (o := .tup ([V.str t.hd] ++ ws.map V.ref)) hT2
            refine k T _ (s1.trans (smG.trans (sq.trans sT))) (led_at (us := ws) rt nl ?_ (hT.same (sq.trans sT)))
            rw [es1]
            exact SqT.of upd_same
theorem ll_none {fd : FuncData} : FnOk P w K mg base CX0 1 (He.ga K "_law_led") fd ["_law_term_here", "_law_letters", "_law_sorts"] (spLd K 0) := by
  refine ⟨fun vs H Q E h => ?_, fun A outer s H args us vs Q E hr e0 bt r h => ?_⟩
  · obtain ⟨_, _, _, t, _, _, _, _, _, z, _⟩ := h
    have := t.sz_pos
    omega
  · obtain ⟨_, _, _, t, _, _, _, _, _, z, _⟩ := h
    have := t.sz_pos
    omega
theorem ok_ll (F : FnP K "_law_led" sLawLed (He.ga K "_law_led") fd) (Y : Fx w K mg) : ∀ N, N ≤ 400 → FnOk P w K mg base CX0 (N + 1) (He.ga K "_law_led") fd ["_law_term_here", "_law_letters", "_law_sorts"] (spLd K N)
  | 0, _ => ll_none
  | N + 1, h => ll_step F Y (ok_ll F Y N (by omega)) (by omega)
end
end K25

namespace K25
open PySem PySem.Spec PyProof.Rows L2 Ow
/-! ### repr -/
def rRepr (K : PySem.W.Frag) : List V → Hp → VK → Prop := fun xs H Q => ∃ (x : V) (d : PyData), xs = [x] ∧ Dp K H x d ∧ (∃ a, x = .ref a) ∧ d.showable = true ∧ d.hasDict = false ∧ d.depth ≤ 64 ∧ d.shown.length ≤ sizeLine ∧ Q (.str d.shown) H
theorem call_repr {X : Cx} (hg : X.A.guards = some []) (hu : X.A.units + 66 < cLine) : CallR X (.builtin "repr") (rRepr X.K) := by
  intro pins s σ H xs us Q I r ⟨x, d, e, hd, ⟨a, ea⟩, h1, h2, h3, h4, q⟩
  subst e
  subst ea
  obtain ⟨u1, rfl, r1⟩ := vals1 r
  obtain ⟨as, rd⟩ := Dp.reads I d (.ref a) u1 hd r1
  obtain rfl : u1 = Value.ref a := r1
  exact repr_of_reads' rd h1 (fun z => absurd (h2.symm.trans z) (by simp)) hg (by omega) (fun _ _ z => z) (fun h' u tk hk => ⟨.str d.shown, H, I.kept (t' := tk) hk, ⟨u, rfl⟩, q⟩) h4
def sdD (m : List (Str × Str)) : List (PyData × PyData) := m.map fun q => (PyData.str q.1, PyData.str q.2)
theorem sd_reads {P : Program} {w : World} {h : Heap} : ∀ {m : List (Str × Str)} {vs : List (Key × Value)} {es : List DictEntry}, KV (sdV m) vs → Pairs (mixKind P w) es vs → ReadsAll h (es.map (·.key)) ((sdD m).map (·.1)) [] ∧ ReadsAll h (es.map (·.val)) ((sdD m).map (·.2)) [] := by
  intro m
  induction m with
  | nil =>
    intro vs es r p
    cases r
    cases p
    exact ⟨.nil, .nil⟩
  | cons q m ih =>
    intro vs es r p
    cases r with
    | cons r rs =>
      cases p with
      | cons k1 k2 k3 =>
        obtain ⟨i1, i2⟩ := ih rs k3
        obtain ⟨r1, r2⟩ := r
        rw [← r1] at k1
        obtain ⟨t2, e2⟩ := r2
        replace k1 : keyIs (.inr q.1) _ = true := k1
        rcases keyIs_shape k1 with ⟨i, t, z, _⟩ | ⟨x, t, z, ez⟩
        · cases z
        · cases z
          refine ⟨?_, ?_⟩
          · rw [List.map_cons, ez]
            exact .cons (as := []) (bs := []) (.str _ _) i1
          · rw [List.map_cons, k2, e2]
            exact .cons (as := []) (bs := []) (.str _ _) i2
theorem sd_read {X : Cx} {pins : List (Addr × Obj)} {σ : L2.St} {H : Hp} {s : Shared} (I : Inv X pins σ H s) {a : Addr} {m : List (Str × Str)} (e : H a = some (.dK (sdV m))) : a ≠ sysModules ∧ Reads s.heap (.ref a) (.dict (sdD m)) [a] := by
  obtain ⟨_, hd, vs, rel, o, es, ep, h1, h2, h3, _, h5, _⟩ := dk_rd I.hok (.inl e)
  obtain ⟨r1, r2⟩ := sd_reads (h := s.heap) rel h5
  exact ⟨beq_eq_false_iff_ne.mp hd, Reads.dict (as := []) (bs := []) h1 h2.1 h3 r1 r2⟩
def ddD (m1 m2 : List (Str × Str)) : PyData := .list [.dict (sdD m1), .dict (sdD m2)]
/-- repr of a list of two dicts of texts -/
def rReprD (K : PySem.W.Frag) : List V → Hp → VK → Prop := fun xs H Q => ∃ (a d1 d2 : Addr) (m1 m2 : List (Str × Str)), xs = [.ref a] ∧ SqL K H a [.ref d1, .ref d2] ∧ H d1 = some (.dK (sdV m1)) ∧ H d2 = some (.dK (sdV m2)) ∧ (ddD m1 m2).shown.length ≤ sizeLine ∧ Q (.str (ddD m1 m2).shown) H
theorem show_kv : ∀ m : List (Str × Str), PyData.showableKv (sdD m) = true
  | [] => by simp [sdD, PyData.showableKv]
  | q :: m => by
    have ih := show_kv m
    simp only [sdD, List.map_cons, PyData.showableKv, PyData.showable, Bool.true_and] at ih ⊢
    exact ih
theorem dep_kv : ∀ m : List (Str × Str), PyData.depthKv (sdD m) = 0
  | [] => by simp [sdD, PyData.depthKv]
  | q :: m => by
    have ih := dep_kv m
    simp only [sdD, List.map_cons, PyData.depthKv, PyData.depth] at ih ⊢
    omega
theorem call_reprD {X : Cx} (hg : X.A.guards = some []) (hu : X.A.units + 66 < cLine) : CallR X (.builtin "repr") (rReprD X.K) := by
  intro pins s σ H xs us Q I r ⟨a, d1, d2, m1, m2, e, hl, e1, e2, hz, q⟩
  subst e
  obtain ⟨u1, rfl, r1⟩ := vals1 r
  obtain rfl : u1 = Value.ref a := r1
  obtain ⟨n1, R1⟩ := sd_read I e1
  obtain ⟨n2, R2⟩ := sd_read I e2
  obtain ⟨its, rv, ⟨o, n, h1, h2, hn, h3⟩, _⟩ := I.list hl
  cases rv with
  | cons ra rv =>
  cases rv with
  | cons rb rv =>
  cases rv
  rename_i va vb
  obtain rfl : va = Value.ref d1 := ra
  obtain rfl : vb = Value.ref d2 := rb
  have h4 : ReadsAll s.heap [.ref d1, .ref d2] [.dict (sdD m1), .dict (sdD m2)] ([d1] ++ ([d2] ++ [])) := .cons R1 (.cons R2 .nil)
  have hz' : (listText (PyData.shownAll [.dict (sdD m1), .dict (sdD m2)])).length ≤ sizeLine := by simpa only [ddD, PyData.shown] using hz
  have hno : sysModules ∉ [d1] ++ ([d2] ++ []) := by
    simp only [List.singleton_append, List.append_nil, List.mem_cons, List.not_mem_nil, or_false]
    rintro (z | z)
    · exact n1 z.symm
    · exact n2 z.symm
  have hs : PyData.showableAll [.dict (sdD m1), .dict (sdD m2)] = true := by simp [PyData.showableAll, PyData.showable, show_kv]
  obtain ⟨bs, hb, hk⟩ := ReprAllK.of_readsAll (prog := X.prog) (w := X.w) h4 hs (fun _ => hno) (fun t ht => Nat.le_trans (listText_mem_le ht) hz')
  have hrd : Reads s.heap (.ref a) (.list [.dict (sdD m1), .dict (sdD m2)]) _ := .list h1 h2 h3 (by simpa using h4)
  have hna : a ∉ bs := not_mem_of_deeper hrd (by simp only [PyData.depth]; omega) hb
  have hd : PyData.depthAll [.dict (sdD m1), .dict (sdD m2)] = 1 := by
    simp only [PyData.depthAll, PyData.depth, dep_kv]
    omega
  refine call_repr_slot (by omega) ⟨o, h1, h2⟩ PySem.F.slot_list_repr.toG ?_
  refine call_list_reprK h1 h2 (by simpa using h3) hna (by simpa using hk.length_eq) (fun i y e => hk.item i y (by simpa using e)) hg (fun b _ => Clear.nil b) (by rw [hd]; show X.A.units + 1 + (1 + 1) < cLine; omega) (fun _ _ z => z) (fun h' u tk hk => ⟨_, _, rfl, .str (ddD m1 m2).shown, H, I.kept (t' := tk) hk, ⟨u, ?_⟩, q⟩) hz'
  simp only [ddD, PyData.shown]
/-- how long the text of two dicts of words is -/
theorem kv_short : ∀ {m : List (Str × Str)}, (∀ q ∈ m, Wd q.1 ∧ Wd q.2) → PyData.leavesShortKv 13 (sdD m) = true ∧ PyData.weightKv (sdD m) ≤ 40 * m.length
  | [], _ => ⟨by simp [sdD, PyData.leavesShortKv], by simp [sdD, PyData.weightKv]⟩
  | q :: m, h => by
    obtain ⟨a, b⟩ := kv_short fun x hx => h x (List.mem_cons_of_mem _ hx)
    obtain ⟨h1, h2⟩ := h q List.mem_cons_self
    have l1 := str_lv h1.lay
    have l2 := str_lv h2.lay
    have z1 : q.1.cps.size ≤ 12 := h1.hi
    have z2 : q.2.cps.size ≤ 12 := h2.hi
    refine ⟨?_, ?_⟩
    · simp only [sdD, List.map_cons, PyData.leavesShortKv, Bool.and_eq_true] at a ⊢
      exact ⟨⟨l1, l2⟩, a⟩
    · simp only [sdD, List.map_cons, PyData.weightKv, PyData.weight, List.length_cons] at b ⊢
      omega
theorem dd_short {m1 m2 : List (Str × Str)} (h1 : ∀ q ∈ m1, Wd q.1 ∧ Wd q.2) (h2 : ∀ q ∈ m2, Wd q.1 ∧ Wd q.2) (l1 : m1.length ≤ 20) (l2 : m2.length ≤ 20) : (ddD m1 m2).shown.length ≤ sizeLine := by
  obtain ⟨a1, b1⟩ := kv_short h1
  obtain ⟨a2, b2⟩ := kv_short h2
  have z := PyData.shown_le 13 (by decide) (ddD m1 m2) (by simp only [ddD, PyData.leavesShort, PyData.leavesShortAll, a1, a2]; rfl)
  have w : (ddD m1 m2).weight ≤ 2000 := by
    simp only [ddD, PyData.weight, PyData.weightAll]
    omega
  have e : sizeLine = 16777216 := by decide
  omega
end K25

namespace K25
open PySem PySem.Spec PyProof.Rows L2 Ow
/-! ### defs that are called where nothing is being shown -/
structure FnG (P : Program) (w : World) (K : PySem.W.Frag) (mg : Str → Option Value) (base : Heap) (k : Nat) (f : Addr) (fd : FuncData) (ps : List Str) (sp : Sp) : Prop where
  len : ∀ vs H Q E, sp vs H Q E → vs.length = ps.length
  run : ∀ (A : Around) (outer : List Env) (s : Shared) (H : Hp) (args : Args) (us : List Value) (vs : List V) (Q : VK) (E : XK), A.guards = some [] → Room k A → Env0 P w K mg base A outer s H → BindsTo s fd args (ps.zip us) → Vals vs us → sp vs H Q E →
    codeAny (model P w) A (.call (.ref f) args) (CR CX0 outer P w H s Q E) s
section
variable {P : Program} {w : World} {K : PySem.W.Frag} {mg : Str → Option Value} {base : Heap}
theorem okG {x qual : Str} {params : Arguments} {body : List Stmt} {scope : Scope} {dvs : List V} {kws : List (Str × V)} {f : Addr} {fd : FuncData} {N ps : List Str} {k : Nat} {sp : Sp} (F : FunD K x qual params body scope dvs kws f fd) (S : FnScope N ps scope) (len : ∀ vs H Q E, sp vs H Q E → vs.length = ps.length)
    (hb : ∀ (cdv : Value) (A : Around) (outer : List Env) (s : Shared) (H : Hp) (vs : List V) (Q : VK) (E : XK), A.guards = some [] → Room k (A.deeper (envOfC qual scope s.heap.objs.size f cdv)) → sp vs H Q E →
      ∃ t, PSs (cxOf CX0 P w K mg base N qual scope f cdv A outer s H E).nox body t ∧ t { nx := fun _ H' => Q .non H', rt := Q } (start N vs) H) : FnG P w K mg base (k + 1) f fd ps sp := by
  obtain ⟨oc, od, dV, kV, doc, pm, an, cdv, ct, osl, rfl, lk, hcd, _, _⟩ := F.ex
  refine ⟨len, fun A outer s H args us vs Q E hg hr e0 bt r hsp => ?_⟩
  have KX : K.In s.heap := e0.mod.kin.keeps fun b o e => (e0.bs b o e).1
  have kinds : ∀ y ∈ ps.zip us, scope.names.lookup y.1 = some .local ∨ (scope.names.lookup y.1 = some .cell ∧ ((cellsFrom (s.heap.objs.size + 1) scope.names []).lookup y.1).isSome = true) := fun y hy =>
    (S.par y.1 (List.of_mem_zip (show (y.1, y.2) ∈ ps.zip us from hy)).1).elim .inl fun q => .inr ⟨q, PySem.W.cellsFrom_some _ _ _ (.inl q)⟩
  refine codeAny_call_function hr.depth (KX _ _ lk) rfl S.co S.gen rfl (PySem.W.codeRec_of KX hcd) (bt _ _ _ _ (wpAny_newFunctionEnv_cells S.kind kinds fun env he s1 z => ?_))
  subst he
  refine ⟨(e0.mod.nolimit.keeps fun b o e => (e0.bs b o e).1).keeps z.toInCall.keep, codeAny_func ?_⟩
  obtain ⟨t, ht, hq⟩ := hb cdv A outer s H vs Q E hg (hr.deeper _) hsp
  refine wpAny_mono (ht.nox.run [] s1 (start N vs) H _ (inv_start S hr.hd e0 (len _ _ _ _ hsp) r z) hq) (fun fl s' hs => ?_) fun _ _ hs => hs
  cases fl with
  | ret u => exact let ⟨v, _, H', J, rv, q⟩ := hs; ⟨v, H', J.os, J.bare, J.base, J.hok, rv, q⟩
  | next => exact let ⟨_, H', J, q⟩ := hs; ⟨V.non, H', J.os, J.bare, J.base, J.hok, rfl, q⟩
  | brk => exact let ⟨_, _, _, q⟩ := hs; False.elim q
  | cont => exact let ⟨_, _, _, q⟩ := hs; False.elim q
end

/-! ### what the law and the program tell of a term is the same -/
theorem none_has (ws : List Str) (t : Tm) : noneOf ws t = !hasB ws t := by
  unfold noneOf hasB
  rw [Bool.not_not, List.all_map]
  induction t.pre with
  | nil => rfl
  | cons u l ih =>
    rw [List.all_cons, List.filter_cons, ih]
    by_cases h : u.hd ∈ ws <;> simp [noneB, inB, h]
def staysB (t : Tm) : Bool := (t.pre.filter fun u => isRest u && hasB NF u).isEmpty
theorem has_rest (v : Tm) : hasB NF (.one "rest" v) = hasB NF v := by
  unfold hasB
  rw [show (Tm.one "rest" v).pre = .one "rest" v :: v.pre from rfl, List.filter_cons]
  have z : inB NF (.one "rest" v) = false := by
    show decide (("rest" : Str) ∈ NF) = false
    decide +kernel
  rw [if_neg (by rw [z]; exact Bool.false_ne_true)]
theorem kept_stays {t : Tm} (rt : Rt t) : keptB t = staysB t := by
  unfold keptB staysB rk
  have h := rt.pre
  revert h
  generalize t.pre = l
  intro h
  induction l with
  | nil => rfl
  | cons u l ih =>
    have ih2 := ih fun v hv => h v (List.mem_cons_of_mem _ hv)
    have hu := h u List.mem_cons_self
    rw [List.filter_cons, List.filter_cons]
    cases hr : isRest u with
    | false =>
      rw [if_neg Bool.false_ne_true, Bool.false_and, if_neg Bool.false_ne_true]
      exact ih2
    | true =>
      obtain ⟨v, rfl, _⟩ := hu.rest (of_decide_eq_true hr)
      rw [if_pos rfl, Bool.true_and, List.flatMap_cons, List.map_append, List.all_append, ih2, has_rest]
      show ((noneOf NF v && true) && _) = _
      rw [Bool.and_true, none_has]
      cases hasB NF v <;> rfl
theorem lk_nil (x : Str) : lk [] x = x := rfl
theorem map_id {f : Str → Str} (h : ∀ x, f x = x) : ∀ l : List Str, l.map f = l
  | [] => rfl
  | x :: l => by rw [List.map_cons, h, map_id h l]
theorem led_id {fl fs : Str → Str} (h1 : ∀ x, fl x = x) (h2 : ∀ x, fs x = x) : ∀ t : Tm, led fl fs t = t
  | .leaf w ss => by
    unfold led
    rw [map_id h1, map_id h2]
    exact ite_self _
  | .one w t => congrArg (Tm.one w) (led_id h1 h2 t)
  | .two w s t => by
    show Tm.two w (led fl fs s) (led fl fs t) = _
    rw [led_id h1 h2 s, led_id h1 h2 t]
theorem led_sz (fl fs : Str → Str) : ∀ t : Tm, (led fl fs t).sz = t.sz
  | .leaf w ss => by
    unfold led
    split <;> rfl
  | .one w t => by
    show 1 + (led fl fs t).sz = 1 + t.sz
    rw [led_sz fl fs t]
  | .two w s t => by
    show 1 + (led fl fs s).sz + (led fl fs t).sz = 1 + s.sz + t.sz
    rw [led_sz fl fs s, led_sz fl fs t]
theorem led_rt {fl fs : Str → Str} (h1 : ∀ x, Wd x → Wd (fl x)) (h2 : ∀ x, Wd x → Wd (fs x)) : ∀ {t : Tm}, Rt t → Rt (led fl fs t)
  | .leaf w ss, h => by
    rcases h with ⟨rfl, a, rfl, ha⟩ | ⟨rfl, a, rfl, ha⟩ | ⟨rfl, a, rfl, ha⟩ | ⟨rfl, a, b, rfl, ha, hb⟩ | ⟨rfl, a, b, rfl, ha, hb⟩
    · rw [show led fl fs (.leaf "letter" [a]) = .leaf "letter" [fl a] from if_pos rfl]
      exact .inl ⟨rfl, _, rfl, h1 a ha⟩
    · rw [show led fl fs (.leaf "same" [a]) = .leaf "same" [fs a] from if_neg (by decide +kernel)]
      exact .inr (.inl ⟨rfl, _, rfl, h2 a ha⟩)
    · rw [show led fl fs (.leaf "other" [a]) = .leaf "other" [fs a] from if_neg (by decide +kernel)]
      exact .inr (.inr (.inl ⟨rfl, _, rfl, h2 a ha⟩))
    · rw [show led fl fs (.leaf "none" [a, b]) = .leaf "none" [fs a, fs b] from if_neg (by decide +kernel)]
      exact .inr (.inr (.inr (.inl ⟨rfl, _, _, rfl, h2 a ha, h2 b hb⟩)))
    · rw [show led fl fs (.leaf "all" [a, b]) = .leaf "all" [fs a, fs b] from if_neg (by decide +kernel)]
      exact .inr (.inr (.inr (.inr ⟨rfl, _, _, rfl, h2 a ha, h2 b hb⟩)))
  | .one w t, h => ⟨h.1, led_rt h1 h2 h.2⟩
  | .two w s t, h => ⟨h.1, led_rt h1 h2 h.2.1, led_rt h1 h2 h.2.2⟩
theorem lk_wd {m : List (Str × Str)} (h : ∀ q ∈ m, Wd q.1 ∧ Wd q.2) (x : Str) (hx : Wd x) : Wd (lk m x) := by
  unfold lk
  cases e : m.lookup x with
  | none => exact hx
  | some y =>
    have z : (x, y) ∈ m := by
      clear hx
      induction m with
      | nil => cases e
      | cons q m ih =>
        obtain ⟨k, v⟩ := q
        rw [List.lookup_cons] at e
        by_cases g : x = k
        · subst g
          rw [beq_self_eq_true] at e
          cases e
          exact List.mem_cons_self
        · rw [beq_eq_false_iff_ne.mpr g] at e
          exact List.mem_cons_of_mem _ (ih (fun q hq => h q (List.mem_cons_of_mem _ hq)) e)
    exact (h _ z).2
theorem lets_wd {t : Tm} (rt : Rt t) : ∀ x ∈ lets t.pre, Wd x := fun x hx => by
  obtain ⟨u, hu, hx2⟩ := List.mem_flatMap.mp hx
  exact (rt.pre u (List.mem_filter.mp hu).1).ssWd x hx2
theorem srt_wd {t : Tm} (rt : Rt t) : ∀ x ∈ t.pre.flatMap Tm.srt, Wd x := fun x hx => by
  obtain ⟨u, hu, hx2⟩ := List.mem_flatMap.mp hx
  have hr := rt.pre u hu
  rcases hr.st with ⟨e, _⟩ | ⟨e, _⟩
  · rw [e] at hx2; exact hr.ssWd x hx2
  · rw [e] at hx2; cases hx2
theorem letB_wd {t : Tm} (rt : Rt t) : ∀ x ∈ letB t, Wd x := fun x hx => lets_wd rt x (List.mem_of_mem_take ((dd_mem _ x _).mp hx))
theorem srtB_wd {t : Tm} (rt : Rt t) : ∀ x ∈ srtB t, Wd x := fun x hx => srt_wd rt x (List.mem_of_mem_take ((dd_mem _ x _).mp hx))
/-- what is told of a term, as data -/
def toldD (a b c d : Bool) (n : Nat) : PyData := .list [.bool a, .bool b, .bool c, .bool d, .int (n : Int)]
theorem int_short : ∀ n : Nat, n ≤ 400 → (PyData.shown (.int (n : Int))).length ≤ 13 := by decide +kernel
theorem told_fine (a b c d : Bool) (n : Nat) (h : n ≤ 400) : (toldD a b c d n).showable = true ∧ (toldD a b c d n).hasDict = false ∧ (toldD a b c d n).depth ≤ 64 ∧ (toldD a b c d n).shown.length ≤ sizeLine := by
  have lg : ((n : Int)).natAbs.log2 ≤ 400 := Nat.le_trans (Nat.log2_le_self _) (by omega)
  refine ⟨?_, ?_, ?_, ?_⟩
  · simp only [toldD, PyData.showable, PyData.showableAll, Bool.true_and, Bool.and_true, decide_eq_true_eq]
    omega
  · simp [toldD, PyData.hasDict, PyData.hasDictAll]
  · simp [toldD, PyData.depth, PyData.depthAll]
  · have z := PyData.shown_le 13 (by decide) (toldD a b c d n) (by
      simp only [toldD, PyData.leavesShort, PyData.leavesShortAll, Bool.true_and, Bool.and_true, decide_eq_true_eq]
      exact int_short n h)
    have w : (toldD a b c d n).weight ≤ 1000 := by
      simp only [toldD, PyData.weight, PyData.weightAll]
      split <;> omega
    have e : sizeLine = 16777216 := by decide
    omega
end K25

namespace K25
open PySem PySem.Spec PyProof.Rows L2 Ow
theorem paired_snoc {α β : Type} {F : α → β → Prop} {x : α} {y : β} : ∀ {as : List α} {bs : List β}, Paired F as bs → F x y → Paired F (as ++ [x]) (bs ++ [y]) := by
  intro as
  induction as with
  | nil =>
    intro bs h g
    cases h
    exact .cons g .nil
  | cons a as ih =>
    intro bs h g
    cases h with
    | cons h1 h2 => exact .cons h1 (ih h2 g)
theorem paired_sd {K : PySem.W.Frag} {H : Hp} : ∀ {ps : List Addr} {m : List (Str × Str)}, Paired (fun p (q : Str × Str) => SqT K H p [.str q.1, .str q.2]) ps m → Paired (fun p (kv : Key × V) => SqT K H p [kV kv.1, kv.2]) ps (sdV m) := by
  intro ps
  induction ps with
  | nil =>
    intro m h
    cases h
    exact .nil
  | cons a as ih =>
    intro m h
    cases h with
    | cons h1 h2 => exact .cons h1 (ih h2)
theorem put_sd (k v : Str) (hk : Wd k) (hv : Wd v) (m : List (Str × Str)) (h : ∀ q ∈ m, Wd q.1 ∧ Wd q.2) : ∃ m', putK (sdV m) (.inr k) (.str v) = sdV m' ∧ (∀ q ∈ m', Wd q.1 ∧ Wd q.2) ∧ m'.length ≤ m.length + 1 := by
  unfold putK
  split
  · refine ⟨m.map fun q => if q.1 = k then (q.1, v) else q, ?_, fun q hq => ?_, by rw [List.length_map]; exact Nat.le_succ _⟩
    · unfold sdV
      rw [List.map_map, List.map_map]
      refine List.map_congr_left fun q _ => ?_
      by_cases e : q.1 = k
      · simp [e]
      · have e2 : ¬ ((Sum.inr q.1 : Key) = Sum.inr k) := fun z => e (Sum.inr.inj z)
        simp [e, e2]
    · obtain ⟨r, hr, e⟩ := List.mem_map.mp hq
      have hr2 := h r hr
      rw [← e]
      split
      · exact ⟨hr2.1, hv⟩
      · exact hr2
  · refine ⟨m ++ [(k, v)], ?_, fun q hq => ?_, by rw [List.length_append]; exact Nat.le_refl _⟩
    · unfold sdV
      rw [List.map_append]
      rfl
    · rcases List.mem_append.mp hq with z | z
      · exact h q z
      · rw [List.mem_singleton.mp z]
        exact ⟨hk, hv⟩
theorem merge_sd : ∀ (n m : List (Str × Str)), (∀ q ∈ n, Wd q.1 ∧ Wd q.2) → (∀ q ∈ m, Wd q.1 ∧ Wd q.2) → ∃ m', mergeK (sdV m) (sdV n) = sdV m' ∧ (∀ q ∈ m', Wd q.1 ∧ Wd q.2) ∧ m'.length ≤ m.length + n.length
  | [], m, _, h => ⟨m, rfl, h, Nat.le_refl _⟩
  | q :: n, m, hn, h => by
    obtain ⟨hq1, hq2⟩ := hn q List.mem_cons_self
    obtain ⟨m1, e1, h1, l1⟩ := put_sd q.1 q.2 hq1 hq2 m h
    obtain ⟨m2, e2, h2, l2⟩ := merge_sd n m1 (fun x hx => hn x (List.mem_cons_of_mem _ hx)) h1
    refine ⟨m2, ?_, h2, by rw [List.length_cons]; omega⟩
    rw [← e2, ← e1]
    rfl
/-- a list of pairs of words, the second ones drawn -/
theorem dict_lc {K : PySem.W.Frag} {i : Nat} {σ : L2.St} {te : TE} {p D d c : Addr} {H : Hp} {xs : List Str} {Qd : Hp → Prop}
    (hw : ∀ v, wipe ((wipe σ [i]).set i (some v)) [i] = wipe σ [i]) (wn : ∀ x ∈ xs, Wd x) (ln : xs.length ≤ 3) (src : SrcAt H d c) (ep : H p = some (.lst (xs.map V.str))) (np : p ≠ d ∧ p ≠ c) (hD : H D = none)
    (hte : ∀ (z : Str) (G : Hp) (Q : VK), Wd z → SrcAt G d c → (∀ (val : Str) (T : Addr) (H4 : Hp), Wd val → SrcAt H4 d c → Same (hid d c G) (hid d c H4) → SqT K (hid d c H4) T [.str z, .str val] → Q (.ref T) H4) → te ((wipe σ [i]).set i (some (.str z))) G Q)
    (hd : ∀ (G : Hp) (m : List (Str × Str)) (ps : List Addr), G D = some (.lst (ps.map V.ref)) → Paired (fun p (q : Str × Str) => SqT K (hid d c G) p [.str q.1, .str q.2]) ps m → (∀ q ∈ m, Wd q.1 ∧ Wd q.2) → m.length ≤ 3 → SrcAt G d c → Same (hid d c H) (hid d c G) → Qd G) :
    ∃ W : Nat → Nat → Hp → Prop, (∃ m, W 0 m (upd H D (.lst []))) ∧ ∀ j m H, W j m H →
      ((Itl K p).stop j H ∧ Qd H) ∨ ((Itl K p).go j H ∧ ∃ Nx : Hp → Prop, (∀ H', Nx H' → ∃ m', m' < m ∧ W (j + 1) m' H') ∧ ∀ x H', (Itl K p).yld j H x H' → gName i x (wipe σ [i]) H' fun σ2 H2 => wipe σ2 [i] = wipe σ [i] ∧ tYes σ2 H2 fun b H3 =>
        if b = true then te σ2 H3 fun y H4 => ∃ acc, H4 D = some (.lst acc) ∧ acc.length < sizeLine ∧ Nx (upd H4 D (.lst (acc ++ [y]))) else Nx H3) := by
  have nD := new_h (.lst []) src hD
  have D1 : D ≠ d ∧ D ≠ c := ⟨nD.nd, nD.nc⟩
  have eph : hid d c H p = some (.lst (xs.map V.str)) := (hid_at np.1 np.2).trans ep
  refine lc_list (K := K) (a := p) (xs := xs.map V.str) (fun j G => ∃ (ps : List Addr) (m : List (Str × Str)), G D = some (.lst (ps.map V.ref)) ∧ Paired (fun p (q : Str × Str) => SqT K (hid d c G) p [.str q.1, .str q.2]) ps m ∧ (∀ q ∈ m, Wd q.1 ∧ Wd q.2) ∧ m.length = j ∧ ps.length = j ∧ SrcAt G d c ∧ Same (hid d c H) (hid d c G))
    ⟨[], [], upd_same, .nil, fun q hq => absurd hq List.not_mem_nil, rfl, rfl, nD.src, nD.sm⟩ (fun j G _ ⟨_, _, _, _, _, _, _, _, q⟩ => SqL.of (hid_sub _ _ (q _ _ eph))) ?_ ?_
  · rintro j v G hi ⟨ps, m, e1, hP, hW, lm2, lp2, srcG, smG⟩
    obtain ⟨z, ez, rfl⟩ := str_at hi
    have wz := wn z (List.mem_of_getElem? ez)
    have li := (List.getElem?_eq_some_iff.mp ez).1
    refine ⟨hw _, ?_⟩
    refine hte z G _ wz srcG fun val T H4 wv src4 s4 hT => ?_
    have e1h : hid d c G D = some (.lst (ps.map V.ref)) := (hid_at D1.1 D1.2).trans e1
    have e3h := s4 _ _ e1h
    have e3 := hid_sub _ _ e3h
    refine ⟨_, e3, by rw [List.length_map]; exact small1000 (by omega), ps ++ [T], m ++ [(z, val)], by rw [upd_same, List.map_append]; rfl, ?_, fun q hq => ?_, by rw [List.length_append, lm2]; rfl, by rw [List.length_append, lp2]; rfl, src_put D1.1 D1.2 src4, hid_put hD (smG.trans s4)⟩
    · rw [hid_upd D1.1 D1.2]
      exact paired_snoc (L2.Paired.mapP hP fun p q hq => sqt_put e3h (sqt_same s4 hq)) (sqt_put e3h hT)
    · rcases List.mem_append.mp hq with q1 | q1
      · exact hW q q1
      · rw [List.mem_singleton.mp q1]
        exact ⟨wz, wv⟩
  · rintro G ⟨ps, m, e1, hP, hW, lm2, lp2, srcG, smG⟩
    rw [List.length_map] at lm2
    exact hd G m ps e1 hP hW (by omega) srcG smG
/-- what an element draws -/
theorem pick_el {K : PySem.W.Frag} {d c : Addr} {z : Str} {ws : List Str} {G : Hp} {Q : VK} (src : SrcAt G d c) (wz : Wd z) (ww : ∀ x ∈ ws, Wd x) (l3 : ws.length = 3) (k : ∀ (val : Str) (T : Addr) (H4 : Hp), Wd val → SrcAt H4 d c → Same (hid d c G) (hid d c H4) → SqT K (hid d c H4) T [.str z, .str val] → Q (.ref T) H4) :
    ∀ l, G l = none → spPick [.ref d, .int 3] (upd G l (.lst (ws.map V.str))) (fun y H2 => rIxL K (.ref l) y H2 fun v H3 => ([V.str z, v].length ≤ sizeLine ∧ ∀ T, H3 T = none → Q (.ref T) (upd H3 T (.tup [V.str z, v])))) E0 := fun l hl => by
  have nl := new_h (.lst (ws.map V.str)) src hl
  refine ⟨d, c, 3, rfl, nl.src, by decide, by decide, fun r H2 r0 r1 src4 keep => ?_⟩
  obtain ⟨j, rfl⟩ : ∃ j : Nat, r = (j : Int) := ⟨r.toNat, by omega⟩
  have lj : j < ws.length := by omega
  have el : H2 l = some (.lst (ws.map V.str)) := (keep l nl.nd nl.nc).trans upd_same
  have eh := hid_pick keep
  refine ⟨l, _, _, _, rfl, rfl, SqL.of el, str_ix lj, szl (by show 2 ≤ 1000; decide), fun T hT => ?_⟩
  have nT := new_h (.tup [V.str z, V.str ws[j]]) src4 hT
  exact k ws[j] T _ (ww _ (List.getElem_mem lj)) nT.src (nl.sm.trans (by rw [← eh]; exact nT.sm)) (SqT.of nT.at_)
end K25

namespace K25
open PySem PySem.Spec PyProof.Rows L2 Ow
abbrev NLw : List Str := ["_law_script", "_law_source_here", "_law_lap", "_law_frame_here", "_law_kind", "_law_term_here", "_law_every", "_law_printed", "_law_flat_here", "_law_stays", "_law_part", "_law_plain", "_law_short", "_law_told", "_law_names_here", "_law_sorts", "_law_letters", "_law_name", "_law_ends", "_law_sort", "_law_shown"]
theorem scLw : FnScope NLw ["_law_script"] (defScope sLaw) := ⟨rfl, rfl, rfl, by decide +kernel, rfl, by decide +kernel, by decide +kernel⟩
def spLaw (K : PySem.W.Frag) : Sp := fun vs H Q _ => ∃ (a : Addr) (ns : List Int), vs = [.ref a] ∧ SqL K H a (ns.map V.int) ∧ ns.length ≤ 63 ∧ ∀ H', Q (.bl true) H'
def teNF : TE := tLst (tCons (tC (.str "then")) (tCons (tC (.str "closed")) (tCons (tC (.str "walked")) tNil)))
def ttStays (K : PySem.W.Frag) : TT := tAnd (tTest (tOp rEq (tOp (rIxT K) (tVar 10) (tC (.int 0))) (tC (.str "rest")))) (tB (tCall (spLH K) [] E0 (tCons (tVar 10) (tCons teNF tNil))))
def ttLet (K : PySem.W.Frag) : TT := tTest (tOp rEq (tOp (rIxT K) (tVar 10) (tC (.int 0))) (tC (.str "letter")))
def teLet (K : PySem.W.Frag) : TE := tTup (tCons (tVar 17) (tCons (tOp (rIxL K) (tLst (tCons (tC (.str "zz")) (tCons (tC (.str "yy")) (tCons (tVar 17) tNil)))) (tCall spPick [] E0 (tCons (tVar 1) (tCons (tC (.int 3)) tNil)))) tNil))
def teEnd (K : PySem.W.Frag) : TE := tTup (tCons (tVar 19) (tCons (tOp (rIxL K) (tLst (tCons (tC (.str "c")) (tCons (tC (.str "a")) (tCons (tC (.str "q")) tNil)))) (tCall spPick [] E0 (tCons (tVar 1) (tCons (tC (.int 3)) tNil)))) tNil))
theorem seq_any {a u : TS} {D : Ends} {σ : L2.St} {H : Hp} (I : L2.St → Hp → Prop) (hu : ∀ σ' H', I σ' H' → u D σ' H') (h : ∀ nx : L2.St → Hp → Prop, (∀ σ' H', I σ' H' → nx σ' H') → a { D with nx := nx } σ H) : tSeq a u D σ H := h _ hu
abbrev lst21 (a d : Addr) (v2 v3 v4 v5 v6 v7 v8 v9 v10 v11 v12 v13 v14 v15 v16 v17 v18 v19 v20 : Option V) : L2.St := [some (.ref a), some (.ref d), v2, v3, v4, v5, v6, v7, v8, v9, v10, v11, v12, v13, v14, v15, v16, v17, v18, v19, v20]
abbrev KDS : List Str := ["plain", "short", "kept", "free", "free"]
def repD (t : Tm) : Str := (dat t).shown
section
variable {P : Program} {w : World} {K : PySem.W.Frag} {mg : Str → Option Value} {base : Heap} {f : Addr} {fd : FuncData}
theorem ok_law (F : FnP K "law" sLaw f fd) (Y : Fx w K mg) : FnG P w K mg base 63 f fd ["_law_script"] (spLaw K) := by
  obtain ⟨dS, FS⟩ := Y.dLawSource
  obtain ⟨dP, FP⟩ := Y.dLawPick
  obtain ⟨dFr, FFr⟩ := Y.dLawFrame
  obtain ⟨dTm, FTm⟩ := Y.dLawTerm
  obtain ⟨dSe, FSe⟩ := Y.dLawSomeEnds
  obtain ⟨dLA, FLA⟩ := Y.dLawAllParts
  obtain ⟨dLH, FLH⟩ := Y.dLawHas
  obtain ⟨dLO, FLO⟩ := Y.dLawOnce
  obtain ⟨dLL, FLL⟩ := Y.dLawLed
  obtain ⟨dIF, FIF⟩ := Y.dIsFlat
  obtain ⟨dIS, FIS⟩ := Y.dIsShort
  obtain ⟨dIK, FIK⟩ := Y.dIsKept
  obtain ⟨dIP, FIP⟩ := Y.dIsPlain
  obtain ⟨dSz, FSz⟩ := Y.dSize
  obtain ⟨dLI, FLI⟩ := Y.dLettersIn
  obtain ⟨dSI, FSI⟩ := Y.dSortsIn
  obtain ⟨dLd, FLd⟩ := Y.dLedTerm
  have bS := FunD.bindsN (ps := ["_law_script"]) FS fun _ _ _ _ _ _ us hl => match us, hl with | [_], _ => rfl
  have bP := FunD.bindsN (ps := ["_law_source_here", "_law_many"]) FP fun _ _ _ _ _ _ us hl => match us, hl with | [_, _], _ => rfl
  have bFr := FunD.bindsN (ps := ["_law_source_here", "_law_sorts", "_law_letters"]) FFr fun _ _ _ _ _ _ us hl => match us, hl with | [_, _, _], _ => rfl
  have bTm := FunD.bindsN (ps := PTm) FTm fun _ _ _ _ _ _ us hl => match us, hl with | [_, _, _, _, _], _ => rfl
  have bSe := FunD.bindsN (ps := ["_law_source_here", "_law_frame_here"]) FSe fun _ _ _ _ _ _ us hl => match us, hl with | [_, _], _ => rfl
  have bLA := FunD.bindsN (ps := ["_law_term_here"]) FLA fun _ _ _ _ _ _ us hl => match us, hl with | [_], _ => rfl
  have bLH := FunD.bindsN (ps := ["_law_term_here", "_law_words"]) FLH fun _ _ _ _ _ _ us hl => match us, hl with | [_, _], _ => rfl
  have bLO := FunD.bindsN (ps := ["_law_names_here"]) FLO fun _ _ _ _ _ _ us hl => match us, hl with | [_], _ => rfl
  have bLL := FunD.bindsN (ps := ["_law_term_here", "_law_letters", "_law_sorts"]) FLL fun _ _ _ _ _ _ us hl => match us, hl with | [_, _, _], _ => rfl
  have bIF := FunD.bindsN (ps := ["term"]) FIF fun _ _ _ _ _ _ us hl => match us, hl with | [_], _ => rfl
  have bIS := FunD.bindsN (ps := ["term"]) FIS fun _ _ _ _ _ _ us hl => match us, hl with | [_], _ => rfl
  have bIK := FunD.bindsN (ps := ["term"]) FIK fun _ _ _ _ _ _ us hl => match us, hl with | [_], _ => rfl
  have bIP := FunD.bindsN (ps := ["term"]) FIP fun _ _ _ _ _ _ us hl => match us, hl with | [_], _ => rfl
  have bSz := FunD.bindsN (ps := ["term"]) FSz fun _ _ _ _ _ _ us hl => match us, hl with | [_], _ => rfl
  have bLI := FunD.bindsN (ps := ["term"]) FLI fun _ _ _ _ _ _ us hl => match us, hl with | [_], _ => rfl
  have bSI := FunD.bindsN (ps := ["term"]) FSI fun _ _ _ _ _ _ us hl => match us, hl with | [_], _ => rfl
  have bLd := FunD.bindsN (ps := ["term", "letters", "sorts"]) FLd fun _ _ _ _ _ _ us hl => match us, hl with | [_, _, _], _ => rfl
  have GS : FnOk P w K mg base CX0 1 _ dS ["_law_script"] (spSrc K) := ok_src FS Y.bl
  have GP : FnOk P w K mg base CX0 1 _ dP ["_law_source_here", "_law_many"] spPick := ok_pick FP Y.bl
  have GFr : FnOk P w K mg base CX0 6 _ dFr ["_law_source_here", "_law_sorts", "_law_letters"] (spFr K) := ok_fr FFr Y
  have GTm : FnOk P w K mg base CX0 32 _ dTm PTm (spTm K 10) := ok_tm FTm Y 10
  have GSe : FnOk P w K mg base CX0 2 _ dSe ["_law_source_here", "_law_frame_here"] (spSe K) := ok_se FSe Y
  have GLA : FnOk P w K mg base CX0 61 _ dLA ["_law_term_here"] (spLA K 60) := ok_la FLA Y 60 (by decide)
  have GLH : FnOk P w K mg base CX0 62 _ dLH ["_law_term_here", "_law_words"] (spLH K) := ok_lh FLH Y
  have GLO : FnOk P w K mg base CX0 1 _ dLO ["_law_names_here"] (spWD K) := ok_lo FLO Y
  have GLL : FnOk P w K mg base CX0 61 _ dLL ["_law_term_here", "_law_letters", "_law_sorts"] (spLd K 60) := ok_ll FLL Y 60 (by decide)
  have GIF : FnOk P w K mg base CX0 6 _ dIF ["term"] (spBo K (noneOf NF)) := ok_if FIF Y
  have GIS : FnOk P w K mg base CX0 8 _ dIS ["term"] (spBo K (fun t => keptB t && noneOf NSh t)) := ok_is FIS Y
  have GIK : FnOk P w K mg base CX0 7 _ dIK ["term"] (spBo K keptB) := ok_ik FIK Y
  have GIP : FnOk P w K mg base CX0 6 _ dIP ["term"] (spBo K (noneOf NPl)) := ok_ip FIP Y
  have GSz : FnOk P w K mg base CX0 5 _ dSz ["term"] (spSz K) := ok_sz FSz Y
  have GLI : FnOk P w K mg base CX0 5 _ dLI ["term"] (spLs K letB) := ok_li FLI Y
  have GSI : FnOk P w K mg base CX0 5 _ dSI ["term"] (spLs K srtB) := ok_si FSI Y
  have GLd : FnOk P w K mg base CX0 61 _ dLd ["term", "letters", "sorts"] (spLd K 60) := ok_ld FLd Y 60 (by decide)
  refine okG F scLw (fun vs H Q E h => ?_) (fun cdv A outer s H vs Q E hgd hr h => ?_)
  · obtain ⟨a, ns, rfl, _⟩ := h
    rfl
  · have nd := scLw.nd
    have hu := hu_of hr
    have hu64 := hu64_of hr
    have hu66 : (A.deeper (envOfC "law" (defScope sLaw) s.heap.objs.size f cdv)).units + 66 < cLine := by have := hr.un; omega
    have hr1 : Room 1 _ := hr.mono (by decide)
    have hr2 : Room 2 _ := hr.mono (by decide)
    have hr5 : Room 5 _ := hr.mono (by decide)
    have hr6 : Room 6 _ := hr.mono (by decide)
    have hr7 : Room 7 _ := hr.mono (by decide)
    have hr8 : Room 8 _ := hr.mono (by decide)
    have hr32 : Room 32 _ := hr.mono (by decide)
    have hr61 : Room 61 _ := hr.mono (by decide)
    refine ⟨_, pss_cons (ps_set (i := 1) nd rfl (Or.inr rfl) (pe_call GS hr1 (by rfl) Y.gLawSource FS.kp bS .nil pass0 (pa_cons (pv 0) pa_nil)))
      (pss_cons (ps_for PassesOwn.never rfl (pi_range1 (by rfl) Y.bRange (pa_cons pe_int pa_nil)) (pg_name (i := 2) nd rfl (Or.inl rfl))
        (pss_cons (ps_set (i := 3) nd rfl (Or.inl rfl) (pe_call GFr hr6 (by rfl) Y.gLawFrame FFr.kp bFr .nil pass0 (pa_cons (pv 1) (pa_cons (pe_op op_add pe_int (pe_call GP hr1 (by rfl) Y.gLawPick FP.kp bP .nil pass0 (pa_cons (pv 1) (pa_cons pe_int pa_nil))))
            (pa_cons (pe_op op_add pe_int (pe_call GP hr1 (by rfl) Y.gLawPick FP.kp bP .nil pass0 (pa_cons (pv 1) (pa_cons pe_int pa_nil)))) pa_nil)))))
        (pss_cons (ps_set (i := 4) nd rfl (Or.inl rfl) (pe_ix ix_list (pe_lst (pa_cons pe_str (pa_cons pe_str (pa_cons pe_str (pa_cons pe_str (pa_cons pe_str pa_nil)))))) (pe_call GP hr1 (by rfl) Y.gLawPick FP.kp bP .nil pass0 (pa_cons (pv 1) (pa_cons pe_int pa_nil))) (fun _ _ => rfl)))
        (pss_cons (ps_set (i := 5) nd rfl (Or.inl rfl) (pe_call GTm hr32 (by rfl) Y.gLawTerm FTm.kp bTm .nil pass0 (pa_cons (pv 1) (pa_cons (pv 3) (pa_cons (pe_call GSe hr2 (by rfl) Y.gLawSomeEnds FSe.kp bSe .nil pass0 (pa_cons (pv 1) (pa_cons (pv 3) pa_nil)))
            (pa_cons (pe_op op_add pe_int (pe_call GP hr1 (by rfl) Y.gLawPick FP.kp bP .nil pass0 (pa_cons (pv 1) (pa_cons pe_int pa_nil)))) (pa_cons (pv 4) pa_nil)))))))
        (pss_cons (ps_if (pt_cmpR op_eq (pe_call GP hr1 (by rfl) Y.gLawPick FP.kp bP .nil pass0 (pa_cons (pv 1) (pa_cons pe_int pa_nil))) pe_int (nomark _)) (pss_one (ps_set (i := 5) nd rfl (Or.inl rfl) (pe_tup (pa_cons pe_str (pa_cons (pv 5) pa_nil))))) pss_nil)
        (pss_cons (ps_par (i := 6) (j := 7) (by rfl) nd rfl rfl (by decide) rfl rfl (pa_cons (pe_call GLA hr61 (by rfl) Y.gLawAllParts FLA.kp bLA .nil pass0 (pa_cons (pv 5) pa_nil)) (pa_cons (pe_callB (call_repr hgd hu66) (by rfl) Y.bRepr (by decide +kernel) (pa_cons (pv 5) pa_nil)) pa_nil)) (by rfl))
        (pss_cons (ps_set (i := 8) nd rfl (Or.inl rfl) (pe_not (pe_call GLH hr (by rfl) Y.gLawHas FLH.kp bLH .nil pass0 (pa_cons (pv 5) (pa_cons (pe_lst (pa_cons pe_str (pa_cons pe_str (pa_cons pe_str pa_nil)))) pa_nil)))))
        (pss_cons (ps_set (i := 9) nd rfl (Or.inl rfl) (pe_cmpR (op_eqD hu64) (pe_lc (own := [("_law_part", 10)]) (g := gName 10) (tt := ttStays K) (te := tVar 10) rfl nd (pi_list (pv 6)) (blkOk_by (N := NLw) (sc := defScope sLaw) (by decide +kernel)) (fun _ _ _ _ _ => pg_name (i := 10) nd rfl (Or.inl rfl))
            (fun _ _ _ _ _ => pts_one (pw_and (pt_cmpR op_eq (pe_ix ix_tup (pv 10) pe_int (fun _ _ => rfl)) pe_str (nomark _)) (pw_and1 (pt_val (pe_call GLH hr (by rfl) Y.gLawHas FLH.kp bLH .nil pass0 (pa_cons (pv 10) (pa_cons (pe_lst (pa_cons pe_str (pa_cons pe_str (pa_cons pe_str pa_nil)))) pa_nil)))))).pt) (fun _ _ _ _ _ => pv 10)) (pe_lst pa_nil) (nomark _)))
        (pss_cons (ps_set (i := 11) nd rfl (Or.inl rfl) (pe_not (pe_call GLH hr (by rfl) Y.gLawHas FLH.kp bLH .nil pass0 (pa_cons (pv 5) (pa_cons (pe_lst (pa_cons pe_str (pa_cons pe_str (pa_cons pe_str (pa_cons pe_str pa_nil))))) pa_nil)))))
        (pss_cons (ps_set (i := 12) nd rfl (Or.inl rfl) (pe_and (pv 9) (pe_one (pe_not (pe_call GLH hr (by rfl) Y.gLawHas FLH.kp bLH .nil pass0 (pa_cons (pv 5) (pa_cons (pe_lst (pa_cons pe_str (pa_cons pe_str pa_nil))) pa_nil)))))))
        (pss_cons (ps_set (i := 13) nd rfl (Or.inl rfl) (pe_lst (pa_cons (pe_call GIF hr6 (by rfl) Y.gIsFlat FIF.kp bIF .nil pass0 (pa_cons (pv 5) pa_nil)) (pa_cons (pe_call GIS hr8 (by rfl) Y.gIsShort FIS.kp bIS .nil pass0 (pa_cons (pv 5) pa_nil))
            (pa_cons (pe_call GIK hr7 (by rfl) Y.gIsKept FIK.kp bIK .nil pass0 (pa_cons (pv 5) pa_nil)) (pa_cons (pe_call GIP hr6 (by rfl) Y.gIsPlain FIP.kp bIP .nil pass0 (pa_cons (pv 5) pa_nil)) (pa_cons (pe_call GSz hr5 (by rfl) Y.gSize FSz.kp bSz .nil pass0 (pa_cons (pv 5) pa_nil)) pa_nil)))))))
        (pss_cons (ps_if (pt_cmpR op_ne (pe_callB (call_repr hgd hu66) (by rfl) Y.bRepr (by decide +kernel) (pa_cons (pv 13) pa_nil)) (pe_callB (call_repr hgd hu66) (by rfl) Y.bRepr (by decide +kernel) (pa_cons (pe_lst (pa_cons (pv 8) (pa_cons (pv 12) (pa_cons (pv 9) (pa_cons (pv 11)
            (pa_cons (pe_callB call_len_seq (by rfl) Y.bLen PySem.boot_len (pa_cons (pv 6) pa_nil)) pa_nil)))))) pa_nil)) (nomark _)) (pss_one (ps_ret pe_bl)) pss_nil)
        (pss_cons (ps_setLc (i := 14) (own := [("_law_part", 10)]) (g := gName 10) (tt := ttLet K) (te := tOp (rIxT K) (tVar 10) (tC (.int 1))) rfl nd rfl rfl (by rfl) (pi_list (pv 6)) (blkOk_by (N := NLw) (sc := defScope sLaw) (by decide +kernel)) (fun _ _ _ _ _ => pg_name (i := 10) nd rfl (Or.inl rfl))
            (fun _ _ _ _ _ => pts_one (pt_cmpR op_eq (pe_ix ix_tup (pv 10) pe_int (fun _ _ => rfl)) pe_str (nomark _))) (fun _ _ _ _ _ => pe_ix ix_tup (pv 10) pe_int (fun _ _ => rfl)))
        (pss_cons (ps_set (i := 15) nd rfl (Or.inl rfl) (pe_lst pa_nil))
        (pss_cons (ps_for PassesOwn.never rfl (pi_list (pv 6)) (pg_name (i := 10) nd rfl (Or.inl rfl)) (pss_one (ps_set (i := 15) nd rfl (Or.inl rfl) (pe_op op_cat (pv 15) (pe_op op_rep (pe_callTy call_list_of (by rfl) Y.bList boot_list (pa_cons (pe_slice sl_tupA (pv 10) (po_some pe_int) po_none) pa_nil))
            (pe_callTy call_int1 (by rfl) Y.bInt boot_int (pa_cons (pe_cmpR op_in_seq (pe_ix ix_tup (pv 10) pe_int (fun _ _ => rfl)) (pe_lst (pa_cons pe_str (pa_cons pe_str (pa_cons pe_str (pa_cons pe_str pa_nil))))) (by rfl)) pa_nil)))))))
        (pss_cons (ps_if (pw_or (pt_cmpR (op_neD hu64) (pe_call GLI hr5 (by rfl) Y.gLettersIn FLI.kp bLI .nil pass0 (pa_cons (pv 5) pa_nil)) (pe_call GLO hr1 (by rfl) Y.gLawOnce FLO.kp bLO .nil pass0 (pa_cons (pv 14) pa_nil)) (nomark _))
            (pw_or1 (pt_cmpR (op_neD hu64) (pe_call GSI hr5 (by rfl) Y.gSortsIn FSI.kp bSI .nil pass0 (pa_cons (pv 5) pa_nil)) (pe_call GLO hr1 (by rfl) Y.gLawOnce FLO.kp bLO .nil pass0 (pa_cons (pv 15) pa_nil)) (nomark _)))).pt (pss_one (ps_ret pe_bl)) pss_nil)
        (pss_cons (ps_expr (pe_bm PySem.F.plainAttrs_list PySem.F.slot_list_append PySem.F.type_list_append mt_append (pe_call GLI hr5 (by rfl) Y.gLettersIn FLI.kp bLI .nil pass0 (pa_cons (pv 5) pa_nil)) (pa_cons pe_non pa_nil)))
        (pss_cons (ps_set (i := 16) nd rfl (Or.inl rfl) (pe_callTy (call_dictP rfl) (by rfl) Y.bDict PyProof.Rows.boot_dict (pa_cons (pe_lc (own := [("_law_name", 17)]) (g := gName 17) (tt := tYes) (te := teLet K) rfl nd (pi_list (pe_slice sl_list (pe_dget hu (pv 3) pe_str nosl) (po_some pe_int) po_none)) (blkOk_by (N := NLw) (sc := defScope sLaw) (by decide +kernel))
            (fun _ _ _ _ _ => pg_name (i := 17) nd rfl (Or.inl rfl)) (fun _ _ _ _ _ => pts_nil) (fun _ _ _ _ _ => pe_tup (pa_cons (pv 17) (pa_cons (pe_ix ix_list (pe_lst (pa_cons pe_str (pa_cons pe_str (pa_cons (pv 17) pa_nil)))) (pe_call GP hr1 (by rfl) Y.gLawPick FP.kp bP .nil pass0 (pa_cons (pv 1) (pa_cons pe_int pa_nil))) (fun _ _ => rfl)) pa_nil)))) pa_nil)))
        (pss_cons (ps_set (i := 18) nd rfl (Or.inl rfl) (pe_callTy (call_dictP rfl) (by rfl) Y.bDict PyProof.Rows.boot_dict (pa_cons (pe_lc (own := [("_law_sort", 19)]) (g := gName 19) (tt := tYes) (te := teEnd K) rfl nd (pi_list (pe_slice sl_list (pe_dget hu (pv 3) pe_str nosl) po_none (po_some pe_int))) (blkOk_by (N := NLw) (sc := defScope sLaw) (by decide +kernel))
            (fun _ _ _ _ _ => pg_name (i := 19) nd rfl (Or.inl rfl)) (fun _ _ _ _ _ => pts_nil) (fun _ _ _ _ _ => pe_tup (pa_cons (pv 19) (pa_cons (pe_ix ix_list (pe_lst (pa_cons pe_str (pa_cons pe_str (pa_cons pe_str pa_nil)))) (pe_call GP hr1 (by rfl) Y.gLawPick FP.kp bP .nil pass0 (pa_cons (pv 1) (pa_cons pe_int pa_nil))) (fun _ _ => rfl)) pa_nil)))) pa_nil)))
        (pss_cons (ps_set (i := 20) nd rfl (Or.inl rfl) (pe_callB (call_reprD hgd hu66) (by rfl) Y.bRepr (by decide +kernel) (pa_cons (pe_lst (pa_cons (pv 16) (pa_cons (pv 18) pa_nil))) pa_nil)))
        (pss_cons (ps_if (pw_or (pt_cmpR (op_neD hu64) (pe_call GLd hr61 (by rfl) Y.gLedTerm FLd.kp bLd .nil pass0 (pa_cons (pv 5) (pa_cons (pv 16) (pa_cons (pv 18) pa_nil)))) (pe_call GLL hr61 (by rfl) Y.gLawLed FLL.kp bLL .nil pass0 (pa_cons (pv 5) (pa_cons (pv 16) (pa_cons (pv 18) pa_nil)))) (nomark _))
            (pw_or1 (pt_cmpR (op_neD hu64) (pe_call GLd hr61 (by rfl) Y.gLedTerm FLd.kp bLd .nil pass0 (pa_cons (pv 5) (pa_cons pe_dnewK (pa_cons pe_dnewK pa_nil)))) (pv 5) (nomark _)))).pt (pss_one (ps_ret pe_bl)) pss_nil)
        (pss_one (ps_if (pw_or (pt_cmpR op_ne (pe_callB (call_repr hgd hu66) (by rfl) Y.bRepr (by decide +kernel) (pa_cons (pv 5) pa_nil)) (pv 7) (nomark _))
            (pw_or1 (pt_cmpR op_ne (pe_callB (call_reprD hgd hu66) (by rfl) Y.bRepr (by decide +kernel) (pa_cons (pe_lst (pa_cons (pv 16) (pa_cons (pv 18) pa_nil))) pa_nil)) (pv 20) (nomark _)))).pt (pss_one (ps_ret pe_bl)) pss_nil)))))))))))))))))))))))
      (pss_one (ps_ret pe_bl))), ?_⟩
    obtain ⟨a, ns, rfl, ha, ln, k⟩ := h
    refine ⟨_, rfl, a, ns, rfl, ha, ln, fun d c H1 s1 hd hc src => ?_⟩
    dsimp only [gName]
    refine ⟨5, rfl, by decide, by decide, for_range (lo := 0) (n := 5) (fun i σ G => (∃ v2 v3 v4 v5 v6 v7 v8 v9 v10 v11 v12 v13 v14 v15 v16 v17 v18 v19 v20, σ = lst21 a d v2 v3 v4 v5 v6 v7 v8 v9 v10 v11 v12 v13 v14 v15 v16 v17 v18 v19 v20) ∧ SrcAt G d c)
      ⟨⟨none, none, none, none, none, none, none, none, none, none, none, none, none, none, none, none, none, none, none, rfl⟩, src⟩ ?_ (fun σ G _ => k G)⟩
    clear src s1 H1 hd hc
    rintro i σ G hi ⟨⟨v2, v3, v4, v5, v6, v7, v8, v9, v10, v11, v12, v13, v14, v15, v16, v17, v18, v19, v20, rfl⟩, src⟩
    dsimp only [gName]
    -- the frame
    refine seq_any (fun σ' G' => ∃ (e : Addr) (xs : List Str) (ls : List Lt) (v2 : Option V), σ' = lst21 a d v2 (some (.ref e)) v4 v5 v6 v7 v8 v9 v10 v11 v12 v13 v14 v15 v16 v17 v18 v19 v20 ∧ SrcAt G' d c ∧ FrAt K (hid d c G') e xs ls ∧ 1 ≤ ls.length ∧ xs.length ≤ 3 ∧ ls.length ≤ 4) ?_ ?_
    rotate_left
    · intro nx hnx
      refine ⟨_, rfl, _, rfl, d, c, 3, rfl, src, by decide, by decide, fun r G1 r0 r1 src1 keep1 => ?_⟩
      refine ⟨_, _, rfl, rfl, _, rfl, d, c, 4, rfl, src1, by decide, by decide, fun r2 G2 r20 r21 src2 keep2 => ?_⟩
      obtain ⟨j, rfl⟩ : ∃ j : Nat, r = (j : Int) := ⟨r.toNat, by omega⟩
      obtain ⟨j2, rfl⟩ : ∃ j : Nat, r2 = (j : Int) := ⟨r2.toNat, by omega⟩
      refine ⟨_, _, rfl, rfl, d, c, 1 + j, 1 + j2, by rw [show ((1 + j : Nat) : Int) = 1 + (j : Int) by omega, show ((1 + j2 : Nat) : Int) = 1 + (j2 : Int) by omega]; rfl, src2, by omega, by omega, by omega, by omega, fun e xs ls G3 src3 sm3 fr3 ex lm => ?_⟩
      have lx : xs.length ≤ 3 := by rw [ex, List.length_take]; show min _ 3 ≤ 3; omega
      exact hnx _ _ ⟨e, xs, ls, _, rfl, src3, fr3, by omega, lx, by omega⟩
    clear src G v2 v3
    rintro σ G ⟨e, xs, ls, v2, rfl, src, fr, l1, lx3, l4⟩
    -- the kind
    refine seq_any (fun σ' G' => ∃ kd : Str, σ' = lst21 a d v2 (some (.ref e)) (some (.str kd)) v5 v6 v7 v8 v9 v10 v11 v12 v13 v14 v15 v16 v17 v18 v19 v20 ∧ SrcAt G' d c ∧ FrAt K (hid d c G') e xs ls) ?_ ?_
    rotate_left
    · intro nx hnx
      refine ⟨szl (by show 5 ≤ 1000; decide), fun l0 hl0 => ?_⟩
      have nl := new_h (.lst (KDS.map V.str)) src hl0
      refine ⟨_, rfl, d, c, 5, rfl, nl.src, by decide, by decide, fun r G1 r0 r1 src1 keep1 => ?_⟩
      obtain ⟨j, rfl⟩ : ∃ j : Nat, r = (j : Int) := ⟨r.toNat, by omega⟩
      have lj : j < KDS.length := by show j < 5; omega
      have el : G1 l0 = some (.lst (KDS.map V.str)) := (keep1 l0 nl.nd nl.nc).trans upd_same
      refine ⟨l0, _, _, _, rfl, rfl, SqL.of el, str_ix lj, ?_⟩
      exact hnx _ _ ⟨_, rfl, src1, by rw [hid_pick keep1]; exact fr.same nl.sm⟩
    clear src fr G v4
    rintro σ G ⟨kd, rfl, src, fr⟩
    -- the term
    refine seq_any (fun σ' G' => ∃ (u : Addr) (t : Tm), σ' = lst21 a d v2 (some (.ref e)) (some (.str kd)) (some (.ref u)) v6 v7 v8 v9 v10 v11 v12 v13 v14 v15 v16 v17 v18 v19 v20 ∧ SrcAt G' d c ∧ FrAt K (hid d c G') e xs ls ∧ TmAt K (hid d c G') u t ∧ Rt t ∧ t.sz ≤ 30) ?_ ?_
    rotate_left
    · intro nx hnx
      refine ⟨_, rfl, _, rfl, _, rfl, _, rfl, d, c, e, xs, ls, rfl, src, fr, l1, fun q x y G1 src1 sm1 hq hx hy => ?_⟩
      refine ⟨_, rfl, d, c, 9, rfl, src1, by decide, by decide, fun r G2 r0 r1 src2 keep2 => ?_⟩
      obtain ⟨j, rfl⟩ : ∃ j : Nat, r = (j : Int) := ⟨r.toNat, by omega⟩
      have eh := hid_pick keep2
      refine ⟨_, _, rfl, rfl, _, rfl, d, c, e, q, 1 + j, kd, xs, ls, x, y, by rw [show ((1 + j : Nat) : Int) = 1 + (j : Int) by omega]; rfl, by omega, by omega, by omega, src2, by rw [eh]; exact fr.same sm1, by rw [eh]; exact hq, hx, hy, fun u G3 src3 sm3 ⟨t, g1, g2, g3⟩ => ?_⟩
      rw [eh] at sm3
      exact hnx _ _ ⟨u, t, rfl, src3, fr.same (sm1.trans sm3), g1, g2.rt fr.ok, by unfold szR at g3; omega⟩
    clear src fr G v5
    rintro σ G ⟨u, t, rfl, src, fr, ht, rt, zt⟩
    -- perhaps its rest
    refine seq_any (fun σ' G' => ∃ (u : Addr) (t : Tm), σ' = lst21 a d v2 (some (.ref e)) (some (.str kd)) (some (.ref u)) v6 v7 v8 v9 v10 v11 v12 v13 v14 v15 v16 v17 v18 v19 v20 ∧ SrcAt G' d c ∧ FrAt K (hid d c G') e xs ls ∧ TmAt K (hid d c G') u t ∧ Rt t ∧ t.sz ≤ 31) ?_ ?_
    rotate_left
    · intro nx hnx
      refine ⟨_, rfl, d, c, 3, rfl, src, by decide, by decide, fun r G1 r0 r1 src1 keep1 => ?_⟩
      have eh := hid_pick keep1
      rw [← eh] at fr ht
      refine ⟨rfl, _, rfl, ite2 (fun _ => ?_) (fun _ => ?_)⟩
      · refine ⟨_, rfl, szl (by show 2 ≤ 1000; decide), fun T hT => ?_⟩
        have nT := new_h (.tup [V.str "rest", V.ref u]) src1 hT
        exact hnx _ _ ⟨T, .one "rest" t, rfl, nT.src, fr.same nT.sm, ⟨u, SqT.of nT.at_, ht.same nT.sm⟩, ⟨.inl rfl, rt⟩, by show 1 + t.sz ≤ 31; omega⟩
      · exact hnx _ _ ⟨u, t, rfl, src1, fr, ht, rt, by omega⟩
    clear src fr ht rt zt u t G
    rintro σ G ⟨u, t, rfl, src, fr, htH, rt, zt⟩
    have ht : TmAt K G u t := htH.same hid_sub
    -- all parts, the text
    refine seq_any (fun σ' G' => ∃ (L : Addr) (us : List Addr), σ' = lst21 a d v2 (some (.ref e)) (some (.str kd)) (some (.ref u)) (some (.ref L)) (some (.str (repD t))) v8 v9 v10 v11 v12 v13 v14 v15 v16 v17 v18 v19 v20 ∧ Same G G' ∧ G' L = some (.lst (us.map V.ref)) ∧ Tms K G' us t.pre) ?_ ?_
    rotate_left
    · intro nx hnx
      refine ⟨_, rfl, u, t, rfl, ht, rt, by omega, fun L us G1 s1 hL eL hT => ?_⟩
      have fn := fine_tm rt
      refine ⟨_, rfl, _, dat t, rfl, dp_tm (ht.same s1), ⟨u, rfl⟩, fn.sho, PyData.hasDict_of_canLay _ fn.lay, Nat.le_trans fn.dep (by omega), fn.len (by omega), ?_⟩
      exact ⟨_, _, rfl, hnx _ _ ⟨L, us, rfl, s1, eL, hT⟩⟩
    clear v6 v7
    rintro σ G1 ⟨L, us, rfl, s1, eL, hT⟩
    have htB := ht.same s1
    have srcB := src_same s1 src
    have frB := fr.same (hid_same (d := d) (c := c) s1)
    have htBH := htH.same (hid_same (d := d) (c := c) s1)
    clear ht src fr htH s1 G
    obtain ⟨B, eB⟩ : ∃ Z, Z = G1 := ⟨_, rfl⟩
    rw [← eB] at eL hT htB srcB frB htBH
    have s1 : Same B G1 := eB ▸ Same.refl _
    clear eB
    -- flat
    refine seq_any (fun σ' G' => σ' = lst21 a d v2 (some (.ref e)) (some (.str kd)) (some (.ref u)) (some (.ref L)) (some (.str (repD t))) (some (.bl (!hasB NF t))) v9 v10 v11 v12 v13 v14 v15 v16 v17 v18 v19 v20 ∧ Same B G') ?_ ?_
    rotate_left
    · intro nx hnx
      refine ⟨_, rfl, szl (by show 3 ≤ 1000; decide), fun l hl => ?_⟩
      have sl := same_upd (o := .lst (NF.map V.str)) hl
      refine ⟨u, l, t, NF, rfl, htB.same (s1.trans sl), rt, by omega, SqL.of upd_same, fun G9 s9 => ⟨_, rfl, ?_⟩⟩
      exact hnx _ _ ⟨rfl, s1.trans (sl.trans s9)⟩
    rintro σ G2 ⟨rfl, s2⟩
    -- stays
    refine seq_any (fun σ' G' => σ' = lst21 a d v2 (some (.ref e)) (some (.str kd)) (some (.ref u)) (some (.ref L)) (some (.str (repD t))) (some (.bl (!hasB NF t))) (some (.bl (staysB t))) v10 v11 v12 v13 v14 v15 v16 v17 v18 v19 v20 ∧ Same B G') ?_ ?_
    rotate_left
    · intro nx hnx
      refine ⟨_, rfl, L, rfl, ⟨_, SqL.of (s2 _ _ eL)⟩, fun D hD => ?_⟩
      refine lc_list (K := K) (a := L) (xs := us.map V.ref) (fun i G => ∃ vs : List Addr, G D = some (.lst (vs.map V.ref)) ∧ Tms K G vs ((t.pre.take i).filter fun z => isRest z && hasB NF z) ∧ vs.length ≤ i ∧ Same G2 G) ⟨[], upd_same, .nil, Nat.le_refl _, same_upd hD⟩ (fun i G _ ⟨_, _, _, _, q⟩ => q.seq (SqL.of (s2 _ _ eL))) ?_ ?_
      · rintro i v G hi ⟨vs, e1, hV, lv, sm2⟩
        have sm := s2.trans sm2
        obtain ⟨r, er, rfl⟩ := ref_at hi
        obtain ⟨z, ez, hz⟩ := hT.get er
        have hz2 := hz.same sm
        obtain ⟨us2, hv, _⟩ := hz2.view
        have li := (List.getElem?_eq_some_iff.mp ez).1
        rw [pre_len] at li
        have hm := List.mem_of_getElem? ez
        have tk : ∀ b, (isRest z && hasB NF z) = b → (t.pre.take (i + 1)).filter (fun z => isRest z && hasB NF z) = (t.pre.take i).filter (fun z => isRest z && hasB NF z) ++ if b = true then [z] else [] := fun b hb => by
          rw [List.take_add_one, ez, List.filter_append]
          cases b <;> simp [hb]
        have fin : ∀ (G9 : Hp), Same G G9 → (isRest z && hasB NF z) = false → (∃ vs : List Addr, G9 D = some (.lst (vs.map V.ref)) ∧ Tms K G9 vs ((t.pre.take (i + 1)).filter fun z => isRest z && hasB NF z) ∧ vs.length ≤ i + 1 ∧ Same G2 G9) := fun G9 s9 hb => ⟨vs, s9 _ _ e1, by rw [tk _ hb, if_neg Bool.false_ne_true, List.append_nil]; exact hV.same s9, Nat.le_succ_of_le lv, sm2.trans s9⟩
        refine ⟨rfl, ?_⟩
        refine ⟨_, rfl, r, _, 0, _, rfl, rfl, hv, atI_0 _ _, rfl, _, rfl, ite2 (fun hc => ?_) (fun hc => ?_)⟩
        · have ew : isRest z = true := by
            have q : V.str z.hd = V.str "rest" := of_decide_eq_true hc
            injection q with q
            exact decide_eq_true q
          refine ⟨_, rfl, szl (by show 3 ≤ 1000; decide), fun l hl => ?_⟩
          have sl := same_upd (o := .lst (NF.map V.str)) hl
          refine ⟨r, l, z, NF, rfl, hz2.same sl, rt.pre z hm, Nat.le_trans (sz_pre hm) (by omega), SqL.of upd_same, fun G9 s9 => ⟨_, rfl, ite2 (fun hc2 => ?_) (fun hc2 => ?_)⟩⟩
          · have e9 := s9 _ _ (sl _ _ e1)
            have hb : (isRest z && hasB NF z) = true := by rw [ew, hc2]; rfl
            refine ⟨_, rfl, _, e9, ?_, vs ++ [r], ?_, ?_, ?_, ?_⟩
            · rw [List.length_map]
              exact small1000 (by omega)
            · rw [upd_same, List.map_append]
              rfl
            · rw [tk _ hb, if_pos rfl]
              exact ((hV.same (sl.trans s9)).app (.cons (hz2.same (sl.trans s9)) .nil)).put e9
            · rw [List.length_append]
              exact Nat.succ_le_succ lv
            · exact same_put hD (sm2.trans (sl.trans s9))
          · exact fin _ (sl.trans s9) (by rw [ew, Bool.true_and]; exact Bool.eq_false_iff.mpr hc2)
        · have ew : isRest z = false := by
            refine Bool.eq_false_iff.mpr fun q => hc ?_
            show decide (V.str z.hd = V.str "rest") = true
            rw [of_decide_eq_true (p := z.hd = "rest") q]
            exact decide_eq_true rfl
          exact fin _ (Same.refl _) (by rw [ew]; rfl)
      · rintro G ⟨vs, e1, hV, _, sm⟩
        rw [List.length_map, hT.len, List.take_length] at hV
        refine ⟨szl (by show 0 ≤ 1000; decide), fun p hp => ?_⟩
        have sp := same_upd (o := .lst []) hp
        refine eq_tms (n := 60) (as := vs) (fun z hz => ?_) (by decide) (SqL.of (sp _ _ e1)) (hV.same sp) (SqL.of upd_same) ?_
        · have hm : z ∈ t.pre := (List.mem_filter.mp hz).1
          exact ⟨rt.pre z hm, Nat.le_trans (sz_pre hm) (by omega)⟩
        · exact hnx _ _ ⟨rfl, s2.trans (sm.trans sp)⟩
    rintro σ G3 ⟨rfl, s3⟩
    -- plain
    refine seq_any (fun σ' G' => σ' = lst21 a d v2 (some (.ref e)) (some (.str kd)) (some (.ref u)) (some (.ref L)) (some (.str (repD t))) (some (.bl (!hasB NF t))) (some (.bl (staysB t))) v10 (some (.bl (!hasB NPl t))) v12 v13 v14 v15 v16 v17 v18 v19 v20 ∧ Same B G') ?_ ?_
    rotate_left
    · intro nx hnx
      refine ⟨_, rfl, szl (by show 4 ≤ 1000; decide), fun l hl => ?_⟩
      have sl := same_upd (o := .lst (NPl.map V.str)) hl
      refine ⟨u, l, t, NPl, rfl, htB.same (s3.trans sl), rt, by omega, SqL.of upd_same, fun G9 s9 => ⟨_, rfl, ?_⟩⟩
      exact hnx _ _ ⟨rfl, s3.trans (sl.trans s9)⟩
    rintro σ G4 ⟨rfl, s4⟩
    -- short
    refine seq_any (fun σ' G' => σ' = lst21 a d v2 (some (.ref e)) (some (.str kd)) (some (.ref u)) (some (.ref L)) (some (.str (repD t))) (some (.bl (!hasB NF t))) (some (.bl (staysB t))) v10 (some (.bl (!hasB NPl t))) (some (.bl (staysB t && !hasB NSh t))) v13 v14 v15 v16 v17 v18 v19 v20 ∧ Same B G') ?_ ?_
    rotate_left
    · intro nx hnx
      refine ⟨_, rfl, _, rfl, ite2 (fun hc => ?_) (fun hc => ?_)⟩
      · refine ⟨_, rfl, szl (by show 2 ≤ 1000; decide), fun l hl => ?_⟩
        have sl := same_upd (o := .lst (NSh.map V.str)) hl
        refine ⟨u, l, t, NSh, rfl, htB.same (s4.trans sl), rt, by omega, SqL.of upd_same, fun G9 s9 => ⟨_, rfl, ?_⟩⟩
        refine hnx _ _ ⟨?_, s4.trans (sl.trans s9)⟩
        rw [hc, Bool.true_and]
        rfl
      · refine hnx _ _ ⟨?_, s4⟩
        rw [Bool.eq_false_iff.mpr hc, Bool.false_and]
        rfl
    rintro σ G5 ⟨rfl, s5⟩
    -- told
    refine seq_any (fun σ' G' => ∃ D13 : Addr, σ' = lst21 a d v2 (some (.ref e)) (some (.str kd)) (some (.ref u)) (some (.ref L)) (some (.str (repD t))) (some (.bl (!hasB NF t))) (some (.bl (staysB t))) v10 (some (.bl (!hasB NPl t))) (some (.bl (staysB t && !hasB NSh t))) (some (.ref D13)) v14 v15 v16 v17 v18 v19 v20 ∧ Same B G' ∧ G' D13 = some (.lst [.bl (noneOf NF t), .bl (keptB t && noneOf NSh t), .bl (keptB t), .bl (noneOf NPl t), .int (t.sz : Int)])) ?_ ?_
    rotate_left
    · intro nx hnx
      have z4 : t.sz ≤ 400 := by omega
      refine ⟨_, rfl, u, t, rfl, htB.same s5, rt, z4, fun A1 q1 => ?_⟩
      replace q1 := s5.trans q1
      refine ⟨_, rfl, u, t, rfl, htB.same q1, rt, z4, fun A2 q2 => ?_⟩
      replace q2 := q1.trans q2
      refine ⟨_, rfl, u, t, rfl, htB.same q2, rt, z4, fun A3 q3 => ?_⟩
      replace q3 := q2.trans q3
      refine ⟨_, rfl, u, t, rfl, htB.same q3, rt, z4, fun A4 q4 => ?_⟩
      replace q4 := q3.trans q4
      refine ⟨_, rfl, u, t, rfl, htB.same q4, rt, z4, fun A5 q5 => ?_⟩
      replace q5 := q4.trans q5
      refine ⟨szl (by show 5 ≤ 1000; decide), fun p hp => ?_⟩
      exact hnx _ _ ⟨p, rfl, q5.trans (same_upd hp), upd_same⟩
    rintro σ G6 ⟨D13, rfl, s6, e13⟩
    -- told compared
    refine seq_any (fun σ' G' => σ' = lst21 a d v2 (some (.ref e)) (some (.str kd)) (some (.ref u)) (some (.ref L)) (some (.str (repD t))) (some (.bl (!hasB NF t))) (some (.bl (staysB t))) v10 (some (.bl (!hasB NPl t))) (some (.bl (staysB t && !hasB NSh t))) (some (.ref D13)) v14 v15 v16 v17 v18 v19 v20 ∧ Same B G') ?_ ?_
    rotate_left
    · intro nx hnx
      have fa := told_fine (noneOf NF t) (keptB t && noneOf NSh t) (keptB t) (noneOf NPl t) t.sz (by omega)
      have ee : toldD (!hasB NF t) (staysB t && !hasB NSh t) (staysB t) (!hasB NPl t) t.sz = toldD (noneOf NF t) (keptB t && noneOf NSh t) (keptB t) (noneOf NPl t) t.sz := by rw [none_has, none_has, none_has, kept_stays rt]
      refine ⟨_, rfl, _, toldD (noneOf NF t) (keptB t && noneOf NSh t) (keptB t) (noneOf NPl t) t.sz, rfl, .lst (SqL.of e13) (.cons (.bl _) (.cons (.bl _) (.cons (.bl _) (.cons (.bl _) (.cons (.int _) .nil))))), ⟨_, rfl⟩, fa.1, fa.2.1, fa.2.2.1, fa.2.2.2, ?_⟩
      refine ⟨_, rfl, _, rfl, _, rfl, _, rfl, _, rfl, L, _, rfl, .inl (SqL.of (s6 _ _ eL)), szl (by show 5 ≤ 1000; decide), fun p hp => ?_⟩
      rw [List.length_map, hT.len, pre_len]
      have fb := ee ▸ fa
      refine ⟨_, toldD (!hasB NF t) (staysB t && !hasB NSh t) (staysB t) (!hasB NPl t) t.sz, rfl, .lst (SqL.of upd_same) (.cons (.bl _) (.cons (.bl _) (.cons (.bl _) (.cons (.bl _) (.cons (.int _) .nil))))), ⟨_, rfl⟩, by rw [ee]; exact fa.1, by rw [ee]; exact fa.2.1, by rw [ee]; exact fa.2.2.1, by rw [ee]; exact fa.2.2.2, ?_⟩
      rw [ee]
      refine ⟨rfl, _, rfl, ?_⟩
      rw [decide_eq_true rfl]
      exact iteF (hnx _ _ ⟨rfl, s6.trans (same_upd hp)⟩)
    rintro σ G7 ⟨rfl, s7⟩
    -- letters
    refine seq_any (fun σ' G' => ∃ D14 : Addr, σ' = lst21 a d v2 (some (.ref e)) (some (.str kd)) (some (.ref u)) (some (.ref L)) (some (.str (repD t))) (some (.bl (!hasB NF t))) (some (.bl (staysB t))) v10 (some (.bl (!hasB NPl t))) (some (.bl (staysB t && !hasB NSh t))) (some (.ref D13)) (some (.ref D14)) v15 v16 v17 v18 v19 v20 ∧ Same B G' ∧ G' D14 = some (.lst ((lets t.pre).map V.str))) ?_ ?_
    rotate_left
    · intro nx hnx
      refine ⟨_, rfl, L, rfl, ⟨_, SqL.of (s7 _ _ eL)⟩, fun D hD => ?_⟩
      refine lc_list (K := K) (a := L) (xs := us.map V.ref) (fun i G => G D = some (.lst ((lets (t.pre.take i)).map V.str)) ∧ (lets (t.pre.take i)).length ≤ i ∧ Same G7 G) ⟨upd_same, Nat.le_refl _, same_upd hD⟩ (fun i G _ q => q.2.2.seq (SqL.of (s7 _ _ eL))) ?_ ?_
      · rintro i v G hi ⟨e1, lv, sm⟩
        obtain ⟨r, er, rfl⟩ := ref_at hi
        obtain ⟨z, ez, hz⟩ := hT.get er
        have hz2 := hz.same (s7.trans sm)
        obtain ⟨us2, hv, _⟩ := hz2.view
        have li := (List.getElem?_eq_some_iff.mp ez).1
        rw [pre_len] at li
        have hRz := rt.pre z (List.mem_of_getElem? ez)
        refine ⟨rfl, ?_⟩
        refine ⟨_, rfl, r, _, 0, _, rfl, rfl, hv, atI_0 _ _, rfl, _, rfl, ite2 (fun hc => ?_) (fun hc => ?_)⟩
        · have ew : z.hd = "letter" := by
            have q : V.str z.hd = V.str "letter" := of_decide_eq_true hc
            injection q
          obtain ⟨n, rfl, _⟩ := hRz.letter ew
          refine ⟨_, rfl, r, _, 1, _, rfl, rfl, hz2, rfl, ?_⟩
          refine ⟨_, e1, ?_, ?_, ?_, same_put hD sm⟩
          · rw [List.length_map]
            exact small1000 (by omega)
          · rw [upd_same, lets_yes ez (decide_eq_true rfl), List.map_append]
            rfl
          · rw [lets_yes ez (decide_eq_true rfl), List.length_append]
            exact Nat.succ_le_succ lv
        · have q : isLet z = false := by
            refine Bool.eq_false_iff.mpr fun q => hc ?_
            show decide (V.str z.hd = V.str "letter") = true
            rw [of_decide_eq_true (p := z.hd = "letter") q]
            exact decide_eq_true rfl
          refine ⟨?_, ?_, sm⟩
          · rw [lets_no ez q]
            exact e1
          · rw [lets_no ez q]
            exact Nat.le_succ_of_le lv
      · rintro G ⟨e1, _, sm⟩
        rw [List.length_map, hT.len, List.take_length] at e1
        exact hnx _ _ ⟨D, rfl, s7.trans sm, e1⟩
    rintro σ G8 ⟨D14, rfl, s8, e14⟩
    have eL2 := s8 _ _ eL
    have hT2 := hT.same s8
    have ht2 := htB.same s8
    have src2 := src_same s8 srcB
    have fr2 := frB.same (hid_same (d := d) (c := c) s8)
    have htH2 := htBH.same (hid_same (d := d) (c := c) s8)
    clear eL hT htB srcB frB htBH e13 s1 s2 s3 s4 s5 s6 s7 s8 G1 G2 G3 G4 G5 G6 G7 B
    obtain ⟨B2, eB⟩ : ∃ Z, Z = G8 := ⟨_, rfl⟩
    rw [← eB] at eL2 hT2 ht2 src2 fr2 htH2 e14
    have r1 : Same B2 G8 := eB ▸ Same.refl _
    clear eB
    -- sorts
    refine seq_any (fun σ' G' => ∃ D15 : Addr, σ' = lst21 a d v2 (some (.ref e)) (some (.str kd)) (some (.ref u)) (some (.ref L)) (some (.str (repD t))) (some (.bl (!hasB NF t))) (some (.bl (staysB t))) v10 (some (.bl (!hasB NPl t))) (some (.bl (staysB t && !hasB NSh t))) (some (.ref D13)) (some (.ref D14)) (some (.ref D15)) v16 v17 v18 v19 v20 ∧ Same B2 G' ∧ G' D15 = some (.lst [])) ?_ ?_
    rotate_left
    · intro nx hnx
      exact ⟨szl (by show 0 ≤ 1000; decide), fun p hp => hnx _ _ ⟨p, rfl, r1.trans (same_upd hp), upd_same⟩⟩
    rintro σ K2 ⟨D15, rfl, r2, e15⟩
    -- sorts of each
    refine seq_any (fun σ' G' => ∃ (v10 : Option V) (D15 : Addr), σ' = lst21 a d v2 (some (.ref e)) (some (.str kd)) (some (.ref u)) (some (.ref L)) (some (.str (repD t))) (some (.bl (!hasB NF t))) (some (.bl (staysB t))) v10 (some (.bl (!hasB NPl t))) (some (.bl (staysB t && !hasB NSh t))) (some (.ref D13)) (some (.ref D14)) (some (.ref D15)) v16 v17 v18 v19 v20 ∧ Same B2 G' ∧ G' D15 = some (.lst ((t.pre.flatMap Tm.srt).map V.str))) ?_ ?_
    rotate_left
    · intro nx hnx
      refine ⟨_, rfl, L, rfl, ⟨_, SqL.of (r2 _ _ eL2)⟩, for_list (K := K) (a := L) (xs := us.map V.ref) (fun i σ G => ∃ (v10 : Option V) (D15 : Addr), σ = lst21 a d v2 (some (.ref e)) (some (.str kd)) (some (.ref u)) (some (.ref L)) (some (.str (repD t))) (some (.bl (!hasB NF t))) (some (.bl (staysB t))) v10 (some (.bl (!hasB NPl t))) (some (.bl (staysB t && !hasB NSh t))) (some (.ref D13)) (some (.ref D14)) (some (.ref D15)) v16 v17 v18 v19 v20 ∧ Same B2 G ∧ G D15 = some (.lst (((t.pre.take i).flatMap Tm.srt).map V.str))) ⟨_, _, rfl, r2, e15⟩ (fun i σ G _ ⟨_, _, _, q, _⟩ => q.seq (SqL.of eL2)) ?_ ?_⟩
      · rintro i v σ G hi ⟨v10, D15, rfl, sm, e1⟩
        obtain ⟨r, er, rfl⟩ := ref_at hi
        obtain ⟨z, ez, hz⟩ := hT2.get er
        have hz2 := hz.same sm
        obtain ⟨us2, hv, hk2⟩ := hz2.view
        have lk2 := hk2.len
        have li := (List.getElem?_eq_some_iff.mp ez).1
        rw [pre_len] at li
        have hRz := rt.pre z (List.mem_of_getElem? ez)
        have ps := hRz.pos
        have bd : ((t.pre.take i).flatMap Tm.srt).length ≤ 2 * i := by
          have q := fm_len Tm.srt 2 (t.pre.take i) fun x hx => (rt.pre x (List.mem_of_mem_take hx)).srt2
          rw [List.length_take] at q
          omega
        refine ⟨_, rfl, _, rfl, _, rfl, r, _, rfl, hv, fun hh => absurd ⟨hh.1, trivial⟩ (sIx_1 _ _), fun _ p hp => ?_⟩
        rw [cutV_tl]
        have sp := same_upd (o := .tup (z.ss.map V.str ++ us2.map V.ref)) hp
        refine ⟨p, _, rfl, .inr (SqT.of upd_same), fun l hl => ?_⟩
        have sl := same_upd (o := .lst (z.ss.map V.str ++ us2.map V.ref)) hl
        refine ⟨_, rfl, r, _, 0, _, rfl, rfl, sqt_same (sp.trans sl) hv, atI_0 _ _, szl (by show 4 ≤ 1000; decide), fun l4 hl4 => ?_⟩
        have s4 := same_upd (o := .lst (LW4.map V.str)) hl4
        refine ⟨l4, _, rfl, .inl (SqL.of upd_same), rfl, fl_strs LW4, .inr ⟨_, rfl, ?_⟩⟩
        rw [if_neg Bool.false_ne_true, show inV (V.str z.hd) [V.str "same", V.str "other", V.str "none", V.str "all"] = decide (z.hd ∈ LW4) from inV_strs z.hd LW4]
        have fl : (List.replicate (if decide (z.hd ∈ LW4) = true then (1 : Int) else 0).toNat (z.ss.map V.str ++ us2.map V.ref)).flatten = z.srt.map V.str := by
          rcases hRz.lw4 with ⟨h1, h2, h3, _⟩ | ⟨h1, h2, _⟩
          · rw [h3] at hk2
            cases hk2
            rw [if_pos (decide_eq_true h1), h2]
            simp
          · rw [if_neg (by rw [decide_eq_false h1]; exact Bool.false_ne_true), h2]
            rfl
        refine ⟨l, _, _, rfl, rfl, s4 _ _ upd_same, by split <;> decide, by split <;> decide, ?_, fun q hq => ?_⟩
        · refine szl ?_
          rw [List.length_append, List.length_map, List.length_map, lk2]
          have q1 : (if decide (z.hd ∈ LW4) = true then (1 : Int) else 0).toNat ≤ 1 := by split <;> decide
          have q2 := Nat.mul_le_mul (show z.ss.length + z.kids.length ≤ 2 from ps.2.1) q1
          omega
        rw [fl]
        have sq := same_upd (o := .lst (z.srt.map V.str)) hq
        have s9 := sp.trans (sl.trans (s4.trans sq))
        have b2 := hRz.srt2
        refine ⟨D15, q, _, _, rfl, rfl, s9 _ _ e1, upd_same, szl (by rw [List.length_map, List.length_map]; omega), fun D hD => ?_⟩
        refine ⟨_, D, rfl, sm.trans (s9.trans (same_upd hD)), ?_⟩
        rw [upd_same, fm_take Tm.srt ez, List.map_append]
      · rintro σ G ⟨v10, D15, rfl, sm, e1⟩
        rw [List.length_map, hT2.len, List.take_length] at e1
        exact hnx _ _ ⟨v10, D15, rfl, sm, e1⟩
    rintro σ K3 ⟨v10, D15, rfl, r3, e15⟩
    -- letters and sorts compared
    refine seq_any (fun σ' G' => σ' = lst21 a d v2 (some (.ref e)) (some (.str kd)) (some (.ref u)) (some (.ref L)) (some (.str (repD t))) (some (.bl (!hasB NF t))) (some (.bl (staysB t))) v10 (some (.bl (!hasB NPl t))) (some (.bl (staysB t && !hasB NSh t))) (some (.ref D13)) (some (.ref D14)) (some (.ref D15)) v16 v17 v18 v19 v20 ∧ Same B2 G') ?_ ?_
    rotate_left
    · intro nx hnx
      have z4 : t.sz ≤ 400 := by omega
      have lle : (lets t.pre).length ≤ 900 := by
        have q := fm_len Tm.ss 2 (t.pre.filter isLet) fun x hx => by
          have := (rt.pre x (List.mem_filter.mp hx).1).pos.2.1
          omega
        have q2 := List.length_filter_le isLet t.pre
        rw [pre_len] at q2
        show ((t.pre.filter isLet).flatMap Tm.ss).length ≤ 900
        omega
      have sle : (t.pre.flatMap Tm.srt).length ≤ 900 := by
        have q := fm_len Tm.srt 2 t.pre fun x hx => (rt.pre x hx).srt2
        rw [pre_len] at q
        omega
      refine ⟨_, rfl, u, t, rfl, ht2.same r3, rt, z4, fun A1 H1 q0 hA1 eA1 => ?_⟩
      have q1 := r3.trans q0
      refine ⟨_, rfl, D14, lets t.pre, rfl, SqL.of (q1 _ _ e14), lle, fun A2 H2 q2 hA2 eA2 => ?_⟩
      refine ne_ws (letB_wd rt) (SqL.of (q2 _ _ eA1)) (SqL.of eA2) ⟨_, rfl, iteF ?_⟩
      have q12 := q1.trans q2
      refine ⟨_, rfl, u, t, rfl, ht2.same q12, rt, z4, fun A3 H3 q3 hA3 eA3 => ?_⟩
      have e15b : H2 D15 = some (.lst ((t.pre.flatMap Tm.srt).map V.str)) := q2 _ _ (q0 _ _ e15)
      refine ⟨_, rfl, D15, t.pre.flatMap Tm.srt, rfl, SqL.of (q3 _ _ e15b), sle, fun A4 H4 q4 hA4 eA4 => ?_⟩
      refine ne_ws (srtB_wd rt) (SqL.of (q4 _ _ eA3)) (SqL.of eA4) ⟨_, rfl, iteF ?_⟩
      exact hnx _ _ ⟨rfl, q12.trans (q3.trans q4)⟩
    rintro σ K4 ⟨rfl, r4⟩
    -- append
    refine seq_any (fun σ' G' => σ' = lst21 a d v2 (some (.ref e)) (some (.str kd)) (some (.ref u)) (some (.ref L)) (some (.str (repD t))) (some (.bl (!hasB NF t))) (some (.bl (staysB t))) v10 (some (.bl (!hasB NPl t))) (some (.bl (staysB t && !hasB NSh t))) (some (.ref D13)) (some (.ref D14)) (some (.ref D15)) v16 v17 v18 v19 v20 ∧ Same B2 G') ?_ ?_
    rotate_left
    · intro nx hnx
      refine ⟨_, rfl, u, t, rfl, ht2.same r4, rt, by omega, fun A1 H1 q1 hA1 eA1 => ?_⟩
      refine ⟨.inl ⟨rfl, _, SqL.of eA1⟩, A1, _, _, rfl, rfl, eA1, ?_, hnx _ _ ⟨rfl, r4.trans (same_put hA1 q1)⟩⟩
      rw [List.length_map]
      have q := dd_len (lets t.pre) (lets t.pre).length
      have q2 : (lets t.pre).length ≤ 900 := by
        have q := fm_len Tm.ss 2 (t.pre.filter isLet) fun x hx => by
          have := (rt.pre x (List.mem_filter.mp hx).1).pos.2.1
          omega
        have q2 := List.length_filter_le isLet t.pre
        rw [pre_len] at q2
        show ((t.pre.filter isLet).flatMap Tm.ss).length ≤ 900
        omega
      exact small1000 (by show (dd (lets t.pre) (lets t.pre).length).length ≤ 1000; omega)
    rintro σ K5 ⟨rfl, r5⟩
    have ht3 := ht2.same r5
    have src3 := src_same r5 src2
    have fr3 := fr2.same (hid_same (d := d) (c := c) r5)
    have htH3 := htH2.same (hid_same (d := d) (c := c) r5)
    obtain ⟨B3, eB⟩ : ∃ Z, Z = K5 := ⟨_, rfl⟩
    clear ht2 src2 fr2 htH2 e14 e15 r1 r2 r3 r4 r5 eL2 hT2
    rw [← eB] at ht3 src3 fr3 htH3 ⊢
    clear eB
    -- the letters' dict
    refine seq_any (fun σ' G' => ∃ (dl : Addr) (ml : List (Str × Str)), σ' = lst21 a d v2 (some (.ref e)) (some (.str kd)) (some (.ref u)) (some (.ref L)) (some (.str (repD t))) (some (.bl (!hasB NF t))) (some (.bl (staysB t))) v10 (some (.bl (!hasB NPl t))) (some (.bl (staysB t && !hasB NSh t))) (some (.ref D13)) (some (.ref D14)) (some (.ref D15)) (some (.ref dl)) v17 v18 v19 v20 ∧ SrcAt G' d c ∧ Same (hid d c B3) (hid d c G') ∧ hid d c G' dl = some (.dK (sdV ml)) ∧ (∀ q ∈ ml, Wd q.1 ∧ Wd q.2) ∧ ml.length ≤ 3) ?_ ?_
    rotate_left
    · intro nx hnx
      obtain ⟨sA, mA, oA, gs, gm, go, eS, lm, lo⟩ := fr3.fr
      obtain ⟨q0, ls2, els⟩ : ∃ q ls2, ls = q :: ls2 := by
        cases ls with
        | nil => exact absurd l1 (by decide)
        | cons q l => exact ⟨q, l, rfl⟩
      have wn : ∀ x ∈ ls2.map (·.1), Wd x := fun x hx => fr3.ok.nl.w x (by rw [els, List.map_cons]; exact List.mem_cons_of_mem _ hx)
      have ln3 : (ls2.map (·.1)).length ≤ 3 := by
        rw [els, List.length_cons] at l4
        rw [List.length_map]
        omega
      refine ⟨_, rfl, e, .ref oA, rfl, dget_mono hid_sub go, _, rfl, oA, _, rfl, hid_sub.seq lo, fun p hp => ?_⟩
      rw [els, show cutV (((q0 :: ls2).map (·.1)).map V.str) (some 1) none = (ls2.map (·.1)).map V.str from cutV_tl _ _]
      have np := new_h (.lst ((ls2.map (·.1)).map V.str)) src3 hp
      refine ⟨p, rfl, ⟨_, SqL.of upd_same⟩, fun D hD => dict_lc (K := K) (i := 17) (fun _ => rfl) wn ln3 np.src upd_same ⟨np.nd, np.nc⟩ hD (fun z G Q wz srcG kk => ?_) (fun G m ps e1 hP hW lm2 srcG smG => ?_)⟩
      · refine ⟨_, rfl, _, rfl, szl (by show 3 ≤ 1000; decide), fun l hl => ⟨_, rfl, ?_⟩⟩
        exact pick_el (ws := ["zz", "yy", z]) srcG wz (fun x hx => by
          simp only [List.mem_cons, List.not_mem_nil, or_false] at hx
          rcases hx with rfl | rfl | rfl
          · exact wd_of (by decide +kernel)
          · exact wd_of (by decide +kernel)
          · exact wz) rfl kk l hl
      · obtain ⟨m2, em, hm2, lm3⟩ := merge_sd m [] hW (fun q hq => absurd hq List.not_mem_nil)
        refine ⟨D, ps, sdV m, rfl, SqL.of e1, paired_sd (L2.Paired.mapP hP fun p q hq => sqt_same hid_sub hq), fun q hq => ?_⟩
        rw [show mergeK [] (sdV m) = sdV m2 from em]
        have nq := new_h (.dK (sdV m2)) srcG hq
        exact hnx _ _ ⟨q, m2, rfl, nq.src, np.sm.trans (smG.trans nq.sm), nq.at_, hm2, by rw [List.length_nil] at lm3; omega⟩
    rintro σ G4 ⟨dl, ml, rfl, src4, t4, el4, wl, ll⟩
    -- the sorts' dict
    refine seq_any (fun σ' G' => ∃ (ds : Addr) (ms : List (Str × Str)), σ' = lst21 a d v2 (some (.ref e)) (some (.str kd)) (some (.ref u)) (some (.ref L)) (some (.str (repD t))) (some (.bl (!hasB NF t))) (some (.bl (staysB t))) v10 (some (.bl (!hasB NPl t))) (some (.bl (staysB t && !hasB NSh t))) (some (.ref D13)) (some (.ref D14)) (some (.ref D15)) (some (.ref dl)) v17 (some (.ref ds)) v19 v20 ∧ SrcAt G' d c ∧ Same (hid d c G4) (hid d c G') ∧ hid d c G' ds = some (.dK (sdV ms)) ∧ (∀ q ∈ ms, Wd q.1 ∧ Wd q.2) ∧ ms.length ≤ 3) ?_ ?_
    rotate_left
    · intro nx hnx
      obtain ⟨sA, mA, oA, gs, gm, go, eS, lm, lo⟩ := (fr3.same t4).fr
      have wn : ∀ x ∈ xs.take 2, Wd x := fun x hx => fr3.ok.nx.w x (List.mem_of_mem_take hx)
      have ln3 : (xs.take 2).length ≤ 3 := by
        rw [List.length_take]
        omega
      refine ⟨_, rfl, e, .ref sA, rfl, dget_mono hid_sub gs, _, rfl, sA, _, rfl, SqL.of (hid_sub _ _ eS), fun p hp => ?_⟩
      rw [show cutV (xs.map V.str) none (some 2) = (xs.take 2).map V.str by rw [show (2 : Int) = ((2 : Nat) : Int) from rfl, cutV_take, List.map_take]]
      have np := new_h (.lst ((xs.take 2).map V.str)) src4 hp
      refine ⟨p, rfl, ⟨_, SqL.of upd_same⟩, fun D hD => dict_lc (K := K) (i := 19) (fun _ => rfl) wn ln3 np.src upd_same ⟨np.nd, np.nc⟩ hD (fun z G Q wz srcG kk => ?_) (fun G m ps e1 hP hW lm2 srcG smG => ?_)⟩
      · refine ⟨_, rfl, szl (by show 3 ≤ 1000; decide), fun l hl => ⟨_, rfl, ?_⟩⟩
        exact pick_el (ws := ["c", "a", "q"]) srcG wz (fun x hx => by
          simp only [List.mem_cons, List.not_mem_nil, or_false] at hx
          rcases hx with rfl | rfl | rfl <;> exact wd_of (by decide +kernel)) rfl kk l hl
      · obtain ⟨m2, em, hm2, lm3⟩ := merge_sd m [] hW (fun q hq => absurd hq List.not_mem_nil)
        refine ⟨D, ps, sdV m, rfl, SqL.of e1, paired_sd (L2.Paired.mapP hP fun p q hq => sqt_same hid_sub hq), fun q hq => ?_⟩
        rw [show mergeK [] (sdV m) = sdV m2 from em]
        have nq := new_h (.dK (sdV m2)) srcG hq
        exact hnx _ _ ⟨q, m2, rfl, nq.src, np.sm.trans (smG.trans nq.sm), nq.at_, hm2, by rw [List.length_nil] at lm3; omega⟩
    rintro σ G5 ⟨ds, ms, rfl, src5, t5, es5, ws, lls⟩
    have ht5 : TmAt K G5 u t := (htH3.same (t4.trans t5)).same hid_sub
    have el5 : G5 dl = some (.dK (sdV ml)) := hid_sub _ _ (t5 _ _ el4)
    have es6 : G5 ds = some (.dK (sdV ms)) := hid_sub _ _ es5
    have sh := dd_short wl ws (by omega) (by omega)
    clear t4 t5 el4 es5 src4 fr3 src3 htH3 ht3
    -- their text
    refine seq_any (fun σ' G' => σ' = lst21 a d v2 (some (.ref e)) (some (.str kd)) (some (.ref u)) (some (.ref L)) (some (.str (repD t))) (some (.bl (!hasB NF t))) (some (.bl (staysB t))) v10 (some (.bl (!hasB NPl t))) (some (.bl (staysB t && !hasB NSh t))) (some (.ref D13)) (some (.ref D14)) (some (.ref D15)) (some (.ref dl)) v17 (some (.ref ds)) v19 (some (.str (ddD ml ms).shown)) ∧ Same G5 G') ?_ ?_
    rotate_left
    · intro nx hnx
      refine ⟨_, rfl, _, rfl, szl (by show 2 ≤ 1000; decide), fun p hp => ?_⟩
      have sp := same_upd (o := .lst [V.ref dl, V.ref ds]) hp
      exact ⟨p, dl, ds, ml, ms, rfl, SqL.of upd_same, sp _ _ el5, sp _ _ es6, sh, hnx _ _ ⟨rfl, sp⟩⟩
    rintro σ G6 ⟨rfl, t6⟩
    -- led terms
    refine seq_any (fun σ' G' => σ' = lst21 a d v2 (some (.ref e)) (some (.str kd)) (some (.ref u)) (some (.ref L)) (some (.str (repD t))) (some (.bl (!hasB NF t))) (some (.bl (staysB t))) v10 (some (.bl (!hasB NPl t))) (some (.bl (staysB t && !hasB NSh t))) (some (.ref D13)) (some (.ref D14)) (some (.ref D15)) (some (.ref dl)) v17 (some (.ref ds)) v19 (some (.str (ddD ml ms).shown)) ∧ Same G5 G') ?_ ?_
    rotate_left
    · intro nx hnx
      refine ⟨_, rfl, _, rfl, _, rfl, u, dl, ds, t, ml, ms, rfl, ht5.same t6, rt, by omega, t6 _ _ el5, t6 _ _ es6, fun A1 H1 q1 h1 => ?_⟩
      have p1 := t6.trans q1
      refine ⟨_, rfl, _, rfl, _, rfl, u, dl, ds, t, ml, ms, rfl, ht5.same p1, rt, by omega, p1 _ _ el5, p1 _ _ es6, fun A2 H2 q2 h2 => ?_⟩
      have p2 := p1.trans q2
      refine ne_tm (led_rt (lk_wd wl) (lk_wd ws) rt) (by rw [led_sz]; omega) (h1.same q2) h2 ⟨_, rfl, iteF ?_⟩
      refine ⟨_, rfl, fun x1 hx1 => ?_⟩
      have y1 := same_upd (o := .dK []) hx1
      intro x2 hx2
      have y2 := same_upd (o := .dK []) hx2
      have p3 := p2.trans (y1.trans y2)
      refine ⟨u, x1, x2, t, [], [], rfl, ht5.same p3, rt, by omega, y2 _ _ upd_same, upd_same, fun A3 H3 q3 h3 => ?_⟩
      rw [led_id (lk_nil) (lk_nil)] at h3
      refine ⟨_, rfl, ne_tm rt (by omega) h3 (ht5.same (p3.trans q3)) ⟨_, rfl, iteF ?_⟩⟩
      exact hnx _ _ ⟨rfl, p3.trans q3⟩
    rintro σ G7 ⟨rfl, t7⟩
    -- nothing has changed
    have fn := fine_tm rt
    refine ⟨_, rfl, _, dat t, rfl, dp_tm (ht5.same t7), ⟨u, rfl⟩, fn.sho, PyData.hasDict_of_canLay _ fn.lay, Nat.le_trans fn.dep (by omega), fn.len (by omega), ?_⟩
    refine ⟨_, rfl, rfl, _, rfl, ?_⟩
    rw [show decide (V.str (dat t).shown = V.str (repD t)) = true from decide_eq_true rfl]
    refine iteF ?_
    refine ⟨_, rfl, _, rfl, szl (by show 2 ≤ 1000; decide), fun p hp => ?_⟩
    have sp := same_upd (o := .lst [V.ref dl, V.ref ds]) hp
    refine ⟨p, dl, ds, ml, ms, rfl, SqL.of upd_same, sp _ _ (t7 _ _ el5), sp _ _ (t7 _ _ es6), sh, ?_⟩
    refine ⟨_, rfl, rfl, _, rfl, ?_⟩
    rw [decide_eq_true rfl]
    exact iteF ⟨⟨_, _, _, _, _, _, _, _, _, _, _, _, _, _, _, _, _, _, _, rfl⟩, src_same (t7.trans sp) src5⟩
end
end K25

namespace K25
open PySem PySem.Spec PyProof.Rows L2 Ow
/-! ### the end: the law's def is called at the bottom, where nothing is being shown -/
section
variable {P : Program} {w : World} {K : PySem.W.Frag} {mg mb : Str → Option Value} {f a : Addr} {fd : FuncData} {s : Shared} {us : List Value} {ks : List Int}
/-- what the row asks of that call -/
def Done (P : Program) (w : World) (f a : Addr) (s : Shared) : Prop :=
  codeAny (model P w) callerA (.call (.ref f) ⟨[.ref a], []⟩) (fun r t => r = .ok (.ret (.bool true)) ∧ OldK s.heap t.heap ∧ t.os = s.os ∧ AllBare t.gens) s
/-- over a reading that tracks the script, or nothing -/
theorem done_at (kx : K.In s.heap) (gN : s.heap.Ns mainGlobals mg) (bN : s.heap.Ns builtinsNs mb) (bQ : ∀ y : Str, y ≠ "__name__" → mb y = bootBuiltins y) (nl : s.heap.NoLimit) (ge : s.gens = #[])
    (aO : s.heap.get? a = some { cls := .type "list", data := .seq us.toArray }) (law : ∀ B : Heap, K.In B → B.Ns mainGlobals mg → FnG P w K mg B 63 f fd ["_law_script"] (spLaw K))
    (bd : BindsTo s fd ⟨[.ref a], []⟩ [("_law_script", .ref a)]) (H : Hp) (tr : Only H) (rd : SqL K H a (ks.map V.int)) (ln : ks.length ≤ 63) (ok : HOk P w H s.heap) (one : ∀ b, b ≠ a → H b = none) (un : H a ≠ none → K.lookup a = none) : Done P w f a s := by
  have isA : ∀ {b : Addr}, H b ≠ none → b = a := fun {b} z => Classical.byContradiction fun n => z (one b n)
  have dNo : ∀ {b : Addr} {o : Obj} {es : Array DictEntry} {ep : Nat}, s.heap.get? b = some o → o.data = .dict es ep → H b = none := fun {b o es ep} g d => one b fun e => by
    rw [e, aO] at g
    cases g
    exact nomatch (show Data.seq us.toArray _ = Data.dict es ep from d)
  have nsB : ∀ {b : Addr} {m : Str → Option Value}, s.heap.Ns b m → (hidT s.heap H).Ns b m := fun {b m} z => by
    obtain ⟨o, es, ep, g, d, r⟩ := z
    exact ⟨o, es, ep, hidT_get g (dNo g d), d, r⟩
  have kB : K.In (hidT s.heap H) := fun b o g => hidT_get (kx b o g) (Classical.byContradiction fun z => by
    have e := isA z
    rw [e] at z g
    exact nomatch (un z).symm.trans g)
  have md : Mod K mg (hidT s.heap H) := ⟨kB, nsB gN, ⟨mb, nsB bN, bQ⟩, by obtain ⟨m, g1, g2⟩ := nl; exact ⟨m, nsB g1, g2⟩⟩
  have en : Env0 P w K mg (hidT s.heap H) callerA [] s H := ⟨rfl, md, fun b o g => of_hidT g, Nat.le_of_eq (hidT_size _ _), trivial, fun b z => (List.not_mem_nil z).elim, ok, .of_eq ge⟩
  have go := (law _ kB (nsB gN)).run callerA [] s H ⟨[.ref a], []⟩ [.ref a] [.ref a] (fun v _ => v = .bl true) (fun _ _ _ => False) rfl ⟨rfl, by decide, by decide⟩ en bd (.cons rfl .nil) ⟨a, ks, rfl, rd, ln, fun _ => rfl⟩
  refine codeAny_mono go fun res t z => ?_
  match res, z with
  | .error _, z => exact False.elim z
  | .ok .next, z => exact False.elim z
  | .ok .brk, z => exact False.elim z
  | .ok .cont, z => exact False.elim z
  | .ok (.ret u), ⟨v, G, os, bare, base, okG, rv, e⟩ =>
    cases (show v = V.bl true from e)
    cases (show u = Value.bool true from rv)
    refine ⟨rfl, .of_keep fun b o g => ?_, os, bare⟩
    by_cases n : H b = none
    · exact base.keep b o g n (fun z => (List.not_mem_nil z).elim) (by simp)
    · rcases tr b with z | ⟨p, xs, z⟩
      · exact (n z).elim
      · have g1 := (ok b _ z).1
        have g2 := (okG b _ (base.frzs b p _ z)).1
        rw [g] at g1
        cases g1
        exact g2
theorem done (kx : K.In s.heap) (gN : s.heap.Ns mainGlobals mg) (bN : s.heap.Ns builtinsNs mb) (bQ : ∀ y : Str, y ≠ "__name__" → mb y = bootBuiltins y) (nl : s.heap.NoLimit) (ge : s.gens = #[])
    (aO : s.heap.get? a = some { cls := .type "list", data := .seq us.toArray }) (ia : IntsAre us ks) (ln : ks.length ≤ 63) (law : ∀ B : Heap, K.In B → B.Ns mainGlobals mg → FnG P w K mg B 63 f fd ["_law_script"] (spLaw K))
    (bd : BindsTo s fd ⟨[.ref a], []⟩ [("_law_script", .ref a)]) : Done P w f a s := by
  have vi := vals_ints ia
  have l1 : us.length = ks.length := ia.length
  have sz : ks.length ≤ sizeLine := Nat.le_trans ln (by decide)
  have at_ := done_at (ks := ks) kx gN bN bQ nl ge aO law bd
  by_cases kn : K.lookup a = none
  · refine at_ (fun b => if b = a then some (.frz { cls := .type "list", data := .seq us.toArray } (.lst (ks.map V.int))) else none) (fun b => ?_) (.inl (.inr ⟨_, if_pos rfl⟩)) ln (fun b u z => ?_) (fun b n => if_neg n) fun _ => kn
    · by_cases e : b = a
      · exact .inr ⟨_, _, if_pos e⟩
      · exact .inl (if_neg e)
    · by_cases e : b = a
      · cases (if_pos e).symm.trans z
        cases e
        exact ⟨aO, by rw [List.length_map]; exact sz, us, _, vi, aO⟩
      · exact nomatch (if_neg e).symm.trans z
  · obtain ⟨o, lk⟩ := Option.ne_none_iff_exists'.mp kn
    have e := (kx a o lk).symm.trans aO
    cases e
    exact at_ (fun _ => none) (fun _ => .inl rfl) (.inr ⟨_, us.toArray, _, lk, rfl, rfl, rfl, by rw [List.size_toArray, l1]; exact sz, by simpa using vi⟩) ln (fun b u z => nomatch (show (none : Option HO) = some u from z)) (fun _ _ => rfl) fun z => (z rfl).elim
end
/-- what the head has told of the law's def -/
theorem told_law {P : Program} {w : World} {K : PySem.W.Frag} {h : Heap} {mg : Str → Option Value} {f : Addr} (X : K.In h) (G : h.Ns mainGlobals mg) (at_ : mg ("law" : Str) = some (.ref f)) (c : He.SaysT fa fn tabs w K) (e : exB K = true) :
    ∃ fd : FuncData, (∀ (s : Shared) (v : Value), BindsTo s fd ⟨[v], []⟩ [("_law_script", v)]) ∧ ∀ B : Heap, FnG P w K mg B 63 f fd ["_law_script"] (spLaw K) := by
  have Y := Fx.of X G c e
  obtain ⟨fd, F⟩ := Y.dLaw
  have z := at_.symm.trans Y.gLaw
  cases z
  have b := FunD.bindsA (ps := ["_law_script"]) F fun _ _ _ _ _ _ us hl => match us, hl with | [_], _ => rfl
  exact ⟨fd, fun s v => b s [v] rfl, fun B => ok_law F Y⟩
theorem walkG {q : Program} {loose : List Str} {XP : (Str → Option Value) → Heap → Prop} {d : DefRec} (df : d.params.defaults = []) (nme : d.name = ("law" : Str)) :
    PySem.W.WalkO q loose XP hk.says (PySem.Challenge.rw_pairlaws_k25_forms_of_terms).row.toRowW d [] (fun f vs => PySem.call f vs) := by
  refine Att.attach_call (n := 63) rfl df fun w s₀ s mg mb f o pm cd doc a us ks G Y ho hd hcd at_ aO ia ln ge => ?_
  obtain ⟨K, kx, c, e⟩ := Y
  rw [nme] at at_
  obtain ⟨fd, bd, law⟩ := told_law (P := (PySem.Challenge.rw_pairlaws_k25_forms_of_terms).prog) (w := w) kx G.T.g at_ c e
  exact done kx G.T.g G.T.b G.T.builtins G.T.nolimit ge aO ia ln (fun B _ _ => law B) (bd s (.ref a))
end K25

open PySem PySem.W PySem.Calls PyProof.Rows
set_option maxRecDepth 100000 in
set_option maxHeartbeats 0 in
theorem PySem.Challenge.cw_pairlaws_k25_forms_of_terms_holds : PySem.Challenge.rw_pairlaws_k25_forms_of_terms.Holds := by
  w_on; o_law
  refine HandSHeadRun.head_any (r := OpenLaw.row PySem.Challenge.rw_pairlaws_k25_forms_of_terms) (q := view (OpenLaw.row PySem.Challenge.rw_pairlaws_k25_forms_of_terms).prog [60]) (H := K25.hk) (ob := K25.ob) (M := 40000) (loose := K25.nm) (d := HandSHeadRun.topDef (OpenLaw.row PySem.Challenge.rw_pairlaws_k25_forms_of_terms).prog 60) (kwd := []) K25.ob_eq
    (by kernel_rfl) (fun s => by kernel_rfl) K25.run (by kernel_rfl) (by kernel_rfl) (by kernel_rfl) (by rfl) (by first | assumption | decide +kernel) (by decide +kernel) ⟨rfl, rfl, rfl, rfl, rfl, by decide +kernel⟩ ?hw ?hc
  case hw => w_witness2
  case hc => exact K25.walkG (by kernel_rfl) (by kernel_rfl)
