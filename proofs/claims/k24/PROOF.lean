import PyProof.Rows.All
import Wide.All
import OpenK.AllK
import Wide.FinOn
import KE.KStateDown
import KE.KExcInit
import KE.KExcIs
import HandS.ForMost
import HandS.ForExc
import HandS.ExcInit
import HandS.ExcValue
import HandS.ExcField
import HandS.IsInst
import HandS.Conv
import HandS.Defaults
import HandS.Wide
import HandS.Head0
import HandS.Head1
import HandS.Head2
import HandS.HeadEnd
import HandS.HeadHook1
import HandS.HeadHook2
import HandS.HeadHook3
import KE.GoesEnum
import HandS.OwnEq
import HandS.Zip
import HandS.Strs
import HandS.DictComp
import HandS.Flow
import HandS.Style
import HandS.More
import HandS.NoneIn
import HandS.WideBits
import HandS.Codes
import HandS.TupAny
import HandS.Star
import HandS.RevTup
import PyProof.ReprRoads
import HandS.Deep
import KE.KRevSl
import HandS.Walk
import HandS.RevRange
import PySem.Challenge.RW_pairlaws_k24_parts_of_terms
set_option Elab.async false
set_option linter.all false
set_option maxRecDepth 100000
set_option maxHeartbeats 0
/-! Operators and comparisons that a class of the text defines, between two of its instances; ~ of one. -/
namespace Ow
open PySem PySem.Spec PyProof.Rows L2
section
variable {X : Cx} {n : Nat} {C f : Addr} {fd : FuncData} {ps : List Str} {sp : Sp}
/-- what a class must tell for one of its special defs -/
structure OwnFn (X : Cx) (n : Nat) (C : Addr) (nm : Str) (f : Addr) (fd : FuncData) (ps : List Str) (sp : Sp) : Prop where
  ok : FnOk X.prog X.w X.K X.mg X.base CX0 n f fd ps sp
  rm : Room n X.A
  at_ : PySem.W.findIn X.K (.ref C) nm = some (some (.ref f))
  fn : PySem.W.isFn X.K (.ref f) = true
  bd : Binds X.K fd ps []
theorem backs {Q : VK} {pins : List (Addr × Obj)} {σ : L2.St} {u : Value} {s : Shared} (h : EP X pins σ Q u s) : PySem.W.CmpBack (EP X pins σ Q) u s := by
  cases u with
  | notImplemented =>
    obtain ⟨v, H, _, r, _⟩ := h
    cases v with
    | non => exact nomatch (show Value.notImplemented = Value.none from r)
    | bl b => exact nomatch (show Value.notImplemented = Value.bool b from r)
    | int i => obtain ⟨t, e⟩ := r; exact nomatch e
    | str x => obtain ⟨t, e⟩ := r; exact nomatch e
    | byt b => obtain ⟨t, e⟩ := r; exact nomatch e
    | flt b => obtain ⟨t, e⟩ := r; exact nomatch e
    | ref a => exact nomatch (show Value.notImplemented = Value.ref a from r)
    | ty m => exact nomatch (show Value.notImplemented = Value.type m from r)
  | _ => exact h
theorem OwnFn.run {nm : Str} (O : OwnFn X n C nm f fd ps sp) {pins : List (Addr × Obj)} {σ : L2.St} {H : Hp} {s : Shared} {Q : VK} {vs : List V} {us : List Value} (I : Inv X pins σ H s) (r : Vals vs us) (h : sp vs H Q E0) :
    wpAny (model X.prog X.w) X.A (call (.ref f) us) (EP X pins σ Q) X.xe s :=
  run_fn O.ok O.rm O.bd .nil pass0 I r (by rw [List.append_nil]; exact h)
/-- the two operands are instances of C -/
def rOwn (C : Addr) (sp : Sp) : R2 := fun x y H Q => ∃ a b dx dy fs gs, x = .ref a ∧ y = .ref b ∧ H a = some (.ins C dx fs) ∧ H b = some (.ins C dy gs) ∧ sp [.ref a, .ref b] H Q E0
def rOwn1 (C : Addr) (sp : Sp) : V → Hp → VK → Prop := fun x H Q => ∃ a dx fs, x = .ref a ∧ H a = some (.ins C dx fs) ∧ sp [.ref a] H Q E0
theorem op_own {op : Operator} (O : OwnFn X n C (PySem.dunder op.info.2) f fd ps sp) (hc : PySem.W.selfFirst X.K C = true) : OpR X (binaryOp op) (rOwn C sp) := by
  intro pins s σ H x y v u Q I rx ry hq
  obtain ⟨a, b, dx, dy, fs, gs, rfl, rfl, ha, hb, h⟩ := hq
  cases rx
  cases ry
  obtain ⟨mA, J, _⟩ := ins_get I.hok ha
  obtain ⟨mB, J', _⟩ := ins_get I.hok hb
  obtain ⟨od, J, _⟩ := J.look
  obtain ⟨od', J', _⟩ := J'.look
  obtain ⟨m, F⟩ := I.fr
  exact PySem.W.binop_K F I.ok.mod.kin J J'.type hc O.at_ O.fn (wpAny_mono (O.run (vs := [.ref a, .ref b]) I (.cons rfl (.cons rfl .nil)) h) (fun _ _ z => backs z) fun _ _ z => z)
theorem un_own (O : OwnFn X n C "__invert__" f fd ps sp) : UnR X (unaryOp .Invert) (rOwn1 C sp) := by
  intro pins s σ H x v Q I rx hq
  obtain ⟨a, dx, fs, rfl, ha, h⟩ := hq
  cases rx
  obtain ⟨mA, J, _⟩ := ins_get I.hok ha
  obtain ⟨od, J, _⟩ := J.look
  obtain ⟨m, F⟩ := I.fr
  exact PySem.W.ksp_inv F I.ok.mod.kin J O.at_ O.fn (O.run (vs := [.ref a]) I (.cons rfl .nil) h)
/-- a <= b and the like -/
theorem cmp_own {op : CmpOp} (he : ∀ u v, compareOp op u v = richCompare op u v) (O : OwnFn X n C (cmpInfo op).2.1 f fd ps sp) : OpR X (compareOp op) (rOwn C sp) := by
  intro pins s σ H x y v u Q I rx ry hq
  obtain ⟨a, b, dx, dy, fs, gs, rfl, rfl, ha, hb, h⟩ := hq
  cases rx
  cases ry
  obtain ⟨mA, J, _⟩ := ins_get I.hok ha
  obtain ⟨mB, J', _⟩ := ins_get I.hok hb
  obtain ⟨od, J, _⟩ := J.look
  obtain ⟨od', J', _⟩ := J'.look
  obtain ⟨m, F⟩ := I.fr
  rw [he]
  exact PySem.W.cmp_K (tb := .ref C) O.rm.units0 F I.ok.mod.kin J J'.type (by simp [PySem.W.notFirst]) O.at_ O.fn (wpAny_mono (O.run (vs := [.ref a, .ref b]) I (.cons rfl (.cons rfl .nil)) h) (fun _ _ z => backs z) fun _ _ z => z)
theorem op_own_le (O : OwnFn X n C "__le__" f fd ps sp) : OpR X (compareOp .LtE) (rOwn C sp) := cmp_own (fun _ _ => rfl) O
theorem op_own_lt (O : OwnFn X n C "__lt__" f fd ps sp) : OpR X (compareOp .Lt) (rOwn C sp) := cmp_own (fun _ _ => rfl) O
theorem op_own_eq (O : OwnFn X n C "__eq__" f fd ps sp) : OpR X (compareOp .Eq) (rOwn C sp) := cmp_own (fun _ _ => rfl) O
/-! != of two instances: object.__ne__ asks the class's own == -/
def rOwnNe (C : Addr) (sp : Sp) : R2 := fun x y H Q => ∃ a b dx dy fs gs, x = .ref a ∧ y = .ref b ∧ H a = some (.ins C dx fs) ∧ H b = some (.ins C dy gs) ∧ sp [.ref a, .ref b] H (fun v H' => ∃ k, v = .bl k ∧ Q (.bl (!k)) H') E0
theorem ne_bind (u : Value) : bindSpecial (.builtin "object.__ne__") u = pure (.builtin "object.__ne__", [u]) := by kernel_rfl
theorem op_own_ne (ok : FnOk X.prog X.w X.K X.mg X.base CX0 n f fd ps sp) (rm : Room (n + 1) X.A) (at_ : PySem.W.findIn X.K (.ref C) "__eq__" = some (some (.ref f))) (fn : PySem.W.isFn X.K (.ref f) = true) (bd : Binds X.K fd ps [])
    (ne_ : PySem.W.findIn X.K (.ref C) "__ne__" = some (some (.builtin "object.__ne__"))) (hm : PySem.W.mroIn X.K C (.type "object") = some true) : OpR X (compareOp .NotEq) (rOwnNe C sp) := by
  intro pins s σ H x y v u Q I rx ry hq
  obtain ⟨a, b, dx, dy, fs, gs, rfl, rfl, ha, hb, h⟩ := hq
  cases rx
  cases ry
  obtain ⟨mA, J, _⟩ := ins_get I.hok ha
  obtain ⟨mB, J', _⟩ := ins_get I.hok hb
  obtain ⟨od, J, _⟩ := J.look
  obtain ⟨od', J', _⟩ := J'.look
  have K' := I.kIn
  have hl := ok.len _ _ _ _ h
  have e0 : Env0 X.prog X.w X.K X.mg X.base X.A.in1 X.stack s H := by
    have e := I.env0
    exact ⟨e.frames, e.mod, e.bs, e.bsz, e.funs, e.frf, e.hok, e.bare⟩
  have r2 : Vals [V.ref a, V.ref b] [Value.ref a, Value.ref b] := .cons rfl (.cons rfl .nil)
  have go : wpAny (model X.prog X.w) X.A.in1 (call (.ref f) [.ref a, .ref b]) (fun v s' => ∃ k, v = .bool k ∧ EP X pins σ Q (.bool (!k)) s') X.xe s := by
    refine wpAny_call (codeAny_mono (ok.run X.A.in1 X.stack s H ⟨[.ref a, .ref b], []⟩ [.ref a, .ref b] [.ref a, .ref b] _ E0 rm.in1 e0 (by
      have z := bd s [.ref a, .ref b] I.kIn (by simpa using hl)
      simpa using z) r2 h) fun r s' hq => ?_)
    cases r with
    | error e => exact pass0 pins σ H s e s' I hq
    | ok fl =>
      cases fl with
      | ret w =>
        obtain ⟨z, H', I', rz, k, ez, q⟩ := I.after hq
        subst ez
        cases rz
        exact ⟨k, rfl, .bl (!k), H', I', rfl, q⟩
      | next => exact False.elim hq
      | brk => exact False.elim hq
      | cont => exact False.elim hq
  show wpAny (model X.prog X.w) X.A (richCompare .NotEq (.ref a) (.ref b)) (EP X pins σ Q) X.xe s
  have one : wpAny (model X.prog X.w) X.A (tryCompare (.ref a) "__ne__" (.ref b)) (fun r s' => ∃ v, r = some v ∧ EP X pins σ Q v s') X.xe s := by
    unfold tryCompare
    refine wpAny_bind (m := callSpecialIfBound? (.ref a) "__ne__" [.ref b]) ?_
    simp only [callSpecialIfBound?, bindSpecialIfBound?]
    refine wpAny_holding (wpAny_bind (wpAny_bind (wpAny_bind (J.type.here ((PySem.W.looks_findIn K' ne_).here ?_)))))
    refine wpAny_bind (wpAny_askSetting (wpAny_ite ?_))
    have fin : wpAny (model X.prog X.w) X.A (call (.builtin "object.__ne__") ([.ref a] ++ [.ref b]) >>= fun v => pure (some v)) (fun r s' => wpAny (model X.prog X.w) X.A (match r with | some .notImplemented | none => pure none | some v => pure (some v)) (fun r s' => ∃ v, r = some v ∧ EP X pins σ Q v s') X.xe s') X.xe s := by
      refine wpAny_bind (wpAny_call (codeAny_call_builtin PySem.F.cmp_object.ne.plain PySem.F.cmpEntry_ne (PySem.W.check_slot PySem.F.cmpKind_ne PySem.F.cmpSplit_ne (J.type.andThen (PySem.W.looks_mroIn K' hm)) (PySem.F.cmpArgs_ne _ _) ?_)))
      unfold Builtin.«object.__ne__»
      refine wpAny_bind (m := slotArgs "__ne__" 1 _) (wpAny_pure ?_)
      refine wpAny_bind (m := cRoomFor _ _) (wpAny_cRoomFor rm.in1.units0 ?_)
      refine wpAny_bind (m := callSpecialIfBound? (.ref a) (PySem.Str.ofString "__eq__") _) (PySem.W.ifBound_K K' J at_ fn (wpAny_mono go (fun r s' hq => ?_) fun _ _ y => y))
      obtain ⟨k, rfl, q⟩ := hq
      refine wpAny_bind (m := truthy (.bool k)) (wpAny_truthy_bool ?_)
      exact wpAny_pure (wpAny_pure (wpAny_pure ⟨_, rfl, q⟩))
    split
    · exact wpAny_bind ((PySem.W.Looks.of_pure (ne_bind _)).here (wpAny_pure (by exact fin)))
    · exact wpAny_tryCatch (wpAny_bind ((PySem.W.Looks.of_pure (ne_bind _)).here (wpAny_pure (by exact fin))))
  unfold richCompare
  simp only [oneThing_ref]
  refine wpAny_holding (wpAny_bind (wpAny_cRoomFor rm.units0 ?_))
  refine wpAny_bind (J.type.here (wpAny_bind (J'.type.here ?_)))
  rw [show (Value.ref C != Value.ref C) = false from by simp]
  simp only [Bool.false_eq_true, if_false]
  refine wpAny_bind (wpAny_pure ?_)
  simp only [Bool.false_eq_true, if_false]
  refine wpAny_bind (wpAny_mono one (fun r s' z => ?_) fun _ _ e => e)
  obtain ⟨v, rfl, hq⟩ := z
  exact wpAny_pure hq
end
end Ow

/-! for i, x in enumerate(a tuple) -/
namespace Ow
open PySem PySem.Spec PyProof.Rows L2
theorem enum_new1 {v : Value} {o : Obj} {H : Heap → Prop} (B : Begins v o H) :
    Meets (Builtin.«enumerate.__new__» ⟨[.type "enumerate", v], []⟩) (fun _ R s => H s.heap ∧
      R (.ok (.ret (.ref (s.heap.push o).objs.size))) { s with heap := (s.heap.push o).push { cls := .type "enumerate", data := .fields #[.none, .bool false, .ref s.heap.objs.size, rawInt 0, .none, .none] } }) :=
  .of_wp fun prog w A R s h => by
    obtain ⟨hp, g, d, tk, os⟩ := s
    obtain ⟨h1, h⟩ := h
    have hsub := sub_enumerate
    have q1 : ∀ {A' : Around} {E : Value → Shared → Prop} {Q : Value → Shared → Prop}, Q (.ref hp.objs.size) ⟨hp.push o, g, d, tk, os⟩ → wpAny (model prog w) A' (pyIter v) Q E ⟨hp, g, d, tk, os⟩ :=
      fun q => B.iter prog w _ _ ⟨hp, g, d, tk, os⟩ _ h1 q
    wp_walk using q1
    refine wpAny_stack_any fun st => wpAny_pure ?_
    split
    · rename_i c _ _ _ _ _
      cases (c == Value.type "enumerate")
      · wp_walk using q1
        exact ⟨_, rfl, h⟩
      · wp_walk using q1
        exact ⟨_, rfl, h⟩
    · wp_walk using q1
      exact ⟨_, rfl, h⟩
section
variable {prog : Program} {w : World} {A : Around} {E : Value → Shared → Prop} {s : Shared}
theorem enum_tup {l : Addr} {items : Array Value} {Q : Value → Shared → Prop} (hL : s.heap.IsTuple l items)
    (h : ∀ h', IsEnum h' (s.heap.objs.size + 1) s.heap.objs.size 0 .none → h'.IsTupleIter s.heap.objs.size l 0 → h'.objs.size = s.heap.objs.size + 2 →
      (∀ b o, s.heap.get? b = some o → h'.get? b = some o) → Q (.ref (s.heap.objs.size + 1)) { s with heap := h' }) :
    wpAny (model prog w) A (call (.type "enumerate") [.ref l]) Q E s := by
  refine callType_new F.called_enumerate (by decide) (F.typeCall_enumerate_1 _) (F.newCall_enumerate_1 _) (fun obj => F.args_object_init_2 obj _) F.entry_enumerate_new
    (enum_new1 (begins_tuple l items)) ⟨hL, ?_⟩
  have hz : (s.heap.push { cls := .type "tuple_iterator", data := .fields #[.ref l, .int 0 0] }).objs.size = s.heap.objs.size + 1 := Heap.size_push ..
  show _ ∧ _
  rw [hz]
  have he : IsEnum ((s.heap.push { cls := .type "tuple_iterator", data := .fields #[.ref l, .int 0 0] }).push
      { cls := .type "enumerate", data := .fields #[.none, .bool false, .ref s.heap.objs.size, rawInt 0, .none, .none] }) (s.heap.objs.size + 1) s.heap.objs.size 0 .none := by
    have z := Heap.get?_push_size (s.heap.push { cls := .type "tuple_iterator", data := .fields #[.ref l, .int 0 0] })
      (o := { cls := .type "enumerate", data := .fields #[.none, .bool false, .ref s.heap.objs.size, rawInt 0, .none, .none] }) rfl
    rw [hz] at z
    exact z
  refine ⟨⟨_, he, rfl⟩, h _ he ⟨_, Heap.get?_push_of_some _ (Heap.get?_push_size _ rfl), rfl, rfl⟩ (by rw [Heap.size_push, hz]) fun b o x => Heap.get?_push_of_some _ (Heap.get?_push_of_some _ x)⟩
end
/-- the tuple at a, each item in a new pair -/
def IteT (K : PySem.W.Frag) (a : Addr) : It :=
  ⟨fun i H => ∃ (xs : List V) (x : V), SqT K H a xs ∧ xs[i]? = some x, fun i H v H' => ∃ T x, v = .ref T ∧ H T = none ∧ H' = upd H T (.tup [.int (i : Nat), x]) ∧ ∀ xs, SqT K H a xs → xs[i]? = some x, fun i H => ∃ xs : List V, SqT K H a xs ∧ xs.length = i⟩
theorem turn_enumT {P : Program} {w : World} {K : PySem.W.Frag} {elts : List Expr} {kk : Nat} {tpos : Pos} (a e it : Addr) :
    Turn P w K (.Tuple elts kk tpos) (IteT K a) [e, it] e (fun i h => (∃ old, IsEnum h e it ((i : Nat) : Int) old) ∧ h.IsTupleIter it a i ∧ e ≠ it ∧ a ≠ it ∧ e ≠ a) where
  mem := by simp
  obj := fun i h st b hb => by
    obtain ⟨⟨old, he⟩, ⟨o, ho, hc, hd⟩, _⟩ := st
    have e' : b = e ∨ b = it := by simpa using hb
    rcases e' with z | z
    · rw [z]; exact ⟨_, he, fun v q => nomatch q⟩
    · rw [z]; exact ⟨o, ho, fun v q => by rw [hd] at q; cases q⟩
  keep := fun i h h' st k => by
    obtain ⟨⟨old, he⟩, hi, hne⟩ := st
    exact ⟨⟨old, k e (by simp) _ he⟩, hi.at fun o q => k it (by simp) o q, hne⟩
  item := by
    intro X hP hw hK hc i pins s σ H E I hf st hg
    subst hP hw hK
    obtain ⟨⟨old, he⟩, hit, hne, hai, hea⟩ := st
    obtain ⟨xs, x, hq, hx⟩ := hg
    obtain ⟨its, rv, p, hz⟩ := I.tuple hq
    obtain ⟨u, hu, ru⟩ := rv.get hx
    have p : s.heap.IsTuple a its.toArray := p
    have hel : e < s.heap.objs.size := Heap.lt_size he
    have hil : it < s.heap.objs.size := by obtain ⟨_, q, _⟩ := hit; exact Heap.lt_size q
    have hlt : i < its.toArray.size := by
      have z : i < its.length := List.getElem?_eq_some_iff.mp hu |>.1
      simpa using z
    refine wpAny_pyNext_enum_itemD (Draws.tuple (A := X.A.in1) (show X.A.in1.handled = none from I.ok.hd hc) it a hai its.toArray) he ⟨hit, p⟩ hlt hne (by simp [hne, hea]) fun u' h' tk hP ho hst' hT hsz hk => ?_
    have eu : u' = u := by
      have z : its.toArray[i]? = some u := by simpa using hu
      rw [z] at hP
      exact (Option.some.inj hP).symm
    subst eu
    have hit' := hst'.1
    refine ⟨_, rfl, wpAny_letOwnedTupleGo_enum (s := { s with heap := h', toks := tk + 1 }) ho fun h'' he' sb => ?_⟩
    have hT2 : h''.get? s.heap.objs.size = some { cls := .type "tuple", data := .seq #[.int i tk, u'] } := (sb.2 _ (Nat.ne_of_gt hel)).trans hT
    have new : ObjOk X.prog X.w (upd H s.heap.objs.size (.tup [.int (i : Nat), x])) h'' s.heap.objs.size (.tup [.int (i : Nat), x]) :=
      ⟨by show 2 ≤ sizeLine; decide, [.int i tk, u'], .cons ⟨_, rfl⟩ (.cons ru .nil), ⟨_, hT2, rfl, _, rfl⟩⟩
    have I1 : Inv X pins σ (upd H s.heap.objs.size (.tup [.int (i : Nat), x])) { s with heap := h'', toks := tk + 1 } :=
      I.turnedNew (ch := [e, it]) (fun b ob hb q => (sb.2 b (fun z => hb (by simp [z]))).trans (hk b ob (fun z => hb (by simp [z])) (fun z => hb (by simp [z])) q)) hf (Nat.le_refl _) new
    refine ⟨.ref s.heap.objs.size, _, I1, rfl, ⟨_, x, rfl, I.hok.fresh (Nat.le_refl _), rfl, fun ys hy => by rw [I.tuple_inj hy hq]; exact hx⟩, ⟨⟨u', ?_⟩, hit'.at fun o q => (sb.2 it (Ne.symm hne)).trans q, hne, hai, hea⟩, fun b hb => ?_⟩
    · have e1 : ((i + 1 : Nat) : Int) = (i : Int) + 1 := by omega
      rw [e1]; exact he'
    · have hb' : b < s.heap.objs.size := by
        have e' : b = e ∨ b = it := by simpa using hb
        rcases e' with z | z
        · rw [z]; exact hel
        · rw [z]; exact hil
      rw [upd_ne (Nat.ne_of_lt hb')]
      exact (hf b hb).1
  done := by
    intro X hP hw hK hc i pins s σ H E I hf st hg
    subst hP hw hK
    obtain ⟨⟨old, he⟩, hit, hne, hai, hea⟩ := st
    obtain ⟨xs, hq, hx⟩ := hg
    obtain ⟨its, rv, p, hz⟩ := I.tuple hq
    have p : s.heap.IsTuple a its.toArray := p
    obtain ⟨f0, f1, f2, f3, f4, f5⟩ := hf it (by simp)
    have hl := rv.length
    have ez : i = its.toArray.size := by simp; omega
    subst ez
    exact wpAny_pyNext_enum_endD (Draws.tuple (A := X.A.in1) (show X.A.in1.handled = none from I.ok.hd hc) it a hai its.toArray) he ⟨hit, p⟩ fun h' eb => ⟨rfl, I.turned (t' := s.toks) (fun b o hb q => eb b o hb q) f0 f1 f3 f4 f5⟩
  self := fun A i s Q E st h => let ⟨⟨_, he⟩, _⟩ := st; wpAny_pyIter_enum he h
def iEnumT (K : PySem.W.Frag) (ta : TA) : TI := fun σ H R => ta σ H fun vs H1 => ∃ a xs, vs = [.ref a] ∧ SqT K H1 a xs ∧ R (IteT K a) H1
theorem pi_enumT {X : Cx} {e : Expr} {ta : TA} {p pos tpos : Pos} {elts : List Expr} {kk : Nat} (hg : Gl X "enumerate") (hm : X.mg "enumerate" = none) (ha : PA X [e] ta) (hs : starEach [e] X.env = [(false, eval e X.env)] := by rfl) :
    PI X (.Tuple elts kk tpos) (.Call (.Name "enumerate" p) [e] [] pos) (iEnumT X.K ta) := by
  refine ⟨fun pins s σ H R I h => ?_⟩
  refine Call_ (ld_blt I hg hm boot_enumerate (PyProof.Rows.callWith_type1 (thn (ha.run pos pins s σ H _ I h) fun us s1 ⟨vs, H1, I1, r1, q1⟩ => ?_) hs rfl))
  obtain ⟨a, xs, ex, hq, q⟩ := q1
  subst ex
  cases r1 with
  | cons r rr =>
    cases rr
    cases r
    obtain ⟨its, rv, p', hz⟩ := I1.tuple hq
    have p' : s1.heap.IsTuple a its.toArray := p'
    have al : a < s1.heap.objs.size := by obtain ⟨o, q, _⟩ := p'; exact Heap.lt_size q
    refine enum_tup p' fun h' he hit hsz hk => wpAny_pyIter_enum he ?_
    have I2 : Inv X pins σ H1 { s1 with heap := h' } := I1.kept (t' := s1.toks) hk
    refine ⟨s1.heap.objs.size + 1, [s1.heap.objs.size + 1, s1.heap.objs.size], _, _, H1, rfl, I2, turn_enumT a (s1.heap.objs.size + 1) s1.heap.objs.size, ⟨⟨.none, he⟩, hit, Nat.succ_ne_self _, Nat.ne_of_lt al, Nat.ne_of_gt (Nat.lt_succ_of_lt al)⟩, fun b hb => ?_, q⟩
    have e' : b = s1.heap.objs.size + 1 ∨ b = s1.heap.objs.size := by simpa using hb
    have hle : s1.heap.objs.size ≤ b := by
      rcases e' with z | z
      · rw [z]; exact Nat.le_add_right _ _
      · rw [z]; exact Nat.le_refl _
    exact I1.fpOk hle (I1.hok.fresh hle)
end Ow

/-! len(set(xs)), xs a list or a tuple of unlike texts -/
namespace Ow
open PySem PySem.Spec PyProof.Rows L2
theorem nd_take {xs : List Str} (nd : xs.Nodup) {i : Nat} (hi : i < xs.length) : (xs.take i).any (· == xs.getD i Str.empty) = false := by
  have e : xs.getD i Str.empty = xs[i] := by rw [List.getD_eq_getElem?_getD, List.getElem?_eq_getElem hi]; rfl
  refine Bool.eq_false_iff.mpr fun h => ?_
  obtain ⟨y, hy, q⟩ := List.any_eq_true.mp h
  rw [e] at q
  have ey : y = xs[i] := beq_iff_eq.mp q
  obtain ⟨j, hj, e3⟩ := List.getElem_of_mem hy
  have hl : j < i := by rw [List.length_take] at hj; omega
  rw [List.getElem_take] at e3
  exact List.pairwise_iff_getElem.mp nd j i (Nat.lt_trans hl hi) hi hl (e3.trans ey)
theorem any_take {xs : List Str} {i : Nat} (hi : i < xs.length) (k : Str) : (xs.take (i + 1)).any (· == k) = ((xs.take i).any (· == k) || decide (k = xs.getD i Str.empty)) := by
  have e : xs.getD i Str.empty = xs[i] := by rw [List.getD_eq_getElem?_getD, List.getElem?_eq_getElem hi]; rfl
  rw [List.take_succ, List.getElem?_eq_getElem hi, List.any_append, e]
  congr 1
  show ((xs[i] == k) || false) = decide (k = xs[i])
  rw [Bool.or_false]
  by_cases z : k = xs[i]
  · rw [z]; simp
  · rw [decide_eq_false z]; exact beq_eq_false_iff_ne.mpr fun y => z y.symm
section
variable {prog : Program} {w : World} {A : Around} {R : Result → Shared → Prop} {I : Addr} {fp wr : List Addr} {G : Array GenState → Array GenState → Prop} {n : Nat} {P : Nat → Value → Prop} {St : Nat → Shared → Prop}
theorem grow_set (Wk : WalksS prog w A.in1 I fp wr G n P St) (D : Addr) (dF : D ∉ fp) (xs : List Str) (len : xs.length = n) (nd : xs.Nodup) (few : n < 64) (val : ∀ i v, P i v → ∃ t, v = .str (xs.getD i Str.empty) t) :
    ∀ (k i : Nat) (s : Shared), n - i = k → i ≤ n → St i s → s.heap.SetOf (PySem.strKind prog w) D (fun z => (xs.take i).any (· == z)) i →
      (∀ s', Moved (D :: wr) G s s' → s'.heap.SetOf (PySem.strKind prog w) D (fun z => (xs.take n).any (· == z)) n → R (.ok (.ret .none)) s') → codeAny (model prog w) A (.builtin "set.update.loop" ⟨[.ref D, .ref I], []⟩) R s := by
  have dW : D ∉ wr := fun z => dF (Wk.sub _ z)
  have up : ∀ b ∈ wr, b ∈ D :: wr := fun b z => List.mem_cons_of_mem _ z
  intro k
  induction k with
  | zero =>
    intro i s hk hi st hS fin
    have ein : i = n := by omega
    subst ein
    refine codeAny_builtin PyProof.Rows.F.entry_set_update_loop ?_
    rw [Around.under_plainId PyProof.Rows.F.plain_set_update_loop _]
    show wpAny _ A.in1 (pyNext (.ref I) >>= _) _ _ s
    refine wpAny_bind (Wk.done s _ _ st fun s' mv => wpAny_pure (fin s' (mv.mono up) ?_))
    obtain ⟨o, es, ep, t, ho, more⟩ := hS
    exact ⟨o, es, ep, t, mv.heap D _ dW ho, more⟩
  | succ k ih =>
    intro i s hk hi st hS fin
    have lt : i < n := by omega
    have lx : i < xs.length := by omega
    refine codeAny_builtin PyProof.Rows.F.entry_set_update_loop ?_
    rw [Around.under_plainId PyProof.Rows.F.plain_set_update_loop _]
    show wpAny _ A.in1 (pyNext (.ref I) >>= _) _ _ s
    refine wpAny_bind (Wk.item i s _ _ lt st fun v s' pv st' mv => ?_)
    obtain ⟨t, rfl⟩ := val i v pv
    have hS' : s'.heap.SetOf (PySem.strKind prog w) D (fun z => (xs.take i).any (· == z)) i := by
      obtain ⟨o, es, ep, tb, ho, more⟩ := hS
      exact ⟨o, es, ep, tb, mv.heap D _ dW ho, more⟩
    show wpAny _ A.in1 (holding [Value.str (xs.getD i Str.empty) t] (setAdd D (.str (xs.getD i Str.empty) t)) >>= _) _ _ s'
    refine wpAny_bind (wpAny_holding ?_)
    unfold setAdd
    refine wpAny_holding (wpAny_bind ((PySem.strKind prog w).pyHash (k := xs.getD i Str.empty) (strKind_is _ _ _ _) ?_))
    refine wpAny_setAddHashed_of (knd := PySem.strKind prog w) (s := { s' with toks := s'.toks + 1 }) (strKind_is _ _ _ _) rfl hS' (by unfold scanBound; omega) fun h' sb grown => ?_
    have grown' : h'.SetOf (PySem.strKind prog w) D (fun z => (xs.take (i + 1)).any (· == z)) (i + 1) :=
      PyProof.Rows.SetOf_congr grown (fun z => (any_take lx z).symm) (by rw [nd_take nd lx]; rfl)
    refine wpAny_pure ⟨plainId_quiet PyProof.Rows.F.plain_set_update_loop _, ih (i + 1) _ (by omega) lt (Wk.frame _ s' _ _ st' (Nat.le_succ _) fun b hb o e => ?_) grown' fun s'' mv2 done => ?_⟩
    · rw [sb.2 b (fun z : b = D => dF (by rw [← z]; exact hb))]
      exact e
    · refine fin s'' (Moved.trans Wk.gtrans ((mv.mono up).then_heap (Nat.le_succ _) fun b o hb e => ?_) mv2) done
      rw [sb.2 b (fun z : b = D => hb (by rw [z]; exact List.mem_cons_self))]
      exact e
end
section
variable {prog : Program} {w : World} {A : Around} {E : Value → Shared → Prop} {s : Shared}
/-- what set() asks of its argument -/
structure Src (prog : Program) (w : World) (T TI : String) (l : Addr) (items : Array Value) (Is : Heap → Prop) (At : Addr → Nat → Heap → Prop) : Prop where
  keep : ∀ h h', Is h → (∀ b o, h.get? b = some o → h'.get? b = some o) → Is h'
  obj : ∀ h, Is h → ∃ o, h.get? l = some o ∧ o.cls = .type T
  s1 : isSubtype (.type T) (.type "set") = pure false
  s2 : isSubtype (.type T) (.type "frozenset") = pure false
  s3 : (Value.type T == Value.type "dict") = false
  iter : ∀ (A' : Around) (E : Value → Shared → Prop) (s : Shared) (Q : Value → Shared → Prop), Is s.heap → Q (.ref s.heap.objs.size) { s with heap := s.heap.push { cls := .type TI, data := .fields #[.ref l, .int 0 0] } } → wpAny (model prog w) A' (pyIter (.ref l)) Q E s
  walk : ∀ (A' : Around) (I : Addr), A'.handled = none → l ≠ I → Walks prog w A' I [I, l] [I] items.size (fun i v => items[i]? = some v) (fun i h => At I i h ∧ Is h)
  at0 : ∀ (h : Heap) (I : Addr), h.get? I = some { cls := .type TI, data := .fields #[.ref l, .int 0 0] } → At I 0 h
set_option maxHeartbeats 3200000 in
theorem set_from {T TI : String} {l : Addr} {items : Array Value} {Is : Heap → Prop} {At : Addr → Nat → Heap → Prop} {xs : List Str} {Q : Value → Shared → Prop} (S : Src prog w T TI l items Is At) (hh : A.handled = none) (is0 : Is s.heap) (ia : StrsAre items.toList xs) (nd : xs.Nodup) (few : xs.length < 64)
    (h : ∀ (h' : Heap) (tk : Nat), h'.SetOf (PySem.strKind prog w) s.heap.objs.size (fun z => (xs.take items.size).any (· == z)) items.size → (∀ b o, b < s.heap.objs.size → s.heap.get? b = some o → h'.get? b = some o) → Q (.ref s.heap.objs.size) { s with heap := h', toks := tk }) :
    wpAny (model prog w) A (call (.type "set") [.ref l]) Q E s := by
  obtain ⟨c, tl, hmro⟩ := PySem.F.called_set.mro
  have hmade := PySem.F.called_set.made
  have hsub := PySem.F.called_set.sub
  refine wpAny_call (codeAny_of_tree ?_)
  show wpAny _ _ (callAny (.type "set") _) _ _ _
  refine wpAny_pure ⟨Code.quiet_builtin _ (by decide +kernel), codeAny_builtin PySem.F.entry_type_call ?_⟩
  rw [Around.under_plain (weight_type_call_type "set" [.ref l] []) rfl]
  have k1 := PySem.F.called_set.notType
  have k2 := PySem.F.called_set.canCreate
  have k3 := PySem.F.typeCall_set_1 (.ref l)
  repeat (any_goals (first | assumption | wp_step))
  refine codeAny_mono (code_set_new_1 (.ref l) (E := E) (Q₁ := fun obj z => ∃ led : Bool, obj = .ref s.heap.objs.size ∧ z = { s with heap := s.heap.push { cls := .type "set", dict := none, data := .set #[] 0 (.fresh 0 0 led) } }) fun led => ⟨led, rfl, rfl⟩) fun r z hr => ?_
  cases r with
  | error e => exact hr
  | ok fl =>
    cases fl with
    | ret obj =>
      obtain ⟨led, rfl, rfl⟩ := hr
      generalize eN : s.heap.push { cls := .type "set", dict := none, data := .set #[] 0 (.fresh 0 0 led) } = N
      have at_ : N.get? s.heap.objs.size = some { cls := .type "set", dict := none, data := .set #[] 0 (.fresh 0 0 led) } := by rw [← eN]; exact Heap.get?_push_size _ rfl
      have zN : N.objs.size = s.heap.objs.size + 1 := by rw [← eN]; exact Heap.size_push ..
      have kN : ∀ b o, s.heap.get? b = some o → N.get? b = some o := fun b o e => by rw [← eN]; exact Heap.get?_push_of_some _ e
      have ty : Shared.TypeIs { s with heap := N } (.ref s.heap.objs.size) "set" := ⟨_, at_, rfl⟩
      have isN : Is N := S.keep _ _ is0 kN
      have hli := PySem.F.called_set.init.lookup
      have hbi := PySem.F.called_set.init.bind (.ref s.heap.objs.size)
      repeat (any_goals (first | assumption | wp_step))
      refine codeAny_mono (codeAny_call_builtin (R := wants (fun r z => r = .none ∧ ∃ h' tk, z = { s with heap := h', toks := tk } ∧ h'.SetOf (PySem.strKind prog w) s.heap.objs.size (fun y => (xs.take items.size).any (· == y)) items.size ∧
          (∀ b o, b < s.heap.objs.size → s.heap.get? b = some o → h'.get? b = some o)) E) PySem.F.called_set.init.plain PySem.F.entry_set_init (check_set_init_1 ty ?_)) fun r₂ z hr₂ => ?_
      · obtain ⟨ol, gl, cl⟩ := S.obj _ isN
        obtain ⟨ocls, odict, odata, oslots⟩ := ol
        simp only at cl
        subst cl
        have g1 := S.s1
        have g2 := S.s2
        have g3 := S.s3
        unfold Builtin.«set.__init__» noKeywords Builtin.Frozenset.updateFrom
        generalize ePI : pyIter = PI
        wp_walk
        subst ePI
        refine S.iter _ _ _ _ isN ?_
        refine wpAny_bind (wpAny_runValue ?_)
        have lS : l < s.heap.objs.size := by
          obtain ⟨o, g, _⟩ := S.obj _ is0
          exact Heap.lt_size g
        have h3 : A.in1.in1.in1.handled = none := by simp [hh]
        have lI : l ≠ N.objs.size := by rw [zN]; exact Nat.ne_of_lt (Nat.lt_succ_of_lt lS)
        have dF : s.heap.objs.size ∉ [N.objs.size, l] := by
          rw [zN]
          simp only [List.mem_cons, List.mem_singleton, List.not_mem_nil, or_false, not_or]
          exact ⟨Nat.ne_of_lt (Nat.lt_succ_self _), Nat.ne_of_gt lS⟩
        have len : xs.length = items.size := by rw [← StrsAre.len_eq ia, Array.length_toList]
        have gI : (N.push { cls := .type TI, data := .fields #[.ref l, .int 0 0] }).get? N.objs.size = some { cls := .type TI, data := .fields #[.ref l, .int 0 0] } := Heap.get?_push_size _ rfl
        have kI : ∀ b o, N.get? b = some o → (N.push { cls := .type TI, data := .fields #[.ref l, .int 0 0] }).get? b = some o := fun b o e => Heap.get?_push_of_some _ e
        refine grow_set ((S.walk _ _ h3 lI).toS) s.heap.objs.size dF xs len nd (by rw [← len]; exact few) (fun i v hv => SS.strs_at ia i v (by rw [Array.getElem?_toList]; exact hv)) (items.size - 0) 0 _ (by omega) (Nat.zero_le _)
          ⟨S.at0 _ _ gI, S.keep _ _ isN kI⟩ ?start0 ?fin0
        case start0 => exact PyProof.Rows.SetOf_congr ((PyProof.Rows.setObjOf_fresh (knd := PySem.strKind prog w) led).setOf (kI _ _ at_) (by unfold scanBound; omega)) (fun _ => rfl) rfl
        case fin0 =>
          intro s' mv hS'
          obtain ⟨h', g', d', tk', os'⟩ := s'
          have eg : g' = s.gens := mv.gens
          have ed : d' = s.drawn := mv.drawn
          have eo : os' = s.os := mv.os
          subst eg; subst ed; subst eo
          show wpAny _ _ _ _ _ _
          refine wpAny_pure ?_
          show wpAny _ _ (ret Value.none) _ _ _
          refine wpAny_pure ⟨rfl, h', tk', rfl, hS', fun b o hb e => mv.heap b o ?_ (kI _ _ (kN _ _ e))⟩
          simp only [List.mem_cons, List.mem_singleton, List.not_mem_nil, or_false, not_or]
          exact ⟨Nat.ne_of_lt hb, by show b ≠ N.objs.size; rw [zN]; exact Nat.ne_of_lt (Nat.lt_succ_of_lt hb)⟩
      · cases r₂ with
        | error e => exact hr₂
        | ok fl₂ =>
          cases fl₂ with
          | ret r =>
            obtain ⟨rfl, h', tk, rfl, hS', hk'⟩ := hr₂
            repeat (any_goals (first | assumption | wp_step))
            exact h _ _ hS' hk'
          | _ => exact hr₂.elim
    | _ => exact hr.elim
end
end Ow

namespace Ow
open PySem PySem.Spec PyProof.Rows L2
section
variable {prog : Program} {w : World}
theorem src_list (l : Addr) (items : Array Value) : Src prog w "list" "list_iterator" l items (fun h => h.IsList l items) (fun I i h => h.IsListIter I l i) where
  keep := fun h h' z k => z.at fun o e => k l o e
  obj := fun h z => by obtain ⟨o, g, c, _⟩ := z; exact ⟨o, g, c⟩
  s1 := PySem.F.sub_list_set
  s2 := PySem.F.sub_list_frozenset
  s3 := by decide
  iter := fun A' E s Q z q => wpAny_pyIter_list z q
  walk := fun A' I hh ne => Walks.list hh I l ne items
  at0 := fun h I g => ⟨_, g, rfl, rfl⟩
theorem src_tup (l : Addr) (items : Array Value) : Src prog w "tuple" "tuple_iterator" l items (fun h => h.IsTuple l items) (fun I i h => h.IsTupleIter I l i) where
  keep := fun h h' z k => z.at fun o e => k l o e
  obj := fun h z => by obtain ⟨o, g, c, _⟩ := z; exact ⟨o, g, c⟩
  s1 := PySem.F.sub_tuple_set
  s2 := PySem.F.sub_tuple_frozenset
  s3 := by decide
  iter := fun A' E s Q z q => wpAny_pyIter_tuple z q
  walk := fun A' I hh ne => Walks.tuple hh I l ne items
  at0 := fun h I g => ⟨_, g, rfl, rfl⟩
end
section
variable {X : Cx}
def tLenSetT (K : PySem.W.Frag) (ta : TE) : TE := fun σ H Q => ta σ H fun x H1 => ∃ l, ∃ xs : List Str, x = .ref l ∧ (SqL K H1 l (xs.map V.str) ∨ SqT K H1 l (xs.map V.str)) ∧ xs.Nodup ∧ xs.length < 64 ∧ Q (.int xs.length) H1
theorem pe_lenSetT {a : Expr} {ta : TE} {p p2 q pos : Pos} (hc : X.calm = true) (hg : Gl X "len") (hm : X.mg "len" = none) (hg2 : Gl X "set") (hm2 : X.mg "set" = none) (ha : PE X a ta)
    (na : starEach [a] X.env = (false, eval a X.env) :: starEach [] X.env := by rfl) : PE X (.Call (.Name "len" p) [.Call (.Name "set" p2) [a] [] q] [] pos) (tLenSetT X.K ta) := by
  refine ⟨fun pins s σ H Q I h => ?_⟩
  refine Call_ (ld_blt I hg hm boot_len (PyProof.Rows.callWith_builtin1 (PyProof.Rows.args_cons ?_ rfl) rfl rfl))
  refine Call_ (ld_blt I hg2 hm2 boot_set ?_)
  refine PyProof.Rows.callWith_type1 (PyProof.Rows.args_cons (thn (ha.run pins s σ H _ I h) fun v s1 ⟨x, H1, I1, r1, q1⟩ => PyProof.Rows.args_nil ?_) na) na rfl
  obtain ⟨l, xs, rfl, hq, nd, few, q1⟩ := q1
  cases r1
  have last : ∀ (its : List Value), Vals (xs.map V.str) its → ∀ (h' : Heap) (tk : Nat), h'.SetOf (PySem.strKind X.prog X.w) s1.heap.objs.size (fun z => (xs.take its.toArray.size).any (· == z)) its.toArray.size →
      (∀ b o, b < s1.heap.objs.size → s1.heap.get? b = some o → h'.get? b = some o) →
      wpAny (model X.prog X.w) X.A (spliced (backTo pos (starEach [] X.env))) (fun vs z => wpAny (model X.prog X.w) X.A (call (.builtin "len") (Value.ref s1.heap.objs.size :: vs)) (EP X pins σ Q) X.xe z) X.xe { s1 with heap := h', toks := tk } := fun its r h' tk hS hk => by
    refine PyProof.Rows.args_nil ?_
    have hl : its.toArray.size = xs.length := by rw [List.size_toArray, ← r.length, List.length_map]
    rw [hl] at hS
    obtain ⟨o, es, ep, t, ho, hex, hd, _, _, _, hf, hn⟩ := hS
    have I2 : Inv X pins σ H1 { s1 with heap := h', toks := tk } := I1.kept fun b o e => hk b o (Heap.lt_size e) e
    exact call_len_set ho hex hd hf (by rw [hn]; omega) ⟨.int xs.length, H1, I2.tok _, ⟨_, by rw [hn]⟩, q1⟩
  rcases hq with hq | hq
  · obtain ⟨its, r, pl, hz⟩ := I1.list hq
    exact set_from (src_list l its.toArray) (I1.ok.hd hc) pl.isList (by simpa using strsAre_of r) nd few fun h' tk hS hk => last its r h' tk hS hk
  · obtain ⟨its, r, pl, hz⟩ := I1.tuple hq
    exact set_from (src_tup l its.toArray) (I1.ok.hd hc) pl (by simpa using strsAre_of r) nd few fun h' tk hS hk => last its r h' tk hS hk
end
end Ow

/-! what walks lists and tuples alike -/
namespace Ow
open PySem PySem.Spec PyProof.Rows L2
def SqA (K : PySem.W.Frag) (H : Hp) (a : Addr) (xs : List V) : Prop := SqL K H a xs ∨ SqT K H a xs
theorem sqt_same {K : PySem.W.Frag} {H H' : Hp} {a : Addr} {xs : List V} (s : Same H H') (h : SqT K H a xs) : SqT K H' a xs :=
  h.elim (fun h => .inl (h.elim (fun h => .inl (s _ _ h)) fun ⟨o, h⟩ => .inr ⟨o, s _ _ h⟩)) fun h => .inr h
theorem SqA.same {K : PySem.W.Frag} {H H' : Hp} {a : Addr} {xs : List V} (s : Same H H') (h : SqA K H a xs) : SqA K H' a xs := h.elim (fun h => .inl (s.seq h)) fun h => .inr (sqt_same s h)
theorem walk_enumT {K : PySem.W.Frag} {a : Addr} {xs : List V} : Walk (IteT K a) xs.length (fun H => SqT K H a xs) (YPair (fun i => some (.int (i : Nat))) (fun i => xs[i]?)) := by
  refine ⟨fun i _ hi q => ⟨xs, xs[i], q, by simp [hi]⟩, fun _ q => ⟨xs, q, rfl⟩, fun i H v H' _ q y => ?_⟩
  obtain ⟨T, x, h1, h2, h3, h4⟩ := y
  exact ⟨T, .int (i : Nat), x, h1, h2, h3, rfl, h4 xs q⟩
/-- for x in a list or a tuple: the walker is one that gives xs[i] while the heap only grows -/
def iSeqA (K : PySem.W.Frag) (tl : TE) : TI := fun σ H R => tl σ H fun x H1 => ∃ a xs, x = .ref a ∧ SqA K H1 a xs ∧ ∀ (J : It) (G : Hp → Prop), Walk J xs.length G (YAt xs) → (∀ H', Same H1 H' → G H') → R J H1
theorem pi_seqA {X : Cx} {tg l : Expr} {tl : TE} (hl : PE X l tl) : PI X tg l (iSeqA X.K tl) := by
  refine ⟨fun pins s σ H R I h => ?_⟩
  refine thn (hl.run pins s σ H _ I h) fun v s1 ⟨x, H1, I1, r1, a, xs, e, hA, q⟩ => ?_
  subst e
  cases r1
  rcases hA with hq | hq
  · obtain ⟨its, rv, p, hz⟩ := I1.list hq
    refine wpAny_pyIter_list p.isList ?_
    refine ⟨s1.heap.objs.size, [s1.heap.objs.size], _, _, H1, rfl, I1.kept (t' := s1.toks) fun b o e => Heap.get?_push_of_some _ e, turn_list a _, ⟨_, Heap.get?_push_size _ rfl, rfl, rfl⟩, fun b hb => ?_, q _ _ walk_list fun H' z => z.seq hq⟩
    have e : b = s1.heap.objs.size := by simpa using hb
    subst e
    exact I1.fpOk (Nat.le_refl _) (I1.hok.fresh (Nat.le_refl _))
  · obtain ⟨its, rv, p, hz⟩ := I1.tuple hq
    refine wpAny_pyIter_tuple (show s1.heap.IsTuple a its.toArray from p) ?_
    refine ⟨s1.heap.objs.size, [s1.heap.objs.size], _, _, H1, rfl, I1.kept (t' := s1.toks) fun b o e => Heap.get?_push_of_some _ e, turn_tuple a _, ⟨_, Heap.get?_push_size _ rfl, rfl, rfl⟩, fun b hb => ?_, q _ _ walk_tup fun H' z => sqt_same z hq⟩
    have e : b = s1.heap.objs.size := by simpa using hb
    subst e
    exact I1.fpOk (Nat.le_refl _) (I1.hok.fresh (Nat.le_refl _))
/-- for i, x in enumerate(a list or a tuple) -/
def iEnumA (K : PySem.W.Frag) (ta : TA) : TI := fun σ H R => ta σ H fun vs H1 => ∃ a xs, vs = [.ref a] ∧ SqA K H1 a xs ∧ ∀ (J : It) (G : Hp → Prop), Walk J xs.length G (YPair (fun i => some (.int (i : Nat))) (fun i => xs[i]?)) → (∀ H', Same H1 H' → G H') → R J H1
theorem pi_enumA {X : Cx} {e : Expr} {ta : TA} {p pos tpos : Pos} {elts : List Expr} {kk : Nat} (hg : Gl X "enumerate") (hm : X.mg "enumerate" = none) (ha : PA X [e] ta) (hs : starEach [e] X.env = [(false, eval e X.env)] := by rfl) :
    PI X (.Tuple elts kk tpos) (.Call (.Name "enumerate" p) [e] [] pos) (iEnumA X.K ta) := by
  refine ⟨fun pins s σ H R I h => ?_⟩
  refine Call_ (ld_blt I hg hm boot_enumerate (PyProof.Rows.callWith_type1 (thn (ha.run pos pins s σ H _ I h) fun us s1 ⟨vs, H1, I1, r1, q1⟩ => ?_) hs rfl))
  obtain ⟨a, xs, ex, hA, q⟩ := q1
  subst ex
  cases r1 with
  | cons r rr =>
    cases rr
    cases r
    have fpo : ∀ b, b ∈ [s1.heap.objs.size + 1, s1.heap.objs.size] → s1.heap.objs.size ≤ b := fun b hb => by
      have e' : b = s1.heap.objs.size + 1 ∨ b = s1.heap.objs.size := by simpa using hb
      omega
    rcases hA with hq | hq
    · obtain ⟨its, rv, p', hz⟩ := I1.list hq
      refine call_enumerate_list p'.isList fun h' he hit hsz hk => wpAny_pyIter_enum he ?_
      have I2 : Inv X pins σ H1 { s1 with heap := h' } := I1.kept (t' := s1.toks) hk
      exact ⟨s1.heap.objs.size + 1, [s1.heap.objs.size + 1, s1.heap.objs.size], _, _, H1, rfl, I2, turn_enum a (s1.heap.objs.size + 1) s1.heap.objs.size, ⟨⟨.none, he⟩, hit, Nat.succ_ne_self _⟩, fun b hb => I1.fpOk (fpo b hb) (I1.hok.fresh (fpo b hb)), q _ _ walk_enum fun H' z => z.seq hq⟩
    · obtain ⟨its, rv, p', hz⟩ := I1.tuple hq
      have p' : s1.heap.IsTuple a its.toArray := p'
      have al : a < s1.heap.objs.size := by obtain ⟨o, q, _⟩ := p'; exact Heap.lt_size q
      refine enum_tup p' fun h' he hit hsz hk => wpAny_pyIter_enum he ?_
      have I2 : Inv X pins σ H1 { s1 with heap := h' } := I1.kept (t' := s1.toks) hk
      exact ⟨s1.heap.objs.size + 1, [s1.heap.objs.size + 1, s1.heap.objs.size], _, _, H1, rfl, I2, turn_enumT a (s1.heap.objs.size + 1) s1.heap.objs.size, ⟨⟨.none, he⟩, hit, Nat.succ_ne_self _, Nat.ne_of_lt al, Nat.ne_of_gt (Nat.lt_succ_of_lt al)⟩, fun b hb => I1.fpOk (fpo b hb) (I1.hok.fresh (fpo b hb)), q _ _ walk_enumT fun H' z => sqt_same z hq⟩
end Ow

/-! xs[::-1] of a list, of a tuple -/
namespace Ow
open PySem PySem.Spec PyProof.Rows L2 HT
section
variable {prog : Program} {w : World} {A : Around} {E : Value → Shared → Prop} {s : Shared}
theorem adj_rev (n : Nat) : Builtin.Slice.sliceAdjust none none (-1) (n : Int) = ((n : Int) - 1, -1) := by
  unfold Builtin.Slice.sliceAdjust
  simp
theorem plc_rev (n : Nat) : Builtin.Slice.slicePlaces ((n : Int) - 1) (-1) (-1) = n := by
  unfold Builtin.Slice.slicePlaces
  by_cases h : n = 0
  · subst h
    simp
  · have g : ((n : Int) - 1) > -1 := by omega
    simp
    omega
theorem appl_rev {sl : Addr} {tk : Tok} {n : Nat} {Q : Int × Int × Nat → Shared → Prop} (hs : s.heap.IsSliceOf sl .none .none (.int (-1) tk)) (q : Q ((n : Int) - 1, -1, n) s) :
    wpAny (model prog w) A (Builtin.Slice.sliceApplied (.ref sl) (pure (n : Int))) Q E s := by
  obtain ⟨ob, e1, e2, e3⟩ := id hs
  unfold Builtin.Slice.sliceApplied Builtin.Slice.sliceFields
  refine wpAny_bind (wpAny_bind (wpAny_field e1 e3 (x := .none) rfl (wpAny_bind (wpAny_field e1 e3 (x := .none) rfl (wpAny_bind (wpAny_field e1 e3 (x := .int (-1) tk) rfl (wpAny_pure ?_)))))))
  refine wpAny_bind (slicePart_int ?_)
  show wpAny _ _ (if ((-1 : Int) == 0) = true then _ else _) _ _ s
  rw [if_neg (by decide)]
  refine wpAny_bind (slicePart_none (wpAny_bind (slicePart_none (wpAny_bind (wpAny_pure ?_)))))
  show wpAny _ _ (match Builtin.Slice.sliceAdjust none none (-1) (n : Int) with | (l, h) => pure (l, (-1 : Int), Builtin.Slice.slicePlaces l h (-1))) _ _ s
  rw [adj_rev]
  show wpAny _ _ (pure ((n : Int) - 1, (-1 : Int), Builtin.Slice.slicePlaces ((n : Int) - 1) (-1) (-1))) _ _ s
  rw [plc_rev]
  exact wpAny_pure q
theorem pick_rev (xs : Array Value) : ((List.range xs.size).filterMap fun (m : Nat) => xs[((xs.size : Int) - 1 + (m : Int) * -1).toNat]?).toArray = xs.toList.reverse.toArray := by
  refine congrArg List.toArray ?_
  have e : ∀ n, n ≤ xs.size → (List.range n).filterMap (fun (m : Nat) => xs[((xs.size : Int) - 1 + (m : Int) * -1).toNat]?) = xs.toList.reverse.take n := by
    intro n
    induction n with
    | zero => intro _; rfl
    | succ n ih =>
      intro hn
      have j : ((xs.size : Int) - 1 + (n : Int) * -1).toNat = xs.size - 1 - n := by omega
      have l2 : xs.size - 1 - n < xs.size := by omega
      have r : xs.toList.reverse[n]? = some xs[xs.size - 1 - n] := by
        rw [List.getElem?_reverse (by simp; omega)]
        simp [Array.getElem?_eq_getElem l2]
      have q : xs[((xs.size : Int) - 1 + (n : Int) * -1).toNat]? = some xs[xs.size - 1 - n] := by
        rw [j]
        exact Array.getElem?_eq_getElem l2
      rw [List.range_succ, List.filterMap_append, ih (by omega), List.take_add_one, r]
      simp only [List.filterMap_cons, q, List.filterMap_nil]
      rfl
  rw [e xs.size (Nat.le_refl _)]
  exact List.take_of_length_le (by simp)
theorem item_rev {t sl : Addr} {items : Array Value} {tk : Tok} {Q : Value → Shared → Prop} (ht : IsTup s.heap t items) (hs : s.heap.IsSliceOf sl .none .none (.int (-1) tk))
    (q : Q (.ref s.heap.objs.size) { s with heap := s.heap.push { cls := .type "tuple", data := .seq items.toList.reverse.toArray } }) (hz : items.size ≤ sizeLine) : wpAny (model prog w) A (getItem (.ref t) (.ref sl)) Q E s := by
  have zz : sizeOk (.seq items.toList.reverse.toArray) := by
    show items.toList.reverse.toArray.size ≤ sizeLine
    simpa using hz
  obtain ⟨ob, e1, e2, e3⟩ := id hs
  have ty : s.TypeIs (.ref sl) "slice" := ⟨ob, e1, e2⟩
  unfold getItem
  try with_reducible refine wpAny_holding ?_
  first | refine wpAny_bind (wpAny_pure ?_) | skip
  refine wpAny_bind (wpAny_sequenceKey ht.typeIs (by decide) ?_)
  refine wpAny_bind (wpAny_callSpecial?_slot (name := Str.ofString "__getitem__") ht.typeIs PyProof.Rows.slot_tuple_getitem (wpAny_call_entry PyProof.Rows.slot_tuple_getitem ht.typeIs entry_tuple_getitem ?_ (args_tuple_getitem _ _)))
  show wpAny _ _ (Builtin.Tuple.tupleItemsOf (.ref t) >>= _) _ _ s
  refine wpAny_bind (tupleItemsOf_ ht (wpAny_bind (wpAny_typeOf ty ?_)))
  rw [if_pos (by decide)]
  refine wpAny_bind (appl_rev hs ?_)
  have no : ¬ ((((items.size : Int) - 1) == 0 && (-1 : Int) == 1 && items.size == items.size) = true) := by simp
  show wpAny _ _ (if (((items.size : Int) - 1) == 0 && (-1 : Int) == 1 && items.size == items.size) = true then _ else _) _ _ s
  rw [if_neg no, pick_rev]
  first
    | exact wpAny_bind (m := Builtin.Tuple.tupleExact _) (wpAny_newObj_type (wpAny_pure ⟨_, rfl, wpAny_pure q⟩) zz)
    | exact wpAny_bind (m := Builtin.Tuple.tupleExact _) (wpAny_newObj_type (wpAny_bind (wpAny_pure (wpAny_pure ⟨_, rfl, wpAny_pure q⟩))) zz)
    | exact wpAny_bind (wpAny_bind (m := Builtin.Tuple.tupleExact _) (wpAny_newObj_type (wpAny_pure (wpAny_pure ⟨_, rfl, wpAny_pure q⟩)) zz))
end
/-- the items the other way round -/
def rRev (K : PySem.W.Frag) : V → Hp → VK → Prop := fun x H Q => ∃ a xs, x = .ref a ∧ ((SqL K H a xs ∧ ∀ p, H p = none → Q (.ref p) (upd H p (.lst xs.reverse))) ∨ (SqT K H a xs ∧ ∀ p, H p = none → Q (.ref p) (upd H p (.tup xs.reverse))))
def tRev (K : PySem.W.Frag) (te ts : TE) : TE := fun σ H Q => te σ H fun x H1 => ts σ H1 fun i H2 => i = .int (-1) ∧ rRev K x H2 Q
section
variable {X : Cx} {e st : Expr} {te ts : TE} {pos p2 : Pos}
theorem pe_rev (he : PE X e te) (hst : PE X st ts) : PE X (.Subscript e (.Slice none none (some st) p2) pos) (tRev X.K te ts) := by
  refine ⟨fun pins s σ H Q I h => ?_⟩
  refine Subscript_ (thn (he.run pins s σ H _ I h) fun v s1 ⟨x, H1, I1, rx, q1⟩ => ?_)
  refine wpAny_Slice ?_
  simp only [evalPart_none, evalPart_some]
  refine wpAny_pure (wpAny_pure ?_)
  refine thn (hst.run pins s1 σ H1 _ I1 q1) fun vs s2 ⟨i, H2, I2, ri, ei, a, xs, ex, q2⟩ => ?_
  subst ei ex
  obtain ⟨tk, rfl⟩ := ri
  obtain rfl : v = Value.ref a := rx
  have I3 : Inv X pins σ H2 { s2 with heap := s2.heap.push { cls := .type "slice", data := .fields #[.none, .none, .int (-1) tk] } } := I2.kept (t' := s2.toks) fun b ob q => Heap.get?_push_of_some _ q
  have hsl : (s2.heap.push { cls := .type "slice", data := .fields #[.none, .none, .int (-1) tk] }).IsSliceOf s2.heap.objs.size .none .none (.int (-1) tk) := Heap.IsSliceOf.new ..
  show wpAny (model X.prog X.w) X.A (subscriptTail e (.Slice none none (some st) p2) (.ref a) (.ref s2.heap.objs.size)) (EP X pins σ Q) X.xe { s2 with heap := s2.heap.push { cls := .type "slice", data := .fields #[.none, .none, .int (-1) tk] } }
  rcases q2 with ⟨hx, q⟩ | ⟨hx, q⟩
  · obtain ⟨its, rv, pl, hz⟩ := I3.list hx
    refine tail_any pl.isList.typeIs slot_list_getitem.lookup (wpAny_getItem_list_slice (hsz := by rw [List.size_toArray, ← rv.length]; exact hz) pl.isList hsl .none .none (.int (-1) tk) (by decide) ?_) (by with_unfolding_all rfl)
    rw [PySem.W.krv_pick]
    refine ⟨.ref _, _, I3.laid (t' := s2.toks) (o := .lst xs.reverse) (fun b ob q => Heap.get?_push_of_some _ q) (Nat.le_refl _) ?_, rfl, q _ (I3.hok.fresh (Nat.le_refl _))⟩
    exact ⟨by rw [List.length_reverse]; exact hz, _, _, rv.reverse, Heap.get?_push_size _ rfl⟩
  · obtain ⟨its, rv, ht, hz⟩ := I3.tuple hx
    refine tail_any ht.typeIs PyProof.Rows.slot_tuple_getitem.lookup (item_rev ht hsl ?_ (by rw [List.size_toArray, ← rv.length]; exact hz)) (by with_unfolding_all rfl)
    refine ⟨.ref _, _, I3.laid (t' := s2.toks) (o := .tup xs.reverse) (fun b ob q => Heap.get?_push_of_some _ q) (Nat.le_refl _) ?_, rfl, q _ (I3.hok.fresh (Nat.le_refl _))⟩
    exact ⟨by rw [List.length_reverse]; exact hz, _, rv.reverse, IsTup.new _ _⟩
end
end Ow

namespace K24
open PySem PySem.Spec PyProof.Rows L2
/-! ### the defs of the text -/
def top (i : Nat) : Stmt := PySem.Challenge.pw_pairlaws_k24_parts_of_terms.main.body.getD i (.Pass ⟨0, 0, 0, 0⟩)
abbrev sPartsBelow : Stmt := top 13
def dPartsBelow : He.DefD := ⟨("parts_below", none), "parts_below", "parts_below", defArgs (top 13), defBody (top 13), defScope (top 13), [], []⟩
abbrev sSortsTold : Stmt := top 14
def dSortsTold : He.DefD := ⟨("sorts_told", none), "sorts_told", "sorts_told", defArgs (top 14), defBody (top 14), defScope (top 14), [], []⟩
abbrev sBelow : Stmt := top 16
def dBelow : He.DefD := ⟨("_below", none), "_below", "_below", defArgs (top 16), defBody (top 16), defScope (top 16), [], []⟩
abbrev sPartsChecked : Stmt := top 17
def dPartsChecked : He.DefD := ⟨("_parts_checked", none), "_parts_checked", "_parts_checked", defArgs (top 17), defBody (top 17), defScope (top 17), [], []⟩
abbrev sPartsOf : Stmt := top 18
def dPartsOf : He.DefD := ⟨("parts_of", none), "parts_of", "parts_of", defArgs (top 18), defBody (top 18), defScope (top 18), [], []⟩
abbrev sPaths : Stmt := top 19
def dPaths : He.DefD := ⟨("paths", none), "paths", "paths", defArgs (top 19), defBody (top 19), defScope (top 19), [], []⟩
abbrev sIsNumberBelow : Stmt := top 20
def dIsNumberBelow : He.DefD := ⟨("is_number_below", none), "is_number_below", "is_number_below", defArgs (top 20), defBody (top 20), defScope (top 20), [], []⟩
abbrev sPartAt : Stmt := top 21
def dPartAt : He.DefD := ⟨("part_at", none), "part_at", "part_at", defArgs (top 21), defBody (top 21), defScope (top 21), [], []⟩
abbrev sWithPart : Stmt := top 22
def dWithPart : He.DefD := ⟨("with_part", none), "with_part", "with_part", defArgs (top 22), defBody (top 22), defScope (top 22), [], []⟩
abbrev sIsWord : Stmt := top 26
def dIsWord : He.DefD := ⟨("is_word", none), "is_word", "is_word", defArgs (top 26), defBody (top 26), defScope (top 26), [], []⟩
abbrev sCheckNames : Stmt := top 28
def dCheckNames : He.DefD := ⟨("check_names", none), "check_names", "check_names", defArgs (top 28), defBody (top 28), defScope (top 28), [], []⟩
abbrev sCheckEnds : Stmt := top 30
def dCheckEnds : He.DefD := ⟨("_check_ends", none), "_check_ends", "_check_ends", defArgs (top 30), defBody (top 30), defScope (top 30), [], []⟩
abbrev sCheckTotals : Stmt := top 31
def dCheckTotals : He.DefD := ⟨("_check_totals", none), "_check_totals", "_check_totals", defArgs (top 31), defBody (top 31), defScope (top 31), [], []⟩
abbrev sStepOf : Stmt := top 32
def dStepOf : He.DefD := ⟨("_step_of", none), "_step_of", "_step_of", defArgs (top 32), defBody (top 32), defScope (top 32), [], []⟩
abbrev sCheckSteps : Stmt := top 33
def dCheckSteps : He.DefD := ⟨("_check_steps", none), "_check_steps", "_check_steps", defArgs (top 33), defBody (top 33), defScope (top 33), [], []⟩
abbrev sLawSource : Stmt := top 36
def dLawSource : He.DefD := ⟨("_law_source", none), "_law_source", "_law_source", defArgs (top 36), defBody (top 36), defScope (top 36), [], []⟩
abbrev sLawPick : Stmt := top 37
def dLawPick : He.DefD := ⟨("_law_pick", none), "_law_pick", "_law_pick", defArgs (top 37), defBody (top 37), defScope (top 37), [], []⟩
abbrev sLawNames : Stmt := top 38
def dLawNames : He.DefD := ⟨("_law_names", none), "_law_names", "_law_names", defArgs (top 38), defBody (top 38), defScope (top 38), [], []⟩
abbrev sLawFrame : Stmt := top 39
def dLawFrame : He.DefD := ⟨("_law_frame", none), "_law_frame", "_law_frame", defArgs (top 39), defBody (top 39), defScope (top 39), [], []⟩
abbrev sLawFramed : Stmt := top 40
def dLawFramed : He.DefD := ⟨("_law_framed", none), "_law_framed", "_law_framed", defArgs (top 40), defBody (top 40), defScope (top 40), [], []⟩
abbrev sLawLeaf : Stmt := top 41
def dLawLeaf : He.DefD := ⟨("_law_leaf", none), "_law_leaf", "_law_leaf", defArgs (top 41), defBody (top 41), defScope (top 41), [], []⟩
abbrev sLawFlat : Stmt := top 42
def dLawFlat : He.DefD := ⟨("_law_flat", none), "_law_flat", "_law_flat", defArgs (top 42), defBody (top 42), defScope (top 42), [], []⟩
abbrev sLawTerm : Stmt := top 43
def dLawTerm : He.DefD := ⟨("_law_term", none), "_law_term", "_law_term", defArgs (top 43), defBody (top 43), defScope (top 43), [], []⟩
abbrev sLawSomeEnds : Stmt := top 44
def dLawSomeEnds : He.DefD := ⟨("_law_some_ends", none), "_law_some_ends", "_law_some_ends", defArgs (top 44), defBody (top 44), defScope (top 44), [], []⟩
abbrev sLawParts : Stmt := top 45
def dLawParts : He.DefD := ⟨("_law_parts", none), "_law_parts", "_law_parts", defArgs (top 45), defBody (top 45), defScope (top 45), [], []⟩
abbrev sLawAllPaths : Stmt := top 46
def dLawAllPaths : He.DefD := ⟨("_law_all_paths", none), "_law_all_paths", "_law_all_paths", defArgs (top 46), defBody (top 46), defScope (top 46), [], []⟩
abbrev sLawPut : Stmt := top 47
def dLawPut : He.DefD := ⟨("_law_put", none), "_law_put", "_law_put", defArgs (top 47), defBody (top 47), defScope (top 47), [], []⟩
abbrev sLawRefused : Stmt := top 48
def dLawRefused : He.DefD := ⟨("_law_refused", none), "_law_refused", "_law_refused", defArgs (top 48), defBody (top 48), defScope (top 48), [], []⟩
abbrev sLaw : Stmt := top 49
def dLaw : He.DefD := ⟨("law", none), "law", "law", defArgs (top 49), defBody (top 49), defScope (top 49), [], []⟩
abbrev sFrame_Init : Stmt := inClass (top 34) 0
def dFrame_Init : He.DefD := ⟨("Frame", some "__init__"), "__init__", "Frame.__init__", defArgs sFrame_Init, defBody sFrame_Init, defScope sFrame_Init, [], []⟩
abbrev sBadTerm_Init : Stmt := inClass (top 7) 0
def dBadTerm_Init : He.DefD := ⟨("BadTerm", some "__init__"), "__init__", "BadTerm.__init__", defArgs sBadTerm_Init, defBody sBadTerm_Init, defScope sBadTerm_Init, [], []⟩
def fn0 : List He.DefD := [dPartsBelow, dSortsTold, dBelow, dPartsChecked, dPartsOf, dPaths, dIsNumberBelow, dPartAt, dWithPart, dIsWord]
def fn1 : List He.DefD := [dCheckNames, dCheckEnds, dCheckTotals, dStepOf, dCheckSteps, dLawSource, dLawPick, dLawNames, dLawFrame, dLawFramed]
def fn2 : List He.DefD := [dLawLeaf, dLawFlat, dLawTerm, dLawSomeEnds, dLawParts, dLawAllPaths, dLawPut, dLawRefused, dLaw, dFrame_Init]
def fn3 : List He.DefD := [dBadTerm_Init]
def fn : List He.DefD := fn0 ++ (fn1 ++ (fn2 ++ (fn3)))
def fa0 : List He.Fa := [.glo "Frame", .glo "parts_below", .glo "sorts_told", .glo "_below", .glo "_parts_checked", .glo "parts_of", .glo "paths", .glo "is_number_below", .glo "part_at", .glo "with_part"]
def fa1 : List He.Fa := [.glo "is_word", .glo "check_names", .glo "_check_ends", .glo "_check_totals", .glo "_step_of", .glo "_check_steps", .glo "_law_source", .glo "_law_pick", .glo "_law_names", .glo "_law_frame"]
def fa2 : List He.Fa := [.glo "_law_framed", .glo "_law_leaf", .glo "_law_flat", .glo "_law_term", .glo "_law_some_ends", .glo "_law_parts", .glo "_law_all_paths", .glo "_law_put", .glo "_law_refused", .glo "law"]
def fa3 : List He.Fa := [.glo "BadTerm", .glo "_PARTS_BELOW", .glo "_SORTS_TOLD", .free "abs", .free "int", .free "len", .free "range", .free "enumerate", .free "isinstance", .free "str"]
def fa4 : List He.Fa := [.free "tuple", .free "list", .free "set", .free "all", .free "any", .free "repr", .free "bool", .free "reversed", .cls "Frame", .mkr "Frame"]
def fa5 : List He.Fa := [.str "_LETTERS" "abcdefghijklmnopqrstuvwxyz", .str "_SIGNS" "abcdefghijklmnopqrstuvwxyz0123456789", .noat "Frame" "_sorts", .noat "Frame" "_letters", .noat "Frame" "_totals", .noat "Frame" "_ends"]
def fa : List He.Fa := fa0 ++ (fa1 ++ (fa2 ++ (fa3 ++ (fa4 ++ (fa5)))))
def nm0 : List PySem.Str := ["_wall", "PairError", "BadName", "TwiceTold", "BadFrame", "ComesRound", "BadTerm", "NameMissing", "UnknownName", "parts_below"]
def nm1 : List PySem.Str := ["sorts_told", "has_form", "_below", "_parts_checked", "parts_of", "paths", "is_number_below", "part_at", "with_part", "is_word"]
def nm2 : List PySem.Str := ["first_again", "check_names", "_check_ends", "_check_totals", "_step_of", "_check_steps", "Frame", "_law_source", "_law_pick", "_law_names"]
def nm3 : List PySem.Str := ["_law_frame", "_law_framed", "_law_leaf", "_law_flat", "_law_term", "_law_some_ends", "_law_parts", "_law_all_paths", "_law_put", "_law_refused"]
def nm4 : List PySem.Str := ["_PARTS_BELOW", "_SORTS_TOLD", "_LETTERS", "_SIGNS"]
def nm : List PySem.Str := nm0 ++ (nm1 ++ (nm2 ++ (nm3 ++ (nm4))))
def CFrame (K : PySem.W.Frag) : Addr := He.ga K "Frame"
def CBadTerm (K : PySem.W.Frag) : Addr := He.ga K "BadTerm"
def kPARTSBELOW0 : List PySem.Str := ["letter", "same", "other", "none", "all", "rest", "turned", "joined", "cut", "then"]
def kPARTSBELOW1 : List PySem.Str := ["closed", "walked"]
def kPARTSBELOW : List PySem.Str := kPARTSBELOW0 ++ (kPARTSBELOW1)
def vPARTSBELOW0 : List (PySem.Str × He.Dv) := [("letter", .int 0), ("same", .int 0), ("other", .int 0), ("none", .int 0), ("all", .int 0), ("rest", .int 1), ("turned", .int 1), ("joined", .int 2), ("cut", .int 2), ("then", .int 2)]
def vPARTSBELOW1 : List (PySem.Str × He.Dv) := [("closed", .int 1), ("walked", .int 1)]
def vPARTSBELOW : List (PySem.Str × He.Dv) := vPARTSBELOW0 ++ (vPARTSBELOW1)
def kSORTSTOLD0 : List PySem.Str := ["same", "other", "none", "all"]
def kSORTSTOLD : List PySem.Str := kSORTSTOLD0
def vSORTSTOLD0 : List (PySem.Str × He.Dv) := [("same", .int 1), ("other", .int 1), ("none", .int 2), ("all", .int 2)]
def vSORTSTOLD : List (PySem.Str × He.Dv) := vSORTSTOLD0
/-- what else is asked of a class -/
def ocB (K : PySem.W.Frag) : Bool := He.eqO (PySem.W.specialIn K (.builtin "object.__class__") "__get__") (some (some (.builtin "getset_descriptor.__get__"))) && decide (PySem.W.takesIn K (.builtin "object.__class__") = some true)
def icB (K : PySem.W.Frag) (C : Addr) : Bool := He.eqO (PySem.W.findIn K (.ref C) "__class__") (some (some (.builtin "object.__class__"))) && decide (PySem.W.mroIn K C (.type "object") = some true)
/-- what is asked of the error's class -/
def oexB (K : PySem.W.Frag) (C : Addr) : Bool := match K.lookup C with
  | some ⟨.type "type", _, .cls cd, sl⟩ => (match cd.mro, sl.toList with
    | .ref C' :: bm, [_, _, _, _, some (.builtin n), _] => C' == C && n == "ValueError.__new__" && !cd.hasDel && cd.hasDict && PySem.HandSPX.refsVE bm
    | _, _ => false)
  | _ => false
def btB (K : PySem.W.Frag) (C : Addr) : Bool := oexB K C && (He.eqO (PySem.W.findIn K (.ref C) "__setattr__") (some (some (.builtin "object.__setattr__"))) && (decide (PySem.W.subIn K (.ref C) (.type "BaseException") = some true) && (decide (PySem.W.typeIn K (.ref C) = some (.type "type")) && (PySem.W.keepIn K (.ref C) &&
  (He.eqO (PySem.W.findIn K (.ref C) "__init__") (some (some (.ref (He.ma K C "__init__")))) && (decide (PySem.W.typeIn K (.ref (He.ma K C "__init__")) = some (.type "function")) && (He.eqO (PySem.W.findIn K (.ref C) "path") (some none) &&
  (He.eqO (PySem.W.findIn K (.ref C) "__getattribute__") (some (some (.builtin "BaseException.__getattribute__"))) && (He.eqO (PySem.W.findIn K (.ref C) "__getattr__") (some none) && (PySem.W.hasDictIn K C && decide (PySem.W.exmOne K (.ref C) (.ref C) = some true)))))))))))
def exB (K : PySem.W.Frag) : Bool := (decide (PySem.W.kitOne K (.type "str") (.type "str") = some true)) && ((btB K (CBadTerm K)) && ((He.valsB K (He.ga K "_PARTS_BELOW") vPARTSBELOW) && ((He.valsB K (He.ga K "_SORTS_TOLD") vSORTSTOLD) && (true))))
def tabs : List He.Tab := [(fun K => He.ga K "_PARTS_BELOW", kPARTSBELOW), (fun K => He.ga K "_SORTS_TOLD", kSORTSTOLD)]
/-! ### the head's Hook: facts, tables, and one Bool more -/
abbrev AlY : Type := He.AlT × Bool
def obY (n : Nat) (g : Addr → Option Obj) : AlY := (He.obsTG n fa fn tabs g, exB (He.frG g (He.asD g n)))
def hookY (n : Nat) : PySem.W.Hook where
  α := AlY
  obs := fun s => obY n s.heap.get?
  val := fun w => (He.valT fn tabs w, true)
  says := fun w h => ∃ K : PySem.W.Frag, K.In h ∧ He.SaysT fa fn tabs w K ∧ exB K = true
  of := fun _ _ e => ⟨_, He.frG_in, congrArg (fun z : AlY => z.1) e, congrArg (fun z : AlY => z.2) e⟩
  keeps := fun _ _ _ ⟨K, hK, c⟩ k => ⟨K, PySem.W.Frag.In.keeps hK k, c⟩
theorem obY_eq {n : Nat} {g : Addr → Option Obj} {s : Shared} (h : ∀ a, g a = s.heap.get? a) : obY n g = (hookY n).obs s := by
  have e : g = s.heap.get? := funext h
  rw [e] <;> rfl
abbrev R : PySem.W.OpenRow := PySem.W.OpenLaw.row PySem.Challenge.rw_pairlaws_k24_parts_of_terms
abbrev hk : PySem.W.Hook := hookY 4
def ob (s : PySem.W.SharedT) : AlY := obY 4 (HandSHeadRun.getT s)
theorem ob_eq (s : PySem.W.SharedT) : ob s = hk.obs s.abs := obY_eq (HandSHeadRun.getT_eq s)
/-! ### what the head has told, in hand -/
structure Fx (w : World) (K : PySem.W.Frag) (mg : Str → Option Value) : Prop where
  g : ∀ (i : Nat) (x : Str), fa[i]? = some (He.Fa.glo x) → mg x = some (.ref (He.ga K x))
  f : ∀ (i : Nat) (x : Str), fa[i]? = some (He.Fa.free x) → mg x = none
  sLETTERS : ∃ t, mg "_LETTERS" = some (.str "abcdefghijklmnopqrstuvwxyz" t)
  sSIGNS : ∃ t, mg "_SIGNS" = some (.str "abcdefghijklmnopqrstuvwxyz0123456789" t)
  t : He.SaysT fa fn tabs w K
  ex : exB K = true
theorem Fx.of {w : World} {K : PySem.W.Frag} {mg : Str → Option Value} {h : Heap} (X : K.In h) (G : h.Ns mainGlobals mg) (c : He.SaysT fa fn tabs w K) (e : exB K = true) : Fx w K mg :=
  ⟨fun i _ z => He.glo_ok X G (c.d.fact i z), fun i _ z => He.free_ok X G (c.d.fact i z), He.str_ok X G (c.d.fact 50 (f := .str "_LETTERS" "abcdefghijklmnopqrstuvwxyz") rfl), He.str_ok X G (c.d.fact 51 (f := .str "_SIGNS" "abcdefghijklmnopqrstuvwxyz0123456789") rfl), c, e⟩
theorem an {a b : Bool} (h : (a && b) = true) : a = true ∧ b = true := Bool.and_eq_true_iff.mp h
section
variable {w : World} {K : PySem.W.Frag} {mg : Str → Option Value}
theorem Fx.d (Y : Fx w K mg) : He.SaysD fa fn K := Y.t.d
theorem Fx.gFrame (Y : Fx w K mg) : mg "Frame" = some (.ref (He.ga K "Frame")) := Y.g 0 _ rfl
theorem Fx.gPartsBelow (Y : Fx w K mg) : mg "parts_below" = some (.ref (He.ga K "parts_below")) := Y.g 1 _ rfl
theorem Fx.gSortsTold (Y : Fx w K mg) : mg "sorts_told" = some (.ref (He.ga K "sorts_told")) := Y.g 2 _ rfl
theorem Fx.gBelow (Y : Fx w K mg) : mg "_below" = some (.ref (He.ga K "_below")) := Y.g 3 _ rfl
theorem Fx.gPartsChecked (Y : Fx w K mg) : mg "_parts_checked" = some (.ref (He.ga K "_parts_checked")) := Y.g 4 _ rfl
theorem Fx.gPartsOf (Y : Fx w K mg) : mg "parts_of" = some (.ref (He.ga K "parts_of")) := Y.g 5 _ rfl
theorem Fx.gPaths (Y : Fx w K mg) : mg "paths" = some (.ref (He.ga K "paths")) := Y.g 6 _ rfl
theorem Fx.gIsNumberBelow (Y : Fx w K mg) : mg "is_number_below" = some (.ref (He.ga K "is_number_below")) := Y.g 7 _ rfl
theorem Fx.gPartAt (Y : Fx w K mg) : mg "part_at" = some (.ref (He.ga K "part_at")) := Y.g 8 _ rfl
theorem Fx.gWithPart (Y : Fx w K mg) : mg "with_part" = some (.ref (He.ga K "with_part")) := Y.g 9 _ rfl
theorem Fx.gIsWord (Y : Fx w K mg) : mg "is_word" = some (.ref (He.ga K "is_word")) := Y.g 10 _ rfl
theorem Fx.gCheckNames (Y : Fx w K mg) : mg "check_names" = some (.ref (He.ga K "check_names")) := Y.g 11 _ rfl
theorem Fx.gCheckEnds (Y : Fx w K mg) : mg "_check_ends" = some (.ref (He.ga K "_check_ends")) := Y.g 12 _ rfl
theorem Fx.gCheckTotals (Y : Fx w K mg) : mg "_check_totals" = some (.ref (He.ga K "_check_totals")) := Y.g 13 _ rfl
theorem Fx.gStepOf (Y : Fx w K mg) : mg "_step_of" = some (.ref (He.ga K "_step_of")) := Y.g 14 _ rfl
theorem Fx.gCheckSteps (Y : Fx w K mg) : mg "_check_steps" = some (.ref (He.ga K "_check_steps")) := Y.g 15 _ rfl
theorem Fx.gLawSource (Y : Fx w K mg) : mg "_law_source" = some (.ref (He.ga K "_law_source")) := Y.g 16 _ rfl
theorem Fx.gLawPick (Y : Fx w K mg) : mg "_law_pick" = some (.ref (He.ga K "_law_pick")) := Y.g 17 _ rfl
theorem Fx.gLawNames (Y : Fx w K mg) : mg "_law_names" = some (.ref (He.ga K "_law_names")) := Y.g 18 _ rfl
theorem Fx.gLawFrame (Y : Fx w K mg) : mg "_law_frame" = some (.ref (He.ga K "_law_frame")) := Y.g 19 _ rfl
theorem Fx.gLawFramed (Y : Fx w K mg) : mg "_law_framed" = some (.ref (He.ga K "_law_framed")) := Y.g 20 _ rfl
theorem Fx.gLawLeaf (Y : Fx w K mg) : mg "_law_leaf" = some (.ref (He.ga K "_law_leaf")) := Y.g 21 _ rfl
theorem Fx.gLawFlat (Y : Fx w K mg) : mg "_law_flat" = some (.ref (He.ga K "_law_flat")) := Y.g 22 _ rfl
theorem Fx.gLawTerm (Y : Fx w K mg) : mg "_law_term" = some (.ref (He.ga K "_law_term")) := Y.g 23 _ rfl
theorem Fx.gLawSomeEnds (Y : Fx w K mg) : mg "_law_some_ends" = some (.ref (He.ga K "_law_some_ends")) := Y.g 24 _ rfl
theorem Fx.gLawParts (Y : Fx w K mg) : mg "_law_parts" = some (.ref (He.ga K "_law_parts")) := Y.g 25 _ rfl
theorem Fx.gLawAllPaths (Y : Fx w K mg) : mg "_law_all_paths" = some (.ref (He.ga K "_law_all_paths")) := Y.g 26 _ rfl
theorem Fx.gLawPut (Y : Fx w K mg) : mg "_law_put" = some (.ref (He.ga K "_law_put")) := Y.g 27 _ rfl
theorem Fx.gLawRefused (Y : Fx w K mg) : mg "_law_refused" = some (.ref (He.ga K "_law_refused")) := Y.g 28 _ rfl
theorem Fx.gLaw (Y : Fx w K mg) : mg "law" = some (.ref (He.ga K "law")) := Y.g 29 _ rfl
theorem Fx.gBadTerm (Y : Fx w K mg) : mg "BadTerm" = some (.ref (He.ga K "BadTerm")) := Y.g 30 _ rfl
theorem Fx.gPARTSBELOW (Y : Fx w K mg) : mg "_PARTS_BELOW" = some (.ref (He.ga K "_PARTS_BELOW")) := Y.g 31 _ rfl
theorem Fx.gSORTSTOLD (Y : Fx w K mg) : mg "_SORTS_TOLD" = some (.ref (He.ga K "_SORTS_TOLD")) := Y.g 32 _ rfl
theorem Fx.bAbs (Y : Fx w K mg) : mg "abs" = none := Y.f 33 _ rfl
theorem Fx.bInt (Y : Fx w K mg) : mg "int" = none := Y.f 34 _ rfl
theorem Fx.bLen (Y : Fx w K mg) : mg "len" = none := Y.f 35 _ rfl
theorem Fx.bRange (Y : Fx w K mg) : mg "range" = none := Y.f 36 _ rfl
theorem Fx.bEnumerate (Y : Fx w K mg) : mg "enumerate" = none := Y.f 37 _ rfl
theorem Fx.bIsinstance (Y : Fx w K mg) : mg "isinstance" = none := Y.f 38 _ rfl
theorem Fx.bStr (Y : Fx w K mg) : mg "str" = none := Y.f 39 _ rfl
theorem Fx.bTuple (Y : Fx w K mg) : mg "tuple" = none := Y.f 40 _ rfl
theorem Fx.bList (Y : Fx w K mg) : mg "list" = none := Y.f 41 _ rfl
theorem Fx.bSet (Y : Fx w K mg) : mg "set" = none := Y.f 42 _ rfl
theorem Fx.bAll (Y : Fx w K mg) : mg "all" = none := Y.f 43 _ rfl
theorem Fx.bAny (Y : Fx w K mg) : mg "any" = none := Y.f 44 _ rfl
theorem Fx.bRepr (Y : Fx w K mg) : mg "repr" = none := Y.f 45 _ rfl
theorem Fx.bBool (Y : Fx w K mg) : mg "bool" = none := Y.f 46 _ rfl
theorem Fx.bReversed (Y : Fx w K mg) : mg "reversed" = none := Y.f 47 _ rfl
theorem Fx.dPartsBelow (Y : Fx w K mg) : ∃ fd, FunD K "parts_below" "parts_below" (defArgs sPartsBelow) (defBody sPartsBelow) (defScope sPartsBelow) [] [] (He.ga K "parts_below") fd := Y.d.def_ 0 (d := K24.dPartsBelow) rfl
theorem Fx.dSortsTold (Y : Fx w K mg) : ∃ fd, FunD K "sorts_told" "sorts_told" (defArgs sSortsTold) (defBody sSortsTold) (defScope sSortsTold) [] [] (He.ga K "sorts_told") fd := Y.d.def_ 1 (d := K24.dSortsTold) rfl
theorem Fx.dBelow (Y : Fx w K mg) : ∃ fd, FunD K "_below" "_below" (defArgs sBelow) (defBody sBelow) (defScope sBelow) [] [] (He.ga K "_below") fd := Y.d.def_ 2 (d := K24.dBelow) rfl
theorem Fx.dPartsChecked (Y : Fx w K mg) : ∃ fd, FunD K "_parts_checked" "_parts_checked" (defArgs sPartsChecked) (defBody sPartsChecked) (defScope sPartsChecked) [] [] (He.ga K "_parts_checked") fd := Y.d.def_ 3 (d := K24.dPartsChecked) rfl
theorem Fx.dPartsOf (Y : Fx w K mg) : ∃ fd, FunD K "parts_of" "parts_of" (defArgs sPartsOf) (defBody sPartsOf) (defScope sPartsOf) [] [] (He.ga K "parts_of") fd := Y.d.def_ 4 (d := K24.dPartsOf) rfl
theorem Fx.dPaths (Y : Fx w K mg) : ∃ fd, FunD K "paths" "paths" (defArgs sPaths) (defBody sPaths) (defScope sPaths) [] [] (He.ga K "paths") fd := Y.d.def_ 5 (d := K24.dPaths) rfl
theorem Fx.dIsNumberBelow (Y : Fx w K mg) : ∃ fd, FunD K "is_number_below" "is_number_below" (defArgs sIsNumberBelow) (defBody sIsNumberBelow) (defScope sIsNumberBelow) [] [] (He.ga K "is_number_below") fd := Y.d.def_ 6 (d := K24.dIsNumberBelow) rfl
theorem Fx.dPartAt (Y : Fx w K mg) : ∃ fd, FunD K "part_at" "part_at" (defArgs sPartAt) (defBody sPartAt) (defScope sPartAt) [] [] (He.ga K "part_at") fd := Y.d.def_ 7 (d := K24.dPartAt) rfl
theorem Fx.dWithPart (Y : Fx w K mg) : ∃ fd, FunD K "with_part" "with_part" (defArgs sWithPart) (defBody sWithPart) (defScope sWithPart) [] [] (He.ga K "with_part") fd := Y.d.def_ 8 (d := K24.dWithPart) rfl
theorem Fx.dIsWord (Y : Fx w K mg) : ∃ fd, FunD K "is_word" "is_word" (defArgs sIsWord) (defBody sIsWord) (defScope sIsWord) [] [] (He.ga K "is_word") fd := Y.d.def_ 9 (d := K24.dIsWord) rfl
theorem Fx.dCheckNames (Y : Fx w K mg) : ∃ fd, FunD K "check_names" "check_names" (defArgs sCheckNames) (defBody sCheckNames) (defScope sCheckNames) [] [] (He.ga K "check_names") fd := Y.d.def_ 10 (d := K24.dCheckNames) rfl
theorem Fx.dCheckEnds (Y : Fx w K mg) : ∃ fd, FunD K "_check_ends" "_check_ends" (defArgs sCheckEnds) (defBody sCheckEnds) (defScope sCheckEnds) [] [] (He.ga K "_check_ends") fd := Y.d.def_ 11 (d := K24.dCheckEnds) rfl
theorem Fx.dCheckTotals (Y : Fx w K mg) : ∃ fd, FunD K "_check_totals" "_check_totals" (defArgs sCheckTotals) (defBody sCheckTotals) (defScope sCheckTotals) [] [] (He.ga K "_check_totals") fd := Y.d.def_ 12 (d := K24.dCheckTotals) rfl
theorem Fx.dStepOf (Y : Fx w K mg) : ∃ fd, FunD K "_step_of" "_step_of" (defArgs sStepOf) (defBody sStepOf) (defScope sStepOf) [] [] (He.ga K "_step_of") fd := Y.d.def_ 13 (d := K24.dStepOf) rfl
theorem Fx.dCheckSteps (Y : Fx w K mg) : ∃ fd, FunD K "_check_steps" "_check_steps" (defArgs sCheckSteps) (defBody sCheckSteps) (defScope sCheckSteps) [] [] (He.ga K "_check_steps") fd := Y.d.def_ 14 (d := K24.dCheckSteps) rfl
theorem Fx.dLawSource (Y : Fx w K mg) : ∃ fd, FunD K "_law_source" "_law_source" (defArgs sLawSource) (defBody sLawSource) (defScope sLawSource) [] [] (He.ga K "_law_source") fd := Y.d.def_ 15 (d := K24.dLawSource) rfl
theorem Fx.dLawPick (Y : Fx w K mg) : ∃ fd, FunD K "_law_pick" "_law_pick" (defArgs sLawPick) (defBody sLawPick) (defScope sLawPick) [] [] (He.ga K "_law_pick") fd := Y.d.def_ 16 (d := K24.dLawPick) rfl
theorem Fx.dLawNames (Y : Fx w K mg) : ∃ fd, FunD K "_law_names" "_law_names" (defArgs sLawNames) (defBody sLawNames) (defScope sLawNames) [] [] (He.ga K "_law_names") fd := Y.d.def_ 17 (d := K24.dLawNames) rfl
theorem Fx.dLawFrame (Y : Fx w K mg) : ∃ fd, FunD K "_law_frame" "_law_frame" (defArgs sLawFrame) (defBody sLawFrame) (defScope sLawFrame) [] [] (He.ga K "_law_frame") fd := Y.d.def_ 18 (d := K24.dLawFrame) rfl
theorem Fx.dLawFramed (Y : Fx w K mg) : ∃ fd, FunD K "_law_framed" "_law_framed" (defArgs sLawFramed) (defBody sLawFramed) (defScope sLawFramed) [] [] (He.ga K "_law_framed") fd := Y.d.def_ 19 (d := K24.dLawFramed) rfl
theorem Fx.dLawLeaf (Y : Fx w K mg) : ∃ fd, FunD K "_law_leaf" "_law_leaf" (defArgs sLawLeaf) (defBody sLawLeaf) (defScope sLawLeaf) [] [] (He.ga K "_law_leaf") fd := Y.d.def_ 20 (d := K24.dLawLeaf) rfl
theorem Fx.dLawFlat (Y : Fx w K mg) : ∃ fd, FunD K "_law_flat" "_law_flat" (defArgs sLawFlat) (defBody sLawFlat) (defScope sLawFlat) [] [] (He.ga K "_law_flat") fd := Y.d.def_ 21 (d := K24.dLawFlat) rfl
theorem Fx.dLawTerm (Y : Fx w K mg) : ∃ fd, FunD K "_law_term" "_law_term" (defArgs sLawTerm) (defBody sLawTerm) (defScope sLawTerm) [] [] (He.ga K "_law_term") fd := Y.d.def_ 22 (d := K24.dLawTerm) rfl
theorem Fx.dLawSomeEnds (Y : Fx w K mg) : ∃ fd, FunD K "_law_some_ends" "_law_some_ends" (defArgs sLawSomeEnds) (defBody sLawSomeEnds) (defScope sLawSomeEnds) [] [] (He.ga K "_law_some_ends") fd := Y.d.def_ 23 (d := K24.dLawSomeEnds) rfl
theorem Fx.dLawParts (Y : Fx w K mg) : ∃ fd, FunD K "_law_parts" "_law_parts" (defArgs sLawParts) (defBody sLawParts) (defScope sLawParts) [] [] (He.ga K "_law_parts") fd := Y.d.def_ 24 (d := K24.dLawParts) rfl
theorem Fx.dLawAllPaths (Y : Fx w K mg) : ∃ fd, FunD K "_law_all_paths" "_law_all_paths" (defArgs sLawAllPaths) (defBody sLawAllPaths) (defScope sLawAllPaths) [] [] (He.ga K "_law_all_paths") fd := Y.d.def_ 25 (d := K24.dLawAllPaths) rfl
theorem Fx.dLawPut (Y : Fx w K mg) : ∃ fd, FunD K "_law_put" "_law_put" (defArgs sLawPut) (defBody sLawPut) (defScope sLawPut) [] [] (He.ga K "_law_put") fd := Y.d.def_ 26 (d := K24.dLawPut) rfl
theorem Fx.dLawRefused (Y : Fx w K mg) : ∃ fd, FunD K "_law_refused" "_law_refused" (defArgs sLawRefused) (defBody sLawRefused) (defScope sLawRefused) [] [] (He.ga K "_law_refused") fd := Y.d.def_ 27 (d := K24.dLawRefused) rfl
theorem Fx.dLaw (Y : Fx w K mg) : ∃ fd, FunD K "law" "law" (defArgs sLaw) (defBody sLaw) (defScope sLaw) [] [] (He.ga K "law") fd := Y.d.def_ 28 (d := K24.dLaw) rfl
theorem Fx.cFrame (Y : Fx w K mg) : Cls K (CFrame K) := He.cls_ok (Y.d.fact 48 (f := .cls "Frame") rfl)
theorem Fx.mFrame (Y : Fx w K mg) : Mk K (CFrame K) (He.ma K (CFrame K) "__init__") := He.mkr_ok (Y.d.fact 49 (f := .mkr "Frame") rfl)
theorem Fx.dFrame_Init (Y : Fx w K mg) : ∃ fd, FunD K "__init__" "Frame.__init__" (defArgs sFrame_Init) (defBody sFrame_Init) (defScope sFrame_Init) [] [] (He.ma K (CFrame K) "__init__") fd := Y.d.def_ 29 (d := K24.dFrame_Init) rfl
theorem Fx.dBadTerm_Init (Y : Fx w K mg) : ∃ fd, FunD K "__init__" "BadTerm.__init__" (defArgs sBadTerm_Init) (defBody sBadTerm_Init) (defScope sBadTerm_Init) [] [] (He.ma K (CBadTerm K) "__init__") fd := Y.d.def_ 30 (d := K24.dBadTerm_Init) rfl
theorem Fx.nFrameSorts (Y : Fx w K mg) : NoAttr K (CFrame K) "_sorts" := He.noat_ok (Y.d.fact 52 (f := .noat "Frame" "_sorts") rfl)
theorem Fx.nFrameLetters (Y : Fx w K mg) : NoAttr K (CFrame K) "_letters" := He.noat_ok (Y.d.fact 53 (f := .noat "Frame" "_letters") rfl)
theorem Fx.nFrameTotals (Y : Fx w K mg) : NoAttr K (CFrame K) "_totals" := He.noat_ok (Y.d.fact 54 (f := .noat "Frame" "_totals") rfl)
theorem Fx.nFrameEnds (Y : Fx w K mg) : NoAttr K (CFrame K) "_ends" := He.noat_ok (Y.d.fact 55 (f := .noat "Frame" "_ends") rfl)
theorem Fx.x0 (Y : Fx w K mg) : (decide (PySem.W.kitOne K (.type "str") (.type "str") = some true)) = true := (an Y.ex).1
theorem Fx.x1 (Y : Fx w K mg) : (btB K (CBadTerm K)) = true := (an (an Y.ex).2).1
theorem Fx.x2 (Y : Fx w K mg) : (He.valsB K (He.ga K "_PARTS_BELOW") vPARTSBELOW) = true := (an (an (an Y.ex).2).2).1
theorem Fx.x3 (Y : Fx w K mg) : (He.valsB K (He.ga K "_SORTS_TOLD") vSORTSTOLD) = true := (an (an (an (an Y.ex).2).2).2).1
theorem Fx.kPARTSBELOW (Y : Fx w K mg) : ∃ es n, KDict K w (He.ga K "_PARTS_BELOW") es n := Y.t.tab 0 (t := (fun K => He.ga K "_PARTS_BELOW", K24.kPARTSBELOW)) rfl
theorem Fx.kSORTSTOLD (Y : Fx w K mg) : ∃ es n, KDict K w (He.ga K "_SORTS_TOLD") es n := Y.t.tab 1 (t := (fun K => He.ga K "_SORTS_TOLD", K24.kSORTSTOLD)) rfl
end
/-- the world, its one habit that the top asks for told by a Bool -/
def wB (w : World) (b : Bool) : World := { w with params := { w.params with followText := fun s => if s == "special-get-raises" then b else w.params.followText s } }
theorem wB_eq (w : World) : wB w (w.params.followText "special-get-raises") = w := by
  have e : (fun s : String => if s == "special-get-raises" then w.params.followText "special-get-raises" else w.params.followText s) = w.params.followText := by
    funext s
    by_cases h : s = "special-get-raises"
    · subst h
      simp
    · simp [h]
  unfold wB
  rw [e]
theorem runT (w : World) : HandSHeadRun.RunEq R (PySem.W.view R.prog [49]) hk ob 40000 nm (wB w true) := by
  intro os
  kernel_rfl
theorem runF (w : World) : HandSHeadRun.RunEq R (PySem.W.view R.prog [49]) hk ob 40000 nm (wB w false) := by
  intro os
  kernel_rfl
theorem run (w : World) : HandSHeadRun.RunEq R (PySem.W.view R.prog [49]) hk ob 40000 nm w := by
  have h : ∀ b, HandSHeadRun.RunEq R (PySem.W.view R.prog [49]) hk ob 40000 nm (wB w b) := fun b => match b with
    | true => runT w
    | false => runF w
  rw [← wB_eq w]
  exact h _

end K24

namespace K24
open PySem PySem.Spec PyProof.Rows L2
abbrev sSrc : Stmt := sLawSource
abbrev sPick : Stmt := sLawPick
abbrev FnP (K : PySem.W.Frag) (x : Str) (st : Stmt) (f : Addr) (fd : FuncData) : Prop := FunD K x x (defArgs st) (defBody st) (defScope st) [] [] f fd
/-! an if whose test is known not to hold -/
def tIfN (tc : TT) (u : TS) : TS := fun D σ H => tc σ H fun k H1 => k = false ∧ u D σ H1
theorem ps_ifN {X : Cx} {c : Expr} {a b : List Stmt} {tc : TT} {u : TS} {pos : Pos} (hc : PT X c tc) (hb : PSs X b u) : PS X (.If c a b pos) (tIfN tc u) := by
  refine ⟨fun pins s σ H D I h => ?_⟩
  refine wpAny_If (thn (hc.run pins s σ H _ I h) fun d s1 ⟨H1, I1, e, q1⟩ => ?_)
  subst e
  exact hb.run pins s1 σ H1 D I1 q1
/-- the source's pairs -/
def skv (c : Addr) (l m t : Int) : List (Key × V) := [(.inr "cells", .ref c), (.inr "left", .int l), (.inr "mixed", .int m), (.inr "turn", .int t)]
theorem skv_cells (c : Addr) (l m t : Int) : valV (skv c l m t) (.inr "cells") = some (.ref c) := by rfl
theorem skv_left (c : Addr) (l m t : Int) : valV (skv c l m t) (.inr "left") = some (.int l) := by rfl
theorem skv_mixed (c : Addr) (l m t : Int) : valV (skv c l m t) (.inr "mixed") = some (.int m) := by rfl
theorem skv_turn (c : Addr) (l m t : Int) : valV (skv c l m t) (.inr "turn") = some (.int t) := by rfl
theorem put_left (c : Addr) (l m t y : Int) : putK (skv c l m t) (.inr "left") (.int y) = skv c y m t := by rfl
theorem put_turn (c : Addr) (l m t y : Int) : putK (skv c l m t) (.inr "turn") (.int y) = skv c l m y := by rfl
theorem skv_merge (c : Addr) (l m t : Int) : mergeK [] (skv c l m t) = skv c l m t := by rfl

theorem dg_cells {H : Hp} {d c : Addr} {l m t : Int} (h : H d = some (.dK (skv c l m t))) : DGet H d (.str "cells") (some (.ref c)) := by
  have z : DGet H d (kV (.inr "cells")) (valV (skv c l m t) (.inr "cells")) := DGet.k h
  rw [skv_cells] at z
  exact z
theorem dg_left {H : Hp} {d c : Addr} {l m t : Int} (h : H d = some (.dK (skv c l m t))) : DGet H d (.str "left") (some (.int l)) := by
  have z : DGet H d (kV (.inr "left")) (valV (skv c l m t) (.inr "left")) := DGet.k h
  rw [skv_left] at z
  exact z
theorem dg_mixed {H : Hp} {d c : Addr} {l m t : Int} (h : H d = some (.dK (skv c l m t))) : DGet H d (.str "mixed") (some (.int m)) := by
  have z : DGet H d (kV (.inr "mixed")) (valV (skv c l m t) (.inr "mixed")) := DGet.k h
  rw [skv_mixed] at z
  exact z
theorem dg_turn {H : Hp} {d c : Addr} {l m t : Int} (h : H d = some (.dK (skv c l m t))) : DGet H d (.str "turn") (some (.int t)) := by
  have z : DGet H d (kV (.inr "turn")) (valV (skv c l m t) (.inr "turn")) := DGet.k h
  rw [skv_turn] at z
  exact z
theorem dp_left {H : Hp} {d c : Addr} {l m t y : Int} (h : H d = some (.dK (skv c l m t))) : DPut H d (.str "left") (.int y) (upd H d (.dK (skv c y m t))) := by
  have z : DPut H d (kV (.inr "left")) (.int y) (upd H d (.dK (putK (skv c l m t) (.inr "left") (.int y)))) := DPut.k h (by show 4 < sizeLine; decide)
  rw [put_left] at z
  exact z
theorem dp_turn {H : Hp} {d c : Addr} {l m t y : Int} (h : H d = some (.dK (skv c l m t))) : DPut H d (.str "turn") (.int y) (upd H d (.dK (skv c l m y))) := by
  have z : DPut H d (kV (.inr "turn")) (.int y) (upd H d (.dK (putK (skv c l m t) (.inr "turn") (.int y)))) := DPut.k h (by show 4 < sizeLine; decide)
  rw [put_turn] at z
  exact z
theorem scS : FnScope ["_law_script", "_law_mixed", "_law_cell", "_law_cells", "_law_k"] ["_law_script"] (defScope sSrc) := ⟨rfl, rfl, rfl, by decide +kernel, rfl, by decide +kernel, by decide +kernel⟩
theorem scP : FnScope ["_law_source_here", "_law_many", "_law_cells", "_law_left", "_law_turn", "_law_mixed"] ["_law_source_here", "_law_many"] (defScope sPick) := ⟨rfl, rfl, rfl, by decide +kernel, rfl, by decide +kernel, by decide +kernel⟩
/-- the source at d, its cells at c -/
def SrcAt (H : Hp) (d c : Addr) : Prop := ∃ (xs : List Int) (l m t : Int), H c = some (.lst (xs.map V.int)) ∧ xs.length ≤ 63 ∧ H d = some (.dK (skv c l m t))
def spSrc (K : PySem.W.Frag) : Sp := fun vs H Q _ => ∃ (a : Addr) (ns : List Int), vs = [.ref a] ∧ SqL K H a (ns.map V.int) ∧ ns.length ≤ 63 ∧
  ∀ (d c : Addr) (H' : Hp), Same H H' → H d = none → H c = none → SrcAt H' d c → Q (.ref d) H'
def spPick : Sp := fun vs H Q _ => ∃ (d c : Addr) (n : Int), vs = [.ref d, .int n] ∧ SrcAt H d c ∧ 1 ≤ n ∧ n ≤ 1000 ∧
  ∀ (r : Int) (H' : Hp), 0 ≤ r → r < n → SrcAt H' d c → (∀ b, b ≠ d → b ≠ c → H' b = H b) → Q (.int r) H'
/-- the built-in names that the text reads -/
structure Bl (mg : Str → Option Value) : Prop where
  abs : mg "abs" = none
  int : mg "int" = none
  len : mg "len" = none
  range : mg "range" = none
  str : mg "str" = none
theorem Fx.bl {w : World} {K : PySem.W.Frag} {mg : Str → Option Value} (Y : Fx w K mg) : Bl mg := ⟨Y.bAbs, Y.bInt, Y.bLen, Y.bRange, Y.bStr⟩
section
variable {P : Program} {w : World} {K : PySem.W.Frag} {mg : Str → Option Value} {base : Heap}
theorem nosl {i : Expr} (h : ∀ ov iv, subscripted i false ov iv = operate [ov, iv] (getItem ov iv) := by intro _ _; rfl) : NoSl i := h
theorem okD {x qual : Str} {params : Arguments} {body : List Stmt} {scope : Scope} {dvs : List V} {kws : List (Str × V)} {f : Addr} {fd : FuncData} {N ps : List Str} {k : Nat} {sp : Sp} (F : FunD K x qual params body scope dvs kws f fd) (S : FnScope N ps scope) (len : ∀ vs H Q E, sp vs H Q E → vs.length = ps.length)
    (hb : ∀ (cdv : Value) (A : Around) (outer : List Env) (s : Shared) (H : Hp) (vs : List V) (Q : VK) (E : XK), Room k (A.deeper (envOfC qual scope s.heap.objs.size f cdv)) → sp vs H Q E →
      ∃ t, PSs (cxOf CX0 P w K mg base N qual scope f cdv A outer s H E).nox body t ∧ t { nx := fun _ H' => Q .non H', rt := Q } (start N vs) H) : FnOk P w K mg base CX0 (k + 1) f fd ps sp :=
  F.ok S len fun cdv A outer s H vs Q E hr h => let ⟨t, h1, h2⟩ := hb cdv A outer s H vs Q E hr h; ⟨t, h1.nox, h2⟩
theorem ok_pick {f : Addr} {fd : FuncData} (F : FnP K "_law_pick" sPick f fd) (B : Bl mg) : FnOk P w K mg base CX0 1 f fd ["_law_source_here", "_law_many"] spPick := by
  refine okD F scP (fun vs H Q E h => ?_) (fun cdv A outer s H vs Q E hr h => ?_)
  · obtain ⟨d, c, n, rfl, _⟩ := h
    rfl
  · have hu := hu_of hr
    have nd := scP.nd
    have TL : ∃ tl, PSs (cxOf CX0 P w K mg base ["_law_source_here", "_law_many", "_law_cells", "_law_left", "_law_turn", "_law_mixed"] "_law_pick" (defScope sPick) f cdv A outer s H E).nox ((defBody sPick).drop 3) tl ∧
        (∀ (Q : VK) (d c : Addr) (n l' m t : Int) (H' : Hp), 1 ≤ n → n ≤ 1000 → H' d = some (.dK (skv c l' m t)) →
          (∀ (r y t' : Int), 0 ≤ r → r < n → Q (.int r) (upd H' d (.dK (skv c y m t')))) → tl { nx := fun _ H' => Q .non H', rt := Q } [some (.ref d), some (.int n), some (.ref c), none, none, none] H') := by
      refine ⟨_, pss_cons (ps_set (i := 3) nd rfl (Or.inl rfl) (pe_dget hu (pv 0) pe_str nosl))
      (pss_cons (ps_if (pt_cmpR op_gt (pv 3) pe_int (nomark _))
        (pss_cons (ps_dput hu (pv 0) pe_str (pe_op op_fdiv (pv 3) (pv 1)) rfl)
          (pss_one (ps_ret (pe_op op_mod (pe_callTy call_int1 (by rfl) B.int boot_int (pa_cons (pv 3) pa_nil)) (pv 1))))) pss_nil)
      (pss_cons (ps_dput hu (pv 0) pe_str (pe_op op_add (pe_dget hu (pv 0) pe_str nosl) pe_int) rfl)
      (pss_cons (ps_set (i := 4) nd rfl (Or.inl rfl) (pe_dget hu (pv 0) pe_str nosl))
      (pss_cons (ps_set (i := 5) nd rfl (Or.inl rfl) (pe_op op_mod (pe_callTy call_int1 (by rfl) B.int boot_int (pa_cons (pe_op op_add (pe_dget hu (pv 0) pe_str nosl) (pe_op op_mul (pv 4) pe_int)) pa_nil)) pe_int))
      (pss_cons (ps_set (i := 5) nd rfl (Or.inl rfl) (pe_op op_mod (pe_callTy call_int1 (by rfl) B.int boot_int (pa_cons (pe_op op_add (pe_op op_mul (pv 5) (pv 5)) (pe_op op_mul (pv 4) pe_int)) pa_nil)) pe_int))
      (pss_cons (ps_ifN (pt_cmpR op_gt (pv 1) (pe_op op_pow pe_int pe_int) (nomark _)) pss_nil)
      (pss_one (ps_ret (pe_op op_mod (pe_callTy call_int1 (by rfl) B.int boot_int (pa_cons (pe_op op_fdiv (pv 5) pe_int) pa_nil)) (pv 1)))))))))), ?_⟩
      intro Q d c n l' m t H' h1 h2 hd' k
      refine ⟨_, rfl, d, .int l', rfl, dg_left hd', ?_⟩
      refine ⟨_, rfl, _, _, rfl, rfl, _, rfl, ite2 (fun c2 => ?_) (fun _ => ?_)⟩
      · refine ⟨_, rfl, _, rfl, _, _, rfl, rfl, ⟨by omega, by omega⟩, _, rfl, d, _, rfl, dp_left hd', ?_⟩
        exact ⟨_, rfl, .inl ⟨_, rfl, _, rfl, _, _, rfl, rfl, (by omega), k _ _ _ (Int.emod_nonneg _ (by omega)) (Int.emod_lt_of_pos _ (by omega))⟩⟩
      · refine ⟨_, rfl, d, .int t, rfl, dg_turn hd', _, _, rfl, rfl, _, rfl, d, _, rfl, dp_turn hd', ?_⟩
        refine ⟨_, rfl, d, .int (t + 1), rfl, dg_turn upd_same, ?_⟩
        refine ⟨_, rfl, d, .int m, rfl, dg_mixed upd_same, _, rfl, _, _, rfl, rfl, .inr ⟨by decide, by decide⟩, _, _, rfl, rfl, .inl ⟨_, rfl, _, _, rfl, rfl, (show (0 : Int) < 998244353 by decide), ?_⟩⟩
        have b1 := Int.emod_nonneg (m + (t + 1) * 104729) (show (998244353 : Int) ≠ 0 by decide)
        have b2 := Int.emod_lt_of_pos (m + (t + 1) * 104729) (show (0 : Int) < 998244353 by decide)
        refine ⟨_, rfl, _, rfl, _, _, rfl, rfl, .inl ⟨by omega, by omega⟩, _, rfl, _, _, rfl, rfl, .inr ⟨by decide, by decide⟩, _, _, rfl, rfl, .inl ⟨_, rfl, _, _, rfl, rfl, (show (0 : Int) < 2147483647 by decide), ?_⟩⟩
        refine ⟨_, rfl, _, _, rfl, rfl, (by unfold CPow; decide), _, _, rfl, rfl, _, rfl, decide_eq_false (by show ¬ (n > (10:Int) ^ (7:Int).toNat); rw [show (10:Int) ^ (7:Int).toNat = 10000000 from by decide]; omega), ?_⟩
        refine ⟨_, rfl, _, _, rfl, rfl, ⟨by decide, by decide⟩, .inl ⟨_, rfl, _, rfl, _, _, rfl, rfl, (by omega), ?_⟩⟩
        exact k _ _ _ (Int.emod_nonneg _ (by omega)) (Int.emod_lt_of_pos _ (by omega))
    obtain ⟨tl, htl, rtl⟩ := TL
    refine ⟨_, pss_cons (ps_if (pt_cmpR op_lt (pv 1) pe_int (nomark _)) (pss_one (ps_ret pe_int)) pss_nil)
      (pss_cons (ps_set (i := 2) nd rfl (Or.inl rfl) (pe_dget hu (pv 0) pe_str nosl))
      (pss_cons (ps_while PassesOwn.never (pw_and (pt_cmpR op_lt (pe_dget hu (pv 0) pe_str nosl) pe_int (nomark _)) (pw_and1 (pt_cmpR op_gt (pe_callB call_len_seq (by rfl) B.len PySem.boot_len (pa_cons (pv 2) pa_nil)) pe_int (nomark _)))).pt
        (pss_one (ps_dput hu (pv 0) pe_str (pe_bm0 PySem.F.plainAttrs_list PySem.F.slot_list_pop PySem.F.type_list_pop mt_pop (pv 2)) rfl))) htl)), ?_⟩
    obtain ⟨d, c, n, rfl, ⟨xs, l, m, t, hc, hx, hd⟩, h1, h2, k⟩ := h
    have ncd : c ≠ d := ne_of hc hd (by intro z; cases z)
    have tail : ∀ (ys : List Int) (l' : Int) (H' : Hp), H' c = some (.lst (ys.map V.int)) → ys.length ≤ 63 → H' d = some (.dK (skv c l' m t)) → (∀ b, b ≠ d → b ≠ c → H' b = H b) →
        tl { nx := fun _ H' => Q .non H', rt := Q } [some (.ref d), some (.int n), some (.ref c), none, none, none] H' := fun ys l' H' hc' hy hd' keep =>
      rtl Q d c n l' m t H' h1 h2 hd' fun r y t' r0 r1 => k r _ r0 r1 ⟨ys, _, m, _, (by rw [upd_ne ncd]; exact hc'), hy, upd_same⟩ (fun b hb hb2 => by rw [upd_ne hb]; exact keep b hb hb2)
    refine ⟨_, rfl, _, _, rfl, rfl, _, rfl, ite2 (fun _ => k 0 H (Int.le_refl 0) (by omega) ⟨xs, l, m, t, hc, hx, hd⟩ fun _ _ _ => rfl) (fun _ => ?_)⟩
    refine ⟨_, rfl, d, .ref c, rfl, dg_cells hd, ?_⟩
    refine while_by (fun σ H' => ∃ (ys : List Int) (l' : Int), σ = [some (.ref d), some (.int n), some (.ref c), none, none, none] ∧ H' c = some (.lst (ys.map V.int)) ∧ ys.length ≤ 63 ∧ H' d = some (.dK (skv c l' m t)) ∧ ∀ b, b ≠ d → b ≠ c → H' b = H b)
      (fun _ H' => match H' c with | some (.lst zs) => zs.length | _ => 0) ⟨xs, l, rfl, hc, hx, hd, fun _ _ _ => rfl⟩ ?_ ?_
    · rintro σ H' ⟨ys, l', rfl, hc', hy, hd', keep⟩
      refine ⟨_, rfl, d, .int l', rfl, dg_left hd', _, _, rfl, rfl, _, rfl, ite2 (fun _ => ⟨_, rfl, c, ys.map V.int, rfl, .inl (SqL.of hc'), _, _, rfl, rfl, _, rfl, ?w1⟩) (fun _ => iteF ?w2)⟩
      case w1 =>
        refine ite2 (fun c1 => ?_) (fun _ => ?w3)
        · have hl : 0 < ys.length := by
            have e := of_decide_eq_true c1
            rw [List.length_map] at e
            omega
          obtain ⟨y, ey⟩ : ∃ y, ys[ys.length - 1]? = some y := ⟨ys[ys.length - 1], by rw [List.getElem?_eq_getElem (by omega)]⟩
          refine ⟨_, rfl, .inl ⟨rfl, _, SqL.of hc'⟩, c, ys.map V.int, .int y, rfl, rfl, hc', (by rw [List.length_map, List.getElem?_map, ey]; rfl), ?_⟩
          have hd2 : upd H' c (.lst (ys.map V.int).dropLast) d = some (.dK (skv c l' m t)) := by rw [upd_ne ncd.symm]; exact hd'
          refine ⟨_, rfl, d, _, rfl, dp_left hd2, ⟨ys.dropLast, y, rfl, ?_, ?_, upd_same, ?_⟩, ?_⟩
          · rw [upd_ne ncd, upd_same, List.map_dropLast]
          · rw [List.length_dropLast]; omega
          · intro b hb hb2
            rw [upd_ne hb, upd_ne hb2]
            exact keep b hb hb2
          · show (match upd (upd H' c (.lst (ys.map V.int).dropLast)) d _ c with | some (.lst zs) => zs.length | _ => 0) < (match H' c with | some (.lst zs) => zs.length | _ => 0)
            rw [upd_ne ncd, upd_same, hc']
            show (ys.map V.int).dropLast.length < (ys.map V.int).length
            rw [List.length_dropLast, List.length_map]
            omega
        case w3 => exact tail ys l' H' hc' hy hd' keep
      case w2 => exact tail ys l' H' hc' hy hd' keep
    · rintro σ H' Q1 Q2 hq ⟨v, e1, a, u, e2, g, i, j, e3, e4, z⟩
      obtain ⟨b, e5, z⟩ := z
      refine ⟨v, e1, a, u, e2, g, i, j, e3, e4, b, e5, ?_⟩
      cases b with
      | false => exact hq _ _ z
      | true =>
        obtain ⟨v, e1, p, ys, e2, hs, i, j, e3, e4, b, e5, z⟩ := z
        exact ⟨v, e1, p, ys, e2, hs, i, j, e3, e4, b, e5, hq _ _ z⟩

/-- len of a list or a tuple, whatever the block -/
def rLn (K : PySem.W.Frag) : List V → Hp → VK → Prop := fun us G R => ∃ (q : Addr) (zs : List V), us = [.ref q] ∧ (SqL K G q zs ∨ SqT K G q zs) ∧ R (.int zs.length) G
abbrev NSrc : List Str := ["_law_script", "_law_mixed", "_law_cell", "_law_cells", "_law_k"]
/-- the cells, none below nought -/
def ab (ns : List Int) : List Int := ns.map fun i => if i < 0 then -i else i
theorem sq_keep {H H' : Hp} {D a : Addr} {xs : List V} (hD : H D = none) (q : ∀ b, b ≠ D → H' b = H b) (h : SqL K H a xs) : SqL K H' a xs :=
  Same.seq (fun b o e => (q b (ne_of_none e hD)).trans e) h
theorem map_abs (ns : List Int) : (ns.map fun i => V.int (if i < 0 then -i else i)) = (ns.map fun i => if i < 0 then -i else i).map V.int := by rw [List.map_map]; rfl
theorem int_at {ns : List Int} {i : Nat} {y : V} (hi : (ns.map V.int)[i]? = some y) : ∃ z, ns[i]? = some z ∧ y = V.int z := by
  rw [List.getElem?_map] at hi
  cases e : ns[i]? with
  | none => rw [e] at hi; cases hi
  | some z => rw [e] at hi; exact ⟨z, rfl, (Option.some.inj hi).symm⟩
theorem ok_src {f : Addr} {fd : FuncData} (F : FnP K "_law_source" sSrc f fd) (B : Bl mg) : FnOk P w K mg base CX0 1 f fd ["_law_script"] (spSrc K) := by
  refine okD F scS (fun vs H Q E h => ?_) (fun cdv A outer s H vs Q E hr h => ?_)
  · obtain ⟨a, ns, rfl, _⟩ := h
    rfl
  · have hu := hu_of hr
    have nd := scS.nd
    refine ⟨_, pss_cons (ps_set (i := 1) nd rfl (Or.inl rfl) pe_int)
      (pss_cons (ps_for PassesOwn.never rfl (pi_list (pv 0)) (pg_name (i := 2) nd rfl (Or.inl rfl))
        (pss_one (ps_set (i := 1) nd rfl (Or.inl rfl) (pe_op op_mod (pe_callTy call_int1 (by rfl) B.int boot_int (pa_cons (pe_op op_add (pe_op op_add (pe_op op_mul (pv 1) pe_int) (pe_op op_mul (pv 2) pe_int)) pe_int) pa_nil)) pe_int))))
      (pss_cons (ps_set (i := 3) nd rfl (Or.inr rfl) (pe_lc (own := [("_law_cell", 2)]) (g := gName 2) (tt := tYes) rfl nd (pi_list (pv 0)) (blkOk_by (N := NSrc) (sc := defScope sSrc) (by decide +kernel)) (fun _ _ _ _ _ => pg_name (i := 2) nd rfl (Or.inl rfl)) (fun _ _ _ _ _ => pts_nil)
        (fun _ _ _ _ _ => pe_callB call_abs (by rfl) B.abs (by decide +kernel) (pa_cons (pv 2) pa_nil))))
      (pss_one (ps_ret (pe_disp (pps_cons pe_str (pe_lc (own := [("_law_k", 4)]) (g := gName 4) (tt := tYes) rfl nd (pi_range1 (by rfl) B.range (pa_cons (pe_callB call_len_seq (by rfl) B.len PySem.boot_len (pa_cons (pv 3) pa_nil)) pa_nil)) (blkOk_by (N := NSrc) (sc := defScope sSrc) (by decide +kernel)) (fun _ _ _ _ _ => pg_name (i := 4) nd rfl (Or.inl rfl)) (fun _ _ _ _ _ => pts_nil)
          (fun _ _ _ _ _ => pe_ix (r := rIxL K) ix_list (pv 3) (pe_op op_sub (pe_op op_sub (pe_callB (r := rLn K) call_len_seq (by rfl) B.len PySem.boot_len (pa_cons (pv 3) pa_nil)) pe_int) (pv 4)) (fun _ _ => rfl)))
        (pps_cons pe_str pe_int (pps_cons pe_str (pv 1) (pps_cons pe_str pe_int pps_nil)))) rfl rfl (by simp) (by decide)))))), ?_⟩
    obtain ⟨a, ns, rfl, hS, hl, k⟩ := h
    refine ⟨_, rfl, a, rfl, ⟨_, hS⟩, for_list (K := K) (a := a) (xs := ns.map V.int) (fun i σ H2 => ∃ (z : Int) (v : Option V), σ = [some (.ref a), some (.int z), v, none, none] ∧ 0 ≤ z ∧ z < 2147483629 ∧ H2 = H)
      ⟨11, none, rfl, by decide, by decide, rfl⟩ (fun i σ H2 _ ⟨_, _, _, _, _, e⟩ => by rw [e]; exact hS) ?_ ?_⟩
    · rintro i y σ H2 hi ⟨z, v, rfl, z0, z1, rfl⟩
      obtain ⟨x, _, rfl⟩ := int_at hi
      refine ⟨_, rfl, _, _, rfl, rfl, .inr ⟨by decide, by decide⟩, _, rfl, _, _, rfl, rfl, .inr ⟨by decide, by decide⟩, _, _, rfl, rfl, _, _, rfl, rfl, .inl ⟨_, rfl, _, _, rfl, rfl, (show (0 : Int) < 2147483629 by decide), ?_⟩⟩
      exact ⟨_, _, rfl, Int.emod_nonneg _ (by decide), Int.emod_lt_of_pos _ (by decide), rfl⟩
    · rintro σ H2 ⟨z, v, rfl, z0, z1, rfl⟩
      refine ⟨_, rfl, a, rfl, ⟨_, hS⟩, fun D hD => ?_⟩
      refine lc_list (xs := ns.map V.int) (fun i H' => H' D = some (.lst ((ab (ns.take i)).map V.int)) ∧ ∀ b, b ≠ D → H' b = H2 b) ⟨upd_same, fun b hb => upd_ne hb⟩ (fun i H' _ ⟨e, q⟩ => sq_keep hD q hS) ?_ ?_
      · rintro i y H' hi ⟨e, q⟩
        obtain ⟨x, hx, rfl⟩ := int_at hi
        refine ⟨rfl, _, rfl, _, rfl, _, e, ?_, ?_, fun b hb => ?_⟩
        · unfold ab
          rw [List.length_map, List.length_map, List.length_take]
          exact small1000 (by omega)
        · rw [upd_same]
          unfold ab
          rw [List.take_add_one, hx]
          simp
        · rw [upd_ne hb]; exact q b hb
      · rintro H' ⟨e, q⟩
        rw [List.length_map, List.take_length] at e
        intro p hp
        have npD : p ≠ D := (ne_of_none e hp).symm
        have la : (ab ns).length = ns.length := by unfold ab; rw [List.length_map]
        have lm : ((ab ns).map V.int).length = ns.length := by rw [List.length_map, la]
        have eD : upd H' p (.dK []) D = some (.lst ((ab ns).map V.int)) := by rw [upd_ne npD.symm]; exact e
        refine ⟨_, rfl, D, _, rfl, .inl (SqL.of eD), _, rfl, (by rw [lm]; omega), (by rw [lm]; omega), fun C hC => ?_⟩
        rw [lm]
        have nCp : C ≠ p := (ne_of_none upd_same hC).symm
        have nCD : C ≠ D := (ne_of_none eD hC).symm
        refine lc_range (lo := 0) (n := ns.length) (fun i H3 => (∃ ys : List Int, H3 C = some (.lst (ys.map V.int)) ∧ ys.length = i) ∧ ∀ b, b ≠ C → H3 b = upd H' p (.dK []) b) ⟨⟨[], upd_same, rfl⟩, fun b hb => upd_ne hb⟩ ?_ ?_
        · rintro i H3 hi ⟨⟨ys, e3, ly⟩, q3⟩
          obtain ⟨y, ey⟩ : ∃ y, (ab ns)[ns.length - 1 - i]? = some y := ⟨(ab ns)[ns.length - 1 - i], by rw [List.getElem?_eq_getElem (by omega)]⟩
          have e3D : H3 D = some (.lst ((ab ns).map V.int)) := by rw [q3 D nCD.symm]; exact eD
          refine ⟨rfl, _, rfl, _, rfl, D, _, rfl, .inl (SqL.of e3D), _, _, rfl, rfl, _, rfl, _, _, rfl, rfl, D, _, _, .int y, rfl, rfl, SqL.of e3D, ?_, _, e3, ?_, ⟨ys ++ [y], ?_, ?_⟩, fun b hb => ?_⟩
          · exact at_of (j := ns.length - 1 - i) (by rw [lm]; omega) (by rw [List.getElem?_map, ey]; rfl)
          · rw [List.length_map]; exact small1000 (by omega)
          · rw [upd_same]; simp
          · rw [List.length_append, ly]; rfl
          · rw [upd_ne hb]; exact q3 b hb
        · rintro H3 ⟨⟨ys, e3, ly⟩, q3⟩
          refine ⟨_, rfl, ?_⟩
          refine ⟨by rw [q3 p nCp.symm, upd_same], skv C 1 z 0, rfl, (show 4 ≤ 15 by decide), ?_⟩
          rw [skv_merge]
          refine k p C _ (fun b o eb => ?_) ?_ ?_ ⟨ys, 1, z, 0, ?_, by omega, upd_same⟩
          · have hb : b ≠ D := ne_of_none eb hD
            have eb2 : H' b = some o := (q b hb).trans eb
            have hbp : b ≠ p := ne_of_none eb2 hp
            have hbC : b ≠ C := ne_of_none (show upd H' p (.dK []) b = some o by rw [upd_ne hbp]; exact eb2) hC
            rw [upd_ne hbp, q3 b hbC, upd_ne hbp]
            exact eb2
          · rw [← q p npD]; exact hp
          · rw [← q C nCD]
            rw [upd_ne nCp] at hC
            exact hC
          · rw [upd_ne nCp]; exact e3
end
end K24

namespace K24
open PySem PySem.Spec PyProof.Rows L2 Ow
abbrev LT : Str := "abcdefghijklmnopqrstuvwxyz"
abbrev SG : Str := "abcdefghijklmnopqrstuvwxyz0123456789"
/-! ### words -/
/-- a word of the text -/
structure Wd (x : Str) : Prop where
  lo : 1 ≤ x.length
  hi : x.length ≤ 12
  h : ∀ c, x.cps[0]? = some c → c ∈ LT.cps.toList
  s : ∀ (i c : Nat), x.cps[i]? = some c → c ∈ SG.cps.toList
/-- a list of unlike words -/
structure NL (xs : List Str) : Prop where
  nd : xs.Nodup
  w : ∀ x ∈ xs, Wd x
  n : xs.length ≤ 16
theorem scW : FnScope ["value", "sign"] ["value"] (defScope sIsWord) := ⟨rfl, rfl, rfl, by decide +kernel, rfl, by decide +kernel, by decide +kernel⟩
def spWord : Sp := fun vs H Q _ => ∃ x : Str, vs = [.str x] ∧ Wd x ∧ ∀ H', Same H H' → Q (.bl true) H'
section
variable {P : Program} {w : World} {K : PySem.W.Frag} {mg : Str → Option Value} {base : Heap} {f : Addr} {fd : FuncData}
theorem ok_word (F : FnP K "is_word" sIsWord f fd) (Y : Fx w K mg) : FnOk P w K mg base CX0 1 f fd ["value"] spWord := by
  refine okD F scW (fun vs H Q E h => ?_) (fun cdv A outer s H vs Q E hr h => ?_)
  · obtain ⟨x, rfl, _⟩ := h
    rfl
  · have hu := hu_of hr
    have nd := scW.nd
    have B := Y.bl
    obtain ⟨tl, el⟩ := Y.sLETTERS
    obtain ⟨ts, es⟩ := Y.sSIGNS
    refine ⟨_, pss_cons (ps_ifN (pw_or (pt_not (pt_val (pe_callB call_isi (by rfl) Y.bIsinstance boot_isinstance (pa_cons (pv 0) (pa_cons (pe_bltn (v := .ty "str") (u := .type "str") (by rfl) Y.bStr (by decide +kernel) rfl) pa_nil))))) (pw_or1 (pt_not (pt_chain op_le op_le pe_int (pe_callB call_len_str (by rfl) B.len PySem.boot_len (pa_cons (pv 0) pa_nil)) pe_int)))).pt pss_nil)
      (pss_one (ps_ret (pe_and (pe_cmpR op_in_sign (pe_ix ix_str (pv 0) pe_int (fun _ _ => rfl)) (pe_glob (v := .str LT) (by rfl) el ⟨_, rfl⟩) (by rfl)) (pe_one (pe_callB (cr_all rfl) (by rfl) Y.bAll (by decide +kernel) (pa_cons
        (pe_lc (own := [("sign", 1)]) (g := gName 1) (tt := tYes) rfl nd (pi_str (pv 0)) (blkOk_by (N := ["value", "sign"]) (sc := defScope sIsWord) (by decide +kernel)) (fun _ _ _ _ _ => pg_name (i := 1) nd rfl (Or.inl rfl)) (fun _ _ _ _ _ => pts_nil)
          (fun _ _ _ _ _ => pe_cmpR op_in_sign (pv 1) (pe_glob (v := .str SG) (by rfl) es ⟨_, rfl⟩) (by rfl))) pa_nil)))))), ?_⟩
    obtain ⟨x, rfl, hx, k⟩ := h
    have lz : x.length ≤ sizeLine := Nat.le_trans hx.hi (by decide)
    obtain ⟨c, ec⟩ : ∃ c, x.cps[0]? = some c := ⟨x.cps[0]'(show 0 < x.cps.size from hx.lo), Array.getElem?_eq_getElem _⟩
    have l1 : (1 : Int) ≤ (x.length : Int) := by have z := hx.lo; omega
    have l2 : (x.length : Int) ≤ 12 := by have z := hx.hi; omega
    refine ⟨_, rfl, _, _, _, _, true, rfl, .ty _, .base (.str x), (of_decide_eq_true Y.x0), true, rfl, iteF ⟨_, rfl, x, rfl, lz, _, _, rfl, rfl, _, rfl, ite2 (fun _ => ⟨_, _, rfl, rfl, _, rfl, ?_, ?_⟩) (fun n => absurd (decide_eq_true l1) n)⟩⟩
    · rw [decide_eq_true l2]; rfl
    refine ⟨_, rfl, x, 0, c, rfl, rfl, lz, ?_, c, LT, rfl, rfl, _, rfl, ite2 (fun _ => ?_) (fun n => absurd (decide_eq_true (hx.h c ec)) n)⟩
    · exact (show atI x.cps.toList ((0 : Nat) : Int) = some c from atI_nat (by rw [Array.getElem?_toList]; exact ec))
    refine ⟨_, rfl, x, rfl, fun D hD => ?_⟩
    refine lc_it walk_str (fun i H' => H' D = some (.lst ((List.replicate i true).map V.bl)) ∧ Same H H') ⟨upd_same, fun b o e => (upd_ne (ne_of_none e hD)).trans e⟩ (fun _ _ _ _ => trivial) ?_ ?_
    · rintro i v G G' hi ⟨e, q⟩ ⟨rfl, z, ez, rfl⟩
      refine ⟨rfl, _, rfl, z, SG, rfl, rfl, _, e, ?_, ?_, fun b o eb => (upd_ne (ne_of_none eb hD)).trans (q b o eb)⟩
      · rw [List.length_map, List.length_replicate]
        exact Nat.lt_of_lt_of_le hi (Nat.le_trans hx.hi (by decide))
      · rw [upd_same, decide_eq_true (hx.s i z ez), List.replicate_succ', List.map_append]
        rfl
    · rintro G ⟨e, q⟩
      refine ⟨D, List.replicate x.cps.size true, rfl, SqL.of e, ?_⟩
      rw [show (List.replicate x.cps.size true).all id = true by simp]
      exact k G q
end
end K24

namespace K24
open PySem PySem.Spec PyProof.Rows L2 Ow
theorem scCN : FnScope ["lists", "names", "name"] ["lists"] (defScope sCheckNames) := ⟨rfl, rfl, rfl, by decide +kernel, rfl, by decide +kernel, by decide +kernel⟩
/-- at y stands a list or tuple of unlike words -/
def Nms (K : PySem.W.Frag) (H : Hp) (y : V) (xs : List Str) : Prop := ∃ a, y = .ref a ∧ SqA K H a (xs.map V.str) ∧ NL xs
theorem Nms.same {K : PySem.W.Frag} {H H' : Hp} {y : V} {xs : List Str} (s : Same H H') (h : Nms K H y xs) : Nms K H' y xs := by
  obtain ⟨a, e, q, n⟩ := h
  exact ⟨a, e, q.same s, n⟩
def spCheck (K : PySem.W.Frag) : Sp := fun vs H Q _ => ∃ (l : Addr) (y z : V) (xs ys : List Str), vs = [.ref l] ∧ SqL K H l [y, z] ∧ Nms K H y xs ∧ Nms K H z ys ∧ ∀ H', Same H H' → Q .non H'
theorem str_at {xs : List Str} {i : Nat} {y : V} (h : (xs.map V.str)[i]? = some y) : ∃ z, xs[i]? = some z ∧ y = .str z := by
  rw [List.getElem?_map] at h
  cases e : xs[i]? with
  | none => rw [e] at h; cases h
  | some z => rw [e] at h; exact ⟨z, rfl, (Option.some.inj h).symm⟩
section
variable {P : Program} {w : World} {K : PySem.W.Frag} {mg : Str → Option Value} {base : Heap} {f : Addr} {fd : FuncData}
theorem ok_check (F : FnP K "check_names" sCheckNames f fd) (Y : Fx w K mg) : FnOk P w K mg base CX0 2 f fd ["lists"] (spCheck K) := by
  obtain ⟨dW, FW⟩ := Y.dIsWord
  have bW := FunD.bindsN (ps := ["value"]) FW fun _ _ _ _ _ _ us hl => match us, hl with | [_], _ => rfl
  have GW : FnOk P w K mg base CX0 1 _ dW ["value"] spWord := ok_word FW Y
  refine okD F scCN (fun vs H Q E h => ?_) (fun cdv A outer s H vs Q E hr h => ?_)
  · obtain ⟨l, y, z, xs, ys, rfl, _⟩ := h
    rfl
  · have hu := hu_of hr
    have nd := scCN.nd
    have B := Y.bl
    refine ⟨_, pss_cons (ps_for PassesOwn.never rfl (pi_list (pv 0)) (pg_name (i := 1) nd rfl (Or.inl rfl)) (pss_one (ps_for PassesOwn.never rfl (pi_seqA (pv 1)) (pg_name (i := 2) nd rfl (Or.inl rfl))
        (pss_one (ps_ifN (pt_not (pt_val (pe_call GW hr rfl Y.gIsWord FW.kp bW .nil pass0 (pa_cons (pv 2) pa_nil)))) pss_nil)))))
      (pss_one (ps_for PassesOwn.never rfl (pi_list (pv 0)) (pg_name (i := 1) nd rfl (Or.inl rfl))
        (pss_one (ps_ifN (pt_cmpR op_lt (pe_lenSetT rfl (by rfl) B.len (by rfl) Y.bSet (pv 1)) (pe_callB call_len_seq (by rfl) B.len PySem.boot_len (pa_cons (pv 1) pa_nil)) (nomark _)) pss_nil)))), ?_⟩
    obtain ⟨l, y, z, xs, ys, rfl, hl, hy, hz, k⟩ := h
    have it : ∀ (i : Nat) (v : V) (G : Hp), ([y, z] : List V)[i]? = some v → Same H G → ∃ zs, Nms K G v zs := fun i v G hi sm => by
      match i, hi with
      | 0, hi => cases hi; exact ⟨xs, hy.same sm⟩
      | 1, hi => cases hi; exact ⟨ys, hz.same sm⟩
      | (i + 2), hi => cases hi
    refine ⟨_, rfl, l, rfl, ⟨_, hl⟩, for_list (K := K) (a := l) (xs := [y, z]) (fun i σ G => (∃ v1 v2, σ = [some (.ref l), v1, v2]) ∧ Same H G) ⟨⟨_, _, rfl⟩, Same.refl _⟩ (fun i σ G _ q => q.2.seq hl) ?_ ?_⟩
    · rintro i v σ G hi ⟨⟨v1, v2, rfl⟩, sm⟩
      obtain ⟨zs, a, rfl, hA, hn⟩ := it i v G hi sm
      refine ⟨_, rfl, a, zs.map V.str, rfl, hA, fun J GG wk gk => for_it wk (fun j σ G' => (∃ v2, σ = [some (.ref l), some (.ref a), v2]) ∧ Same G G') ⟨⟨_, rfl⟩, Same.refl _⟩ (fun j σ G' _ q => gk _ q.2) ?_ ?_⟩
      · rintro j v σ G' G'' hj ⟨⟨v2, rfl⟩, s2⟩ ⟨rfl, ev⟩
        obtain ⟨x, ex, rfl⟩ := str_at ev
        exact ⟨_, rfl, x, rfl, hn.w x (List.mem_of_getElem? ex), fun G3 s3 => ⟨true, rfl, rfl, ⟨_, rfl⟩, s2.trans s3⟩⟩
      · rintro σ G' ⟨⟨v2, rfl⟩, s2⟩
        exact ⟨⟨_, _, rfl⟩, sm.trans s2⟩
    · rintro σ G ⟨⟨v1, v2, rfl⟩, sm⟩
      refine ⟨_, rfl, l, rfl, ⟨_, sm.seq hl⟩, for_list (K := K) (a := l) (xs := [y, z]) (fun i σ G => (∃ v1 v2, σ = [some (.ref l), v1, v2]) ∧ Same H G) ⟨⟨_, _, rfl⟩, sm⟩ (fun i σ G _ q => q.2.seq hl) ?_ ?_⟩
      · rintro i v σ G hi ⟨⟨v1, v2, rfl⟩, sm⟩
        obtain ⟨zs, a, rfl, hA, hn⟩ := it i v G hi sm
        refine ⟨_, rfl, a, zs, rfl, hA, hn.nd, Nat.lt_of_le_of_lt hn.n (by decide), _, rfl, a, zs.map V.str, rfl, hA, _, _, rfl, rfl, _, rfl, ?_, ⟨_, _, rfl⟩, sm⟩
        rw [List.length_map]
        exact decide_eq_false (Int.lt_irrefl _)
      · rintro σ G ⟨⟨v1, v2, rfl⟩, sm⟩
        exact k G sm
end
end K24

namespace K24
open PySem PySem.Spec PyProof.Rows L2 Ow
/-! ### what stays, and small helps -/
theorem same_upd {H : Hp} {a : Addr} {o : HO} (h : H a = none) : Same H (upd H a o) := fun _ _ e => (upd_ne (ne_of_none e h)).trans e
theorem same_put {H G : Hp} {D : Addr} {o : HO} (hD : H D = none) (s : Same H G) : Same H (upd G D o) := fun b _ e => (upd_ne (ne_of_none e hD)).trans (s b _ e)
theorem szl {n : Nat} (h : n ≤ 1000) : n ≤ sizeLine := Nat.le_of_lt (small1000 h)
def Keep (x : Addr) (H H' : Hp) : Prop := ∀ b o, b ≠ x → H b = some o → H' b = some o
theorem Keep.refl {x : Addr} {H : Hp} : Keep x H H := fun _ _ _ e => e
theorem Keep.trans {x : Addr} {H1 H2 H3 : Hp} (h : Keep x H1 H2) (g : Keep x H2 H3) : Keep x H1 H3 := fun b o n e => g b o n (h b o n e)
theorem Keep.of {x : Addr} {H H' : Hp} (s : Same H H') : Keep x H H' := fun b o _ e => s b o e
theorem Keep.put {x : Addr} {H : Hp} {o : HO} : Keep x H (upd H x o) := fun b u n e => (upd_ne n).trans e
/-- a dict comprehension over a walk -/
theorem dc_it {J : It} {n : Nat} {G : Hp → Prop} {Y : Nat → Hp → V → Hp → Prop} (w : Walk J n G Y) {g : TG} {tt : TT} {tk tv : TE} {vs : List Nat} {σ : L2.St} {H1 : Hp} {D : Addr} {Qd : Hp → Prop} (Pv : Nat → Hp → Prop) (h0 : Pv 0 (upd H1 D (.dK []))) (hG : ∀ i H, i ≤ n → Pv i H → G H)
    (hs : ∀ i x H H', i < n → Pv i H → Y i H x H' → g x (wipe σ vs) H' fun σ2 H2 => wipe σ2 vs = wipe σ vs ∧ tt σ2 H2 fun b H3 =>
      if b = true then tk σ2 H3 fun y H4 => tv σ2 H4 fun z H5 => ∃ kvs k, y = kV k ∧ H5 D = some (.dK kvs) ∧ kvs.length < sizeLine ∧ Pv (i + 1) (upd H5 D (.dK (putK kvs k z))) else Pv (i + 1) H3) (hd : ∀ H, Pv n H → Qd H) :
    ∃ W : Nat → Nat → Hp → Prop, (∃ m, W 0 m (upd H1 D (.dK []))) ∧ ∀ i m H, W i m H →
      (J.stop i H ∧ Qd H) ∨ (J.go i H ∧ ∃ Nx : Hp → Prop, (∀ H', Nx H' → ∃ m', m' < m ∧ W (i + 1) m' H') ∧ ∀ x H', J.yld i H x H' → g x (wipe σ vs) H' fun σ2 H2 => wipe σ2 vs = wipe σ vs ∧ tt σ2 H2 fun b H3 =>
        if b = true then tk σ2 H3 fun y H4 => tv σ2 H4 fun z H5 => ∃ kvs k, y = kV k ∧ H5 D = some (.dK kvs) ∧ kvs.length < sizeLine ∧ Nx (upd H5 D (.dK (putK kvs k z))) else Nx H3) := by
  refine ⟨fun i m H => m = n - i ∧ i ≤ n ∧ Pv i H, ⟨n, rfl, Nat.zero_le _, h0⟩, ?_⟩
  rintro i m H ⟨rfl, le, p⟩
  have q := hG i H le p
  by_cases lt : i < n
  · exact .inr ⟨w.goes i H lt q, Pv (i + 1), fun H' p' => ⟨n - (i + 1), by omega, rfl, lt, p'⟩, fun x H' y => hs i x H H' lt p (w.yields i H x H' lt q y)⟩
  · have e : i = n := by omega
    subst e
    exact .inl ⟨w.stops H q, hd H p⟩
/-- at l stands a list of tuples of these -/
def TupsAt (K : PySem.W.Frag) (H : Hp) (l : Addr) (vss : List (List V)) : Prop := ∃ as : List Addr, SqL K H l (as.map V.ref) ∧ as.length = vss.length ∧ ∀ (i : Nat) (t : Addr), as[i]? = some t → ∃ vs, vss[i]? = some vs ∧ SqT K H t vs
theorem TupsAt.same {K : PySem.W.Frag} {H H' : Hp} {l : Addr} {vss : List (List V)} (s : Same H H') (h : TupsAt K H l vss) : TupsAt K H' l vss := by
  obtain ⟨as, q, e, g⟩ := h
  refine ⟨as, s.seq q, e, fun i t z => ?_⟩
  obtain ⟨vs, e1, e2⟩ := g i t z
  exact ⟨vs, e1, sqt_same s e2⟩
theorem ref_at {as : List Addr} {i : Nat} {v : V} (h : (as.map V.ref)[i]? = some v) : ∃ a, as[i]? = some a ∧ v = .ref a := by
  rw [List.getElem?_map] at h
  cases e : as[i]? with
  | none => rw [e] at h; cases h
  | some a => rw [e] at h; exact ⟨a, rfl, (Option.some.inj h).symm⟩
theorem map_at {α : Type} {f : α → V} {xs : List α} {i : Nat} {v : V} (h : (xs.map f)[i]? = some v) : ∃ x, xs[i]? = some x ∧ v = f x := by
  rw [List.getElem?_map] at h
  cases e : xs[i]? with
  | none => rw [e] at h; cases h
  | some a => rw [e] at h; exact ⟨a, rfl, (Option.some.inj h).symm⟩
theorem flat_strs (xs : List Str) : (xs.map V.str).all flatV = true := by
  rw [List.all_eq_true]
  intro v hv
  obtain ⟨x, _, rfl⟩ := List.mem_map.mp hv
  rfl
theorem inV_strs (x : Str) (xs : List Str) : inV (.str x) (xs.map V.str) = decide (x ∈ xs) := by
  unfold inV
  rw [List.any_map, Bool.eq_iff_iff, List.any_eq_true, decide_eq_true_iff]
  constructor
  · rintro ⟨y, hy, e⟩
    have z : y = x := by simpa [eqV] using e
    exact z ▸ hy
  · intro h
    exact ⟨x, h, by simp [eqV]⟩
/-- a letter: its name, its ends -/
abbrev Lt : Type := Str × Str × Str
def ltV (q : Lt) : List V := [.str q.1, .str q.2.1, .str q.2.2]
/-! ### the frame's checks -/
abbrev NCE : List Str := ["sorts", "letters", "totals", "_", "first", "second", "end", "names", "letter", "name"]
theorem scCE : FnScope NCE ["sorts", "letters", "totals"] (defScope sCheckEnds) := ⟨rfl, rfl, rfl, by decide +kernel, rfl, by decide +kernel, by decide +kernel⟩
def spCE (K : PySem.W.Frag) : Sp := fun vs H Q _ => ∃ (s l t : Addr) (xs : List Str) (ls : List Lt), vs = [.ref s, .ref l, .ref t] ∧ SqL K H s (xs.map V.str) ∧ TupsAt K H l (ls.map ltV) ∧ (∀ q ∈ ls, q.2.1 ∈ xs ∧ q.2.2 ∈ xs) ∧ ls.length ≤ 16 ∧ SqL K H t [] ∧
  ∀ H', Same H H' → Q .non H'
section
variable {P : Program} {w : World} {K : PySem.W.Frag} {mg : Str → Option Value} {base : Heap} {f : Addr} {fd : FuncData}
theorem ok_ce (F : FnP K "_check_ends" sCheckEnds f fd) (Y : Fx w K mg) : FnOk P w K mg base CX0 1 f fd ["sorts", "letters", "totals"] (spCE K) := by
  refine okD F scCE (fun vs H Q E h => ?_) (fun cdv A outer s H vs Q E hr h => ?_)
  · obtain ⟨a, b, c, xs, ls, rfl, _⟩ := h
    rfl
  · have nd := scCE.nd
    refine ⟨_, pss_cons (ps_for PassesOwn.never rfl (pi_list (pv 1)) (pg_tup rfl (pgs_cons (pg_name (i := 3) nd rfl (Or.inl rfl)) (pgs_cons (pg_name (i := 4) nd rfl (Or.inl rfl)) (pgs_cons (pg_name (i := 5) nd rfl (Or.inl rfl)) pgs_nil))))
        (pss_one (ps_for PassesOwn.never rfl (pi_tup (pe_tup (pa_cons (pv 4) (pa_cons (pv 5) pa_nil)))) (pg_name (i := 6) nd rfl (Or.inl rfl))
          (pss_one (ps_ifN (pt_cmpR op_notIn_seq (pv 6) (pv 0) (by rfl)) pss_nil)))))
      (pss_cons (ps_setLc (i := 7) (own := [("letter", 8)]) (g := gName 8) (tt := tYes) (te := tOp (rIxT K) (tVar 8) (tC (.int 0))) rfl nd rfl rfl (by rfl) (pi_list (pv 1)) (blkOk_by (N := NCE) (sc := defScope sCheckEnds) (by decide +kernel)) (fun _ _ _ _ _ => pg_name (i := 8) nd rfl (Or.inl rfl)) (fun _ _ _ _ _ => pts_nil)
        (fun _ _ _ _ _ => pe_ix ix_tup (pv 8) pe_int (fun _ _ => rfl)))
      (pss_one (ps_for PassesOwn.never rfl (pi_list (pv 2)) (pg_tup rfl (pgs_cons (pg_name (i := 9) nd rfl (Or.inl rfl)) (pgs_cons (pg_name (i := 3) nd rfl (Or.inl rfl)) pgs_nil)))
        (pss_one (ps_ifN (pt_cmpR op_notIn_seq (pv 9) (pv 7) (by rfl)) pss_nil))))), ?_⟩
    obtain ⟨a, l, t, xs, ls, rfl, hs, hl, hin, hn, ht, k⟩ := h
    obtain ⟨as, q, la, g⟩ := id hl
    rw [List.length_map] at la
    refine ⟨_, rfl, l, rfl, ⟨_, q⟩, for_list (K := K) (a := l) (xs := as.map V.ref) (fun i σ G => (∃ v3 v4 v5 v6, σ = [some (.ref a), some (.ref l), some (.ref t), v3, v4, v5, v6, none, none, none]) ∧ Same H G) ⟨⟨_, _, _, _, rfl⟩, Same.refl _⟩ (fun i σ G _ p => p.2.seq q) ?_ ?_⟩
    · rintro i v σ G hi ⟨⟨v3, v4, v5, v6, rfl⟩, sm⟩
      obtain ⟨b, eb, rfl⟩ := ref_at hi
      obtain ⟨vs, e1, hT⟩ := g i b eb
      obtain ⟨lt, e2, rfl⟩ : ∃ lt, ls[i]? = some lt ∧ vs = ltV lt := by
        rw [List.getElem?_map] at e1
        cases e : ls[i]? with
        | none => rw [e] at e1; cases e1
        | some z => rw [e] at e1; exact ⟨z, rfl, (Option.some.inj e1).symm⟩
      obtain ⟨m1, m2⟩ := hin lt (List.mem_of_getElem? e2)
      refine ⟨b, _, rfl, sqt_same sm hT, rfl, _, _, rfl, _, _, rfl, _, _, rfl, rfl, ?_⟩
      refine ⟨_, rfl, _, rfl, szl (by show 2 ≤ 1000; decide), fun p hp => ?_⟩
      have sp : Same G (upd G p (.tup [.str lt.2.1, .str lt.2.2])) := same_upd hp
      refine ⟨p, rfl, ⟨_, SqT.of upd_same⟩, for_tup (K := K) (a := p) (xs := [.str lt.2.1, .str lt.2.2]) (fun j σ G' => (∃ v6, σ = [some (.ref a), some (.ref l), some (.ref t), some (.str lt.1), some (.str lt.2.1), some (.str lt.2.2), v6, none, none, none]) ∧ Same (upd G p (.tup [.str lt.2.1, .str lt.2.2])) G') ⟨⟨_, rfl⟩, Same.refl _⟩ (fun j σ G' _ z => sqt_same z.2 (SqT.of upd_same)) ?_ ?_⟩
      · rintro j v σ G' hj ⟨⟨v6, rfl⟩, s2⟩
        obtain ⟨x, hx, rfl⟩ : ∃ x, x ∈ xs ∧ v = .str x := by
          match j, hj with
          | 0, hj => cases hj; exact ⟨_, m1, rfl⟩
          | 1, hj => cases hj; exact ⟨_, m2, rfl⟩
          | (j + 2), hj => cases hj
        refine ⟨_, rfl, _, rfl, a, xs.map V.str, rfl, .inl ((sm.trans (sp.trans s2)).seq hs), rfl, flat_strs xs, ?_⟩
        rw [inV_strs, decide_eq_true hx]
        exact ⟨false, rfl, rfl, ⟨_, rfl⟩, s2⟩
      · rintro σ G' ⟨⟨v6, rfl⟩, s2⟩
        exact ⟨⟨_, _, _, _, rfl⟩, sm.trans (sp.trans s2)⟩
    · rintro σ G ⟨⟨v3, v4, v5, v6, rfl⟩, sm⟩
      refine ⟨_, rfl, l, rfl, ⟨_, sm.seq q⟩, fun D hD => ?_⟩
      refine lc_list (K := K) (a := l) (xs := as.map V.ref) (fun i G' => (∃ ns : List Str, G' D = some (.lst (ns.map V.str)) ∧ ns.length = i) ∧ Same G G') ⟨⟨[], upd_same, rfl⟩, same_upd hD⟩ (fun i G' _ p => (sm.trans p.2).seq q) ?_ ?_
      · rintro i v G' hi ⟨⟨ns, e, ln⟩, s2⟩
        obtain ⟨b, eb, rfl⟩ := ref_at hi
        obtain ⟨vs, e1, hT⟩ := g i b eb
        obtain ⟨lt, e2, rfl⟩ : ∃ lt, ls[i]? = some lt ∧ vs = ltV lt := by
          rw [List.getElem?_map] at e1
          cases z : ls[i]? with
          | none => rw [z] at e1; cases e1
          | some y => rw [z] at e1; exact ⟨y, rfl, (Option.some.inj e1).symm⟩
        have li : i < ls.length := (List.getElem?_eq_some_iff.mp e2).1
        refine ⟨rfl, _, rfl, b, _, 0, _, rfl, rfl, sqt_same (sm.trans s2) hT, rfl, _, e, ?_, ⟨ns ++ [lt.1], ?_, by rw [List.length_append, ln]; rfl⟩, same_put hD s2⟩
        · rw [List.length_map]
          exact small1000 (by omega)
        · rw [upd_same, List.map_append]
          rfl
      · rintro G' ⟨⟨ns, e, ln⟩, s2⟩
        refine ⟨_, rfl, t, rfl, ⟨_, (sm.trans s2).seq ht⟩, for_list (K := K) (a := t) (xs := []) (fun i σ G2 => Same G' G2) (Same.refl _) (fun i σ G2 _ p => (sm.trans (s2.trans p)).seq ht) (fun i v σ G2 hi _ => nomatch hi) fun σ G2 s3 => k G2 (sm.trans (s2.trans s3))⟩
end
end K24

namespace K24
open PySem PySem.Spec PyProof.Rows L2 Ow
/-! ### data that is compared: lists and tuples of texts, of ints -/
theorem dpa_strs {K : PySem.W.Frag} {H : Hp} : ∀ xs : List Str, DpAll K H (xs.map V.str) (xs.map PyData.str)
  | [] => .nil
  | x :: xs => .cons (.str x) (dpa_strs xs)
theorem sg_low : ∀ c ∈ SG.cps.toList, c < 0x110000 := by decide +kernel
theorem Wd.lay {x : Str} (h : Wd x) : PyData.strOk x = true := by
  unfold PyData.strOk
  rw [Array.all_eq_true]
  intro i hi
  exact decide_eq_true (sg_low _ (h.s i _ (Array.getElem?_eq_getElem hi)))
theorem lay_strs : ∀ xs : List Str, (∀ x ∈ xs, Wd x) → PyData.canLayAll0 (xs.map PyData.str) = true
  | [], _ => by simp [PyData.canLayAll0]
  | x :: xs, h => by simp [PyData.canLayAll0, PyData.canLay0, (h x List.mem_cons_self).lay, lay_strs xs fun y hy => h y (List.mem_cons_of_mem _ hy)]
theorem dep_strs : ∀ xs : List Str, PyData.depthAll (xs.map PyData.str) = 0
  | [] => by simp [PyData.depthAll]
  | x :: xs => by simp [PyData.depthAll, PyData.depth, dep_strs xs]
theorem dpa_ints {K : PySem.W.Frag} {H : Hp} : ∀ xs : List Int, DpAll K H (xs.map V.int) (xs.map PyData.int)
  | [] => .nil
  | x :: xs => .cons (.int x) (dpa_ints xs)
theorem lay_ints : ∀ xs : List Int, PyData.canLayAll0 (xs.map PyData.int) = true
  | [] => by simp [PyData.canLayAll0]
  | x :: xs => by simp [PyData.canLayAll0, PyData.canLay0, lay_ints xs]
theorem dep_ints : ∀ xs : List Int, PyData.depthAll (xs.map PyData.int) = 0
  | [] => by simp [PyData.depthAll]
  | x :: xs => by simp [PyData.depthAll, PyData.depth, dep_ints xs]
theorem shp_of {d : PyData} (h1 : d.canLay0 = true) (h2 : d.depth ≤ 64) : SeqAt.shaped d = true := by
  show (d.canLay0 && decide (d.depth ≤ 64)) = true
  rw [h1, decide_eq_true h2]
  rfl
theorem cl_strs {xs : List Str} (hn : NL xs) : (PyData.list (xs.map PyData.str)).canLay0 = true ∧ (PyData.tuple (xs.map PyData.str)).canLay0 = true := ⟨by simpa [PyData.canLay0] using lay_strs xs hn.w, by simpa [PyData.canLay0] using lay_strs xs hn.w⟩
theorem cl_ints (xs : List Int) : (PyData.tuple (xs.map PyData.int)).canLay0 = true := by simpa [PyData.canLay0] using lay_ints xs
theorem shp_lstr {xs : List Str} (hn : NL xs) : SeqAt.shaped (.list (xs.map PyData.str)) = true := shp_of (cl_strs hn).1 (by simp only [PyData.depth, dep_strs]; omega)
theorem shp_tstr {xs : List Str} (hn : NL xs) : SeqAt.shaped (.tuple (xs.map PyData.str)) = true := shp_of (cl_strs hn).2 (by simp only [PyData.depth, dep_strs]; omega)
theorem shp_tint (xs : List Int) : SeqAt.shaped (.tuple (xs.map PyData.int)) = true := shp_of (cl_ints xs) (by simp only [PyData.depth, dep_ints]; omega)
theorem eqv_lstr {xs : List Str} (hn : NL xs) : PyData.eqv (.list (xs.map PyData.str)) (.list (xs.map PyData.str)) = true := SeqAt.eqv_refl _ (cl_strs hn).1
theorem eqv_tstr {xs : List Str} (hn : NL xs) : PyData.eqv (.tuple (xs.map PyData.str)) (.tuple (xs.map PyData.str)) = true := SeqAt.eqv_refl _ (cl_strs hn).2
theorem eqv_ints : ∀ xs ys : List Int, PyData.eqv (.tuple (xs.map PyData.int)) (.tuple (ys.map PyData.int)) = decide (xs = ys)
  | [], [] => by simp [PyData.eqv, PyData.eqvAll]
  | [], y :: ys => by simp [PyData.eqv, PyData.eqvAll]
  | x :: xs, [] => by simp [PyData.eqv, PyData.eqvAll]
  | x :: xs, y :: ys => by
    have e := eqv_ints xs ys
    simp only [PyData.eqv] at e
    simp only [List.map_cons, PyData.eqv, PyData.eqvAll, e]
    by_cases h : x = y <;> by_cases g : xs = ys <;> simp [h, g]
/-- what != asks of two equal lists of texts -/
theorem ne_lstr {K : PySem.W.Frag} {H : Hp} {a b : Addr} {xs : List Str} {Q : VK} (hn : NL xs) (h1 : SqL K H a (xs.map V.str)) (h2 : SqL K H b (xs.map V.str)) (k : Q (.bl false) H) : rNeD K (.ref a) (.ref b) H Q :=
  ⟨.list (xs.map PyData.str), .list (xs.map PyData.str), .lst h1 (dpa_strs xs), .lst h2 (dpa_strs xs), shp_lstr hn, shp_lstr hn, by rw [eqv_lstr hn]; exact k⟩
theorem ne_tstr {K : PySem.W.Frag} {H : Hp} {a b : Addr} {xs : List Str} {Q : VK} (hn : NL xs) (h1 : SqT K H a (xs.map V.str)) (h2 : SqT K H b (xs.map V.str)) (k : Q (.bl false) H) : rNeD K (.ref a) (.ref b) H Q :=
  ⟨.tuple (xs.map PyData.str), .tuple (xs.map PyData.str), .tup h1 (dpa_strs xs), .tup h2 (dpa_strs xs), shp_tstr hn, shp_tstr hn, by rw [eqv_tstr hn]; exact k⟩
theorem eq_tstr {K : PySem.W.Frag} {H : Hp} {a b : Addr} {xs : List Str} {Q : VK} (hn : NL xs) (h1 : SqT K H a (xs.map V.str)) (h2 : SqT K H b (xs.map V.str)) (k : Q (.bl true) H) : rEqD K (.ref a) (.ref b) H Q :=
  ⟨.tuple (xs.map PyData.str), .tuple (xs.map PyData.str), .tup h1 (dpa_strs xs), .tup h2 (dpa_strs xs), shp_tstr hn, shp_tstr hn, by rw [eqv_tstr hn]; exact k⟩
end K24

namespace K24
open PySem PySem.Spec PyProof.Rows L2 Ow
theorem hu64_of {A : Around} {k : Nat} (hr : Room k A) : A.units + 64 < cLine := hr.units
abbrev NCT : List Str := ["totals", "at", "name", "word"]
theorem scCT : FnScope NCT ["totals"] (defScope sCheckTotals) := ⟨rfl, rfl, rfl, by decide +kernel, rfl, by decide +kernel, by decide +kernel⟩
def spCT (K : PySem.W.Frag) : Sp := fun vs H Q _ => ∃ (t : Addr), vs = [.ref t] ∧ SqL K H t [] ∧ ∀ H', Same H H' → Q .non H'
abbrev NCS : List Str := ["sorts", "steps", "left", "leading", "x", "y"]
theorem scCS : FnScope NCS ["sorts", "steps"] (defScope sCheckSteps) := ⟨rfl, rfl, rfl, by decide +kernel, rfl, by decide +kernel, by decide +kernel⟩
/-- the block of the outer comprehension -/
def scCSx : Scope := { kind := .function, names := [(".0", .local), ("x", .cell), ("any", .globalImplicit), ("left", .cell), ("steps", .cell)], isGenerator := false, isCoroutine := false }
def teIn (K : PySem.W.Frag) : TE := tOp (rInD K) (tTup (tCons (tVar 4) (tCons (tVar 5) tNil))) (tVar 1)
def ttAny (K : PySem.W.Frag) : TT := tB (tCB (rAny K) (tCons (tLc (iList K (tVar 2)) (gName 5) tYes (teIn K) [5]) tNil))
theorem shp_pair {x y : Str} (hx : Wd x) (hy : Wd y) : SeqAt.shaped (.tuple [.str x, .str y]) = true :=
  shp_of (by simp [PyData.canLay0, PyData.canLayAll0, hx.lay, hy.lay]) (by simp [PyData.depth, PyData.depthAll])
theorem shp_nil : SeqAt.shaped (.list []) = true := shp_of (by simp [PyData.canLay0, PyData.canLayAll0]) (by simp [PyData.depth, PyData.depthAll])
/-- no step leads on -/
theorem lead_ev {K : PySem.W.Frag} {t L : Addr} {xs : List Str} {v0 v3 : Option V} {G : Hp} {Q : VK} (ht : SqL K G t []) (hL : SqL K G L (xs.map V.str)) (hn : NL xs) (k : ∀ D G', G D = none → Same G G' → G' D = some (.lst []) → Q (.ref D) G') :
    tLc (iList K (tVar 2)) (gName 4) (ttAny K) (tVar 4) [4] [v0, some (.ref t), some (.ref L), v3, none, none] G Q := by
  refine ⟨_, rfl, L, rfl, ⟨_, hL⟩, fun D hD => ?_⟩
  refine lc_list (K := K) (a := L) (xs := xs.map V.str) (fun i G' => G' D = some (.lst []) ∧ Same G G') ⟨upd_same, same_upd hD⟩ (fun i G' _ p => p.2.seq hL) ?_ (fun G' p => k D G' hD p.2 p.1)
  rintro i v G' hi ⟨e, s1⟩
  obtain ⟨x, ex, rfl⟩ := str_at hi
  have hx := hn.w x (List.mem_of_getElem? ex)
  refine ⟨rfl, ?_⟩
  show tB (tCB (rAny K) (tCons (tLc (iList K (tVar 2)) (gName 5) tYes (teIn K) [5]) tNil)) _ _ _
  refine ⟨_, rfl, L, rfl, ⟨_, s1.seq hL⟩, fun D2 hD2 => ?_⟩
  refine lc_list (K := K) (a := L) (xs := xs.map V.str) (fun j G2 => G2 D2 = some (.lst ((List.replicate j false).map V.bl)) ∧ Same G' G2) ⟨upd_same, same_upd hD2⟩ (fun j G2 _ p => p.2.seq (s1.seq hL)) ?_ ?_
  · rintro j v G2 hj ⟨e2, s2⟩
    obtain ⟨y, ey, rfl⟩ := str_at hj
    have hy := hn.w y (List.mem_of_getElem? ey)
    refine ⟨rfl, ?_⟩
    refine ⟨_, rfl, _, rfl, szl (by show 2 ≤ 1000; decide), fun T hT => ?_⟩
    refine ⟨_, rfl, .tuple [.str x, .str y], [], .tup (SqT.of upd_same) (.cons (.str _) (.cons (.str _) .nil)), .lst ((same_upd hT).seq (s2.seq (s1.seq ht))) .nil, shp_pair hx hy, shp_nil, ?_⟩
    refine ⟨_, same_upd hT _ _ e2, ?_, ?_, same_put hD2 (s2.trans (same_upd hT))⟩
    · rw [List.length_map, List.length_replicate]
      have z := (List.getElem?_eq_some_iff.mp ey).1
      have n16 := hn.n
      exact small1000 (by omega)
    · rw [upd_same, List.replicate_succ', List.map_append]
      rfl
  · rintro G2 ⟨e2, s2⟩
    refine ⟨D2, _, rfl, SqL.of e2, false, ?_, ?_⟩
    · rw [show (List.replicate (xs.map V.str).length false).any id = false by simp]
    · exact ⟨s2 _ _ e, s1.trans s2⟩
theorem lead_st {K : PySem.W.Frag} {t L : Addr} {xs : List Str} {v0 v3 : Option V} {G : Hp} {u : TS} {E : Ends} (ht : SqL K G t []) (hL : SqL K G L (xs.map V.str)) (hn : NL xs) (k : ∀ D G', G D = none → Same G G' → G' D = some (.lst []) → u E [v0, some (.ref t), some (.ref L), some (.ref D), none, none] G') :
    tSeq (tAsg (tLc (iList K (tVar 2)) (gName 4) (ttAny K) (tVar 4) (List.map (fun x => x.snd) [(("x" : Str), 4)])) (gName 3)) u E [v0, some (.ref t), some (.ref L), v3, none, none] G :=
  lead_ev (Q := fun v G' => gName 3 v [v0, some (.ref t), some (.ref L), v3, none, none] G' (u E)) ht hL hn k
theorem lead_en {K : PySem.W.Frag} {t L : Addr} {xs : List Str} {v0 v3 : Option V} {G : Hp} {E : Ends} (ht : SqL K G t []) (hL : SqL K G L (xs.map V.str)) (hn : NL xs) (k : ∀ D G', G D = none → Same G G' → G' D = some (.lst []) → E.nx [v0, some (.ref t), some (.ref L), some (.ref D), none, none] G') :
    tAsg (tLc (iList K (tVar 2)) (gName 4) (ttAny K) (tVar 4) (List.map (fun x => x.snd) [(("x" : Str), 4)])) (gName 3) E [v0, some (.ref t), some (.ref L), v3, none, none] G :=
  lead_ev (Q := fun v G' => gName 3 v [v0, some (.ref t), some (.ref L), v3, none, none] G' E.nx) ht hL hn k
def spCS (K : PySem.W.Frag) : Sp := fun vs H Q _ => ∃ (s t : Addr) (xs : List Str), vs = [.ref s, .ref t] ∧ SqL K H s (xs.map V.str) ∧ NL xs ∧ SqL K H t [] ∧ ∀ H', Same H H' → Q .non H'
section
variable {P : Program} {w : World} {K : PySem.W.Frag} {mg : Str → Option Value} {base : Heap} {f : Addr} {fd : FuncData}
theorem ok_ct (F : FnP K "_check_totals" sCheckTotals f fd) (Y : Fx w K mg) : FnOk P w K mg base CX0 1 f fd ["totals"] (spCT K) := by
  refine okD F scCT (fun vs H Q E h => ?_) (fun cdv A outer s H vs Q E hr h => ?_)
  · obtain ⟨t, rfl, _⟩ := h
    rfl
  · have nd := scCT.nd
    refine ⟨_, pss_one (ps_for PassesOwn.never rfl (pi_enumA (by rfl) Y.bEnumerate (pa_cons (pv 0) pa_nil)) (pg_tup rfl (pgs_cons (pg_name (i := 1) nd rfl (Or.inl rfl)) (pgs_cons (pg_tup rfl (pgs_cons (pg_name (i := 2) nd rfl (Or.inl rfl)) (pgs_cons (pg_name (i := 3) nd rfl (Or.inl rfl)) pgs_nil))) pgs_nil)))
      (pss_one (ps_ifN (pw_or (pt_cmpR op_notIn_seq (pv 3) (pe_tup (pa_cons pe_str (pa_cons pe_str pa_nil))) (by rfl)) (pw_or1 (pt_cmpR op_in_seq (pe_tup (pa_cons (pv 2) (pa_cons (pv 3) pa_nil))) (pe_slice sl_list (pv 0) po_none (po_some (pv 1))) (by rfl)))).pt pss_nil))), ?_⟩
    obtain ⟨t, rfl, ht, k⟩ := h
    refine ⟨_, rfl, t, [], rfl, .inl ht, fun J GG wk gk => for_it wk (fun i σ G => Same H G) (Same.refl _) (fun i σ G _ q => gk G q) (fun i v σ G G' hi => absurd hi (Nat.not_lt_zero _)) fun σ G s2 => k G s2⟩
theorem ok_cs (F : FnP K "_check_steps" sCheckSteps f fd) (Y : Fx w K mg) : FnOk P w K mg base CX0 1 f fd ["sorts", "steps"] (spCS K) := by
  refine okD F scCS (fun vs H Q E h => ?_) (fun cdv A outer s H vs Q E hr h => ?_)
  · obtain ⟨a, t, xs, rfl, _⟩ := h
    rfl
  · have nd := scCS.nd
    have hu65 : (A.deeper (envOfC "_check_steps" (defScope sCheckSteps) s.heap.objs.size f cdv)).units + 65 < cLine := by have := hr.un; omega
    have hu64 := hu64_of hr
    refine ⟨_, pss_cons (ps_set (i := 2) nd rfl (Or.inr rfl) (pe_callTy call_list_of (by rfl) Y.bList boot_list (pa_cons (pv 0) pa_nil)))
      (pss_cons (ps_setLc (i := 3) (own := [("x", 4)]) (g := gName 4) (tt := ttAny K) (te := tVar 4) rfl nd rfl rfl (by rfl) (pi_list (pv 2)) (blkOk_by (N := NCS) (sc := defScope sCheckSteps) (by decide +kernel)) (fun _ _ _ _ _ => pg_name (i := 4) nd rfl (Or.inr rfl))
          (fun _ _ _ _ _ => pts_one (pt_val (pe_callB (cr_any rfl) (by rfl) Y.bAny (by decide +kernel) (pa_cons (pe_lc (own := [("y", 5)]) (g := gName 5) (tt := tYes) (te := teIn K) rfl nd (pi_list (pv 2)) (blkOk_by (N := NCS) (sc := scCSx) (by decide +kernel)) (fun _ _ _ _ _ => pg_name (i := 5) nd rfl (Or.inl rfl)) (fun _ _ _ _ _ => pts_nil)
            (fun _ _ _ _ _ => pe_cmpR (op_inD hu65) (pe_tup (pa_cons (pv 4) (pa_cons (pv 5) pa_nil))) (pv 1) (by rfl))) pa_nil))))
          (fun _ _ _ _ _ => pv 4))
      (pss_cons (ps_while PassesOwn.never (pt_cmpR (op_neD hu64) (pv 3) (pv 2) (nomark _))
        (pss_cons (ps_set (i := 2) nd rfl (Or.inr rfl) (pv 3))
        (pss_cons (ps_setLc (i := 3) (own := [("x", 4)]) (g := gName 4) (tt := ttAny K) (te := tVar 4) rfl nd rfl rfl (by rfl) (pi_list (pv 2)) (blkOk_by (N := NCS) (sc := defScope sCheckSteps) (by decide +kernel)) (fun _ _ _ _ _ => pg_name (i := 4) nd rfl (Or.inr rfl))
          (fun _ _ _ _ _ => pts_one (pt_val (pe_callB (cr_any rfl) (by rfl) Y.bAny (by decide +kernel) (pa_cons (pe_lc (own := [("y", 5)]) (g := gName 5) (tt := tYes) (te := teIn K) rfl nd (pi_list (pv 2)) (blkOk_by (N := NCS) (sc := scCSx) (by decide +kernel)) (fun _ _ _ _ _ => pg_name (i := 5) nd rfl (Or.inl rfl)) (fun _ _ _ _ _ => pts_nil)
            (fun _ _ _ _ _ => pe_cmpR (op_inD hu65) (pe_tup (pa_cons (pv 4) (pa_cons (pv 5) pa_nil))) (pv 1) (by rfl))) pa_nil))))
          (fun _ _ _ _ _ => pv 4)) pss_nil)))
      (pss_one (ps_ifN (pt_truth (pv 2) (by intro _; rfl)) pss_nil)))), ?_⟩
    obtain ⟨a, t, xs, rfl, hs, hn, ht, k⟩ := h
    refine ⟨_, rfl, a, _, rfl, .inl hs, fun L hL => ?_⟩
    have s0 := same_upd (o := .lst (xs.map V.str)) hL
    change tSeq _ _ _ _ (upd H L (.lst (xs.map V.str)))
    refine lead_st (xs := xs) (s0.seq ht) (SqL.of upd_same) hn fun D G hD s1 eD => ?_
    have eL : G L = some (.lst (xs.map V.str)) := s1 _ _ upd_same
    replace s1 := s0.trans s1
    change tSeq (tWhile _ _) _ _ _ _
    refine while_by (fun σ G' => ∃ (L D : Addr) (ys : List Str), σ = [some (.ref a), some (.ref t), some (.ref L), some (.ref D), none, none] ∧ G' L = some (.lst (ys.map V.str)) ∧ G' D = some (.lst []) ∧ NL ys ∧ Same H G')
      (fun σ G' => match σ[2]? with
        | some (some (V.ref b)) => (match G' b with
          | some (.lst zs) => zs.length
          | _ => 0)
        | _ => 0) ⟨L, D, xs, rfl, eL, eD, hn, s1⟩ ?_ ?_
    · rintro σ G' ⟨L, D, ys, rfl, hL, hD, hn, sm⟩
      refine ⟨_, rfl, _, rfl, .list [], .list (ys.map PyData.str),   .lst (SqL.of hD) .nil, .lst (SqL.of hL) (dpa_strs ys), shp_nil, shp_lstr hn, ?_⟩
      cases ys with
      | nil =>
        refine ⟨false, by simp [PyData.eqv, PyData.eqvAll], iteF ?_⟩
        exact ⟨_, rfl, false, .inl ⟨_, SqL.of hL, rfl⟩, rfl, k G' sm⟩
      | cons y ys =>
        refine ⟨true, by simp [PyData.eqv, PyData.eqvAll], iteT ?_⟩
        refine ⟨_, rfl, ?_⟩
        change tSeq _ _ _ _ _
        refine lead_st (xs := []) (sm.seq ht) (SqL.of hD) ⟨List.nodup_nil, fun x hx => absurd hx List.not_mem_nil, Nat.zero_le _⟩ fun D2 G2 hD2 s2 e2 => ?_
        refine ⟨⟨D, D2, [], rfl, s2 _ _ hD, e2, ⟨List.nodup_nil, fun x hx => absurd hx List.not_mem_nil, Nat.zero_le _⟩, sm.trans s2⟩, ?_⟩
        show (match G2 D with
          | some (HO.lst zs) => zs.length
          | _ => 0) < (match G' L with
          | some (HO.lst zs) => zs.length
          | _ => 0)
        rw [s2 _ _ hD, hL]
        exact Nat.succ_pos _
    · rintro σ G' Q1 Q2 hq ⟨v, e1, u, e2, d, e, h1, h2, h3, h4, kk, e3, z⟩
      exact ⟨v, e1, u, e2, d, e, h1, h2, h3, h4, kk, e3, hq _ _ z⟩
end
end K24

namespace K24
open PySem PySem.Spec PyProof.Rows L2 Ow
/-- an expression that is never asked -/
def tNo : TE := fun _ _ _ => False
theorem pe_no {X : Cx} {e : Expr} : PE X e tNo := ⟨fun _ _ _ _ _ _ h => h.elim⟩
abbrev FnM (K : PySem.W.Frag) (m q : Str) (st : Stmt) (f : Addr) (fd : FuncData) : Prop := FunD K m q (defArgs st) (defBody st) (defScope st) [] [] f fd
def isIns : HO → Bool
  | .ins _ _ _ => true
  | _ => false
section
variable {K : PySem.W.Frag} {x : Addr} {H H' : Hp}
theorem Keep.one {o : HO} (k : Keep x H H') (hx : ∃ u, H x = some u ∧ isIns u = true) {b : Addr} (e : H b = some o) (n : isIns o = false) : H' b = some o := by
  refine k b o (fun z => ?_) e
  obtain ⟨u, hu, iu⟩ := hx
  subst z
  rw [hu] at e
  cases e
  rw [iu] at n
  cases n
theorem Keep.sqt {a : Addr} {xs : List V} (k : Keep x H H') (hx : ∃ u, H x = some u ∧ isIns u = true) (h : SqT K H a xs) : SqT K H' a xs :=
  h.elim (fun h => .inl (h.elim (fun h => .inl (k.one hx h rfl)) fun ⟨o, h⟩ => .inr ⟨o, k.one hx h rfl⟩)) fun h => .inr h
theorem Keep.sql {a : Addr} {xs : List V} (k : Keep x H H') (hx : ∃ u, H x = some u ∧ isIns u = true) (h : SqL K H a xs) : SqL K H' a xs :=
  h.elim (fun h => .inl (h.elim (fun h => .inl (k.one hx h rfl)) fun ⟨o, h⟩ => .inr ⟨o, k.one hx h rfl⟩)) fun h => .inr h
theorem Keep.tups {l : Addr} {vss : List (List V)} (k : Keep x H H') (hx : ∃ u, H x = some u ∧ isIns u = true) (h : TupsAt K H l vss) : TupsAt K H' l vss := by
  obtain ⟨as, q, e, g⟩ := h
  refine ⟨as, k.sql hx q, e, fun i t z => ?_⟩
  obtain ⟨vs, e1, e2⟩ := g i t z
  exact ⟨vs, e1, k.sqt hx e2⟩
end
abbrev NFI : List Str := ["self", "sorts", "letters", "totals", "kept_totals", "ends", "letter", "name", "word", "first", "second", "total"]
theorem scFI : FnScope NFI ["self", "sorts", "letters", "totals"] (defScope sFrame_Init) := ⟨rfl, rfl, rfl, by decide +kernel, rfl, by decide +kernel, by decide +kernel⟩
/-- a frame's parts without totals -/
structure FrOk (xs : List Str) (ls : List Lt) : Prop where
  nx : NL xs
  nl : NL (ls.map (·.1))
  ends : ∀ q ∈ ls, q.2.1 ∈ xs ∧ q.2.2 ∈ xs
def spFI (K : PySem.W.Frag) : Sp := fun vs H Q _ => ∃ (x s l t dx : Addr) (xs : List Str) (ls : List Lt), vs = [.ref x, .ref s, .ref l, .ref t] ∧ H x = some (.ins (CFrame K) dx []) ∧ SqL K H s (xs.map V.str) ∧ TupsAt K H l (ls.map ltV) ∧ SqL K H t [] ∧ FrOk xs ls ∧
  ∀ H', Keep x H H' → Q .non H'
theorem lt_at {ls : List Lt} {i : Nat} {vs : List V} (e1 : (ls.map ltV)[i]? = some vs) : ∃ lt, ls[i]? = some lt ∧ vs = ltV lt := by
  rw [List.getElem?_map] at e1
  cases e : ls[i]? with
  | none => rw [e] at e1; cases e1
  | some z => rw [e] at e1; exact ⟨z, rfl, (Option.some.inj e1).symm⟩
section
variable {P : Program} {w : World} {K : PySem.W.Frag} {mg : Str → Option Value} {base : Heap} {f : Addr} {fd : FuncData}
theorem ok_fi (F : FnM K "__init__" "Frame.__init__" sFrame_Init f fd) (Y : Fx w K mg) : FnOk P w K mg base CX0 3 f fd ["self", "sorts", "letters", "totals"] (spFI K) := by
  obtain ⟨d1, F1⟩ := Y.dCheckNames
  obtain ⟨d2, F2⟩ := Y.dCheckEnds
  obtain ⟨d3, F3⟩ := Y.dCheckTotals
  obtain ⟨d4, F4⟩ := Y.dCheckSteps
  have b1 := FunD.bindsN (ps := ["lists"]) F1 fun _ _ _ _ _ _ us hl => match us, hl with | [_], _ => rfl
  have b2 := FunD.bindsN (ps := ["sorts", "letters", "totals"]) F2 fun _ _ _ _ _ _ us hl => match us, hl with | [_, _, _], _ => rfl
  have b3 := FunD.bindsN (ps := ["totals"]) F3 fun _ _ _ _ _ _ us hl => match us, hl with | [_], _ => rfl
  have b4 := FunD.bindsN (ps := ["sorts", "steps"]) F4 fun _ _ _ _ _ _ us hl => match us, hl with | [_, _], _ => rfl
  have G1 : FnOk P w K mg base CX0 2 _ d1 ["lists"] (spCheck K) := ok_check F1 Y
  have G2 : FnOk P w K mg base CX0 1 _ d2 ["sorts", "letters", "totals"] (spCE K) := ok_ce F2 Y
  have G3 : FnOk P w K mg base CX0 1 _ d3 ["totals"] (spCT K) := ok_ct F3 Y
  have G4 : FnOk P w K mg base CX0 1 _ d4 ["sorts", "steps"] (spCS K) := ok_cs F4 Y
  refine okD F scFI (fun vs H Q E h => ?_) (fun cdv A outer s H vs Q E hr h => ?_)
  · obtain ⟨x, a, l, t, dx, xs, ls, rfl, _⟩ := h
    rfl
  · have nd := scFI.nd
    have hr1 : Room 1 _ := hr.mono (by decide)
    refine ⟨_, pss_cons (ps_expr (pe_call G1 hr (by rfl) Y.gCheckNames F1.kp b1 .nil pass0 (pa_cons (pe_lst (pa_cons (pv 1) (pa_cons
          (pe_lc (own := [("letter", 6)]) (g := gName 6) (tt := tYes) (te := tOp (rIxT K) (tVar 6) (tC (.int 0))) rfl nd (pi_list (pv 2)) (blkOk_by (N := NFI) (sc := defScope sFrame_Init) (by decide +kernel)) (fun _ _ _ _ _ => pg_name (i := 6) nd rfl (Or.inl rfl)) (fun _ _ _ _ _ => pts_nil) (fun _ _ _ _ _ => pe_ix ix_tup (pv 6) pe_int (fun _ _ => rfl))) pa_nil))) pa_nil)))
      (pss_cons (ps_expr (pe_call G2 hr1 (by rfl) Y.gCheckEnds F2.kp b2 .nil pass0 (pa_cons (pv 1) (pa_cons (pv 2) (pa_cons (pv 3) pa_nil)))))
      (pss_cons (ps_setLc (i := 4) (own := [("name", 7), ("word", 8)]) (g := gTup K 2 (gCons (gName 7) (gCons (gName 8) gNil))) (tt := tYes) (te := tNo) rfl nd rfl rfl (by rfl) (pi_list (pv 3)) (blkOk_by (N := NFI) (sc := defScope sFrame_Init) (by decide +kernel)) (fun _ _ _ _ _ => pg_tup rfl (pgs_cons (pg_name (i := 7) nd rfl (Or.inl rfl)) (pgs_cons (pg_name (i := 8) nd rfl (Or.inl rfl)) pgs_nil))) (fun _ _ _ _ _ => pts_nil) (fun _ _ _ _ _ => pe_no))
      (pss_cons (ps_expr (pe_call G3 hr1 (by rfl) Y.gCheckTotals F3.kp b3 .nil pass0 (pa_cons (pv 4) pa_nil)))
      (pss_cons (ps_set (i := 5) nd rfl (Or.inr rfl) (pe_dc (own := [("name", 7), ("first", 9), ("second", 10)]) (g := gTup K 3 (gCons (gName 7) (gCons (gName 9) (gCons (gName 10) gNil)))) (tt := tYes) (tk := tVar 7) (tv := tTup (tCons (tVar 9) (tCons (tVar 10) tNil))) rfl nd (pi_list (pv 2)) (blkOk_by (N := NFI) (sc := defScope sFrame_Init) (by decide +kernel))
          (fun _ _ _ _ _ => pg_tup rfl (pgs_cons (pg_name (i := 7) nd rfl (Or.inl rfl)) (pgs_cons (pg_name (i := 9) nd rfl (Or.inl rfl)) (pgs_cons (pg_name (i := 10) nd rfl (Or.inl rfl)) pgs_nil)))) (fun _ _ _ _ _ => pts_nil) (fun _ _ _ _ _ => pv 7) (fun _ _ _ _ _ => pe_tup (pa_cons (pv 9) (pa_cons (pv 10) pa_nil)))))
      (pss_cons (ps_expr (pe_call G4 hr1 (by rfl) Y.gCheckSteps F4.kp b4 .nil pass0 (pa_cons (pv 1) (pa_cons
          (pe_lc (own := [("total", 11)]) (g := gName 11) (tt := tYes) (te := tNo) rfl nd (pi_list (pv 4)) (blkOk_by (N := NFI) (sc := defScope sFrame_Init) (by decide +kernel)) (fun _ _ _ _ _ => pg_name (i := 11) nd rfl (Or.inl rfl)) (fun _ _ _ _ _ => pts_nil) (fun _ _ _ _ _ => pe_no)) pa_nil))))
      (pss_cons (ps_fld (pv 0) (pe_callTy call_tuple_of (by rfl) Y.bTuple (by decide +kernel) (pa_cons (pv 1) pa_nil)) rfl)
      (pss_cons (ps_fld (pv 0) (pe_callTy call_tuple_of (by rfl) Y.bTuple (by decide +kernel) (pa_cons
          (pe_lc (own := [("name", 7), ("first", 9), ("second", 10)]) (g := gTup K 3 (gCons (gName 7) (gCons (gName 9) (gCons (gName 10) gNil)))) (tt := tYes) (te := tTup (tCons (tVar 7) (tCons (tVar 9) (tCons (tVar 10) tNil)))) rfl nd (pi_list (pv 2)) (blkOk_by (N := NFI) (sc := defScope sFrame_Init) (by decide +kernel))
            (fun _ _ _ _ _ => pg_tup rfl (pgs_cons (pg_name (i := 7) nd rfl (Or.inl rfl)) (pgs_cons (pg_name (i := 9) nd rfl (Or.inl rfl)) (pgs_cons (pg_name (i := 10) nd rfl (Or.inl rfl)) pgs_nil)))) (fun _ _ _ _ _ => pts_nil) (fun _ _ _ _ _ => pe_tup (pa_cons (pv 7) (pa_cons (pv 9) (pa_cons (pv 10) pa_nil))))) pa_nil)) rfl)
      (pss_cons (ps_fld (pv 0) (pe_callTy call_tuple_of (by rfl) Y.bTuple (by decide +kernel) (pa_cons (pv 4) pa_nil)) rfl)
      (pss_one (ps_fld (pv 0) (pv 5) rfl)))))))))), ?_⟩
    obtain ⟨x, a, l, t, dx, xs, ls, rfl, hx, hs, hl, ht, ok, k⟩ := h
    obtain ⟨as, q, la, g⟩ := id hl
    rw [List.length_map] at la
    have hx0 : ∃ u, H x = some u ∧ isIns u = true := ⟨_, hx, rfl⟩
    have n16 : ls.length ≤ 16 := by have := ok.nl.n; rw [List.length_map] at this; exact this
    refine ⟨_, rfl, _, rfl, l, rfl, ⟨_, q⟩, fun D hD => ?_⟩
    refine lc_list (K := K) (a := l) (xs := as.map V.ref) (fun i G => G D = some (.lst (((ls.take i).map (·.1)).map V.str)) ∧ Same H G) ⟨upd_same, same_upd hD⟩ (fun i G _ p => p.2.seq q) ?_ ?_
    · rintro i v G hi ⟨e, s2⟩
      obtain ⟨b, eb, rfl⟩ := ref_at hi
      obtain ⟨vs, e1, hT⟩ := g i b eb
      obtain ⟨lt, e2, rfl⟩ := lt_at e1
      have li : i < ls.length := (List.getElem?_eq_some_iff.mp e2).1
      refine ⟨rfl, _, rfl, b, _, 0, _, rfl, rfl, sqt_same s2 hT, rfl, _, e, ?_, ?_, same_put hD s2⟩
      · rw [List.length_map, List.length_map, List.length_take]
        exact small1000 (by omega)
      · rw [upd_same, List.take_add_one, e2]
        simp [ltV]
    rintro G0 ⟨eD, s0⟩
    rw [List.length_map, la, List.take_length] at eD
    refine ⟨szl (by show 2 ≤ 1000; decide), fun p hp => ?_⟩
    have sp := s0.trans (same_upd (o := .lst [V.ref a, V.ref D]) hp)
    refine ⟨p, .ref a, .ref D, xs, ls.map (·.1), rfl, SqL.of upd_same, ⟨a, rfl, .inl (sp.seq hs), ok.nx⟩, ⟨D, rfl, .inl (SqL.of (same_upd hp _ _ eD)), ok.nl⟩, fun H1 s1 => ?_⟩
    replace s1 := sp.trans s1
    clear sp hp eD s0 hD
    refine ⟨_, rfl, _, rfl, _, rfl, a, l, t, xs, ls, rfl, s1.seq hs, hl.same s1, ok.ends, n16, s1.seq ht, fun H2 s2 => ?_⟩
    replace s2 := s1.trans s2
    clear s1
    refine ⟨_, rfl, t, rfl, ⟨_, s2.seq ht⟩, fun T hT => ?_⟩
    refine lc_list (K := K) (a := t) (xs := []) (fun i G => G T = some (.lst []) ∧ Same H2 G) ⟨upd_same, same_upd hT⟩ (fun i G _ p => (s2.trans p.2).seq ht) (fun i v G hi => nomatch hi) ?_
    rintro H3 ⟨eT, s3⟩
    replace s3 := s2.trans s3
    clear s2 hT
    refine ⟨_, rfl, T, rfl, SqL.of eT, fun H4 s4 => ?_⟩
    have eT := s4 _ _ eT
    replace s4 := s3.trans s4
    clear s3
    refine ⟨_, rfl, l, rfl, ⟨_, s4.seq q⟩, fun N hN => ?_⟩
    refine dc_it (walk_list (K := K) (a := l) (xs := as.map V.ref)) (fun i G => (∃ kvs : List (Key × V), G N = some (.dK kvs) ∧ kvs.length ≤ i) ∧ Same H4 G) ⟨⟨[], upd_same, Nat.le_refl _⟩, same_upd hN⟩ (fun i G _ p => (s4.trans p.2).seq q) ?_ ?_
    · rintro i v G G' hi ⟨⟨kvs, e, lk⟩, s5⟩ ⟨rfl, ev⟩
      obtain ⟨b, eb, rfl⟩ := ref_at ev
      obtain ⟨vs, e1, hT⟩ := g i b eb
      obtain ⟨lt, e2, rfl⟩ := lt_at e1
      have li : i < ls.length := (List.getElem?_eq_some_iff.mp e2).1
      refine ⟨b, _, rfl, sqt_same (s4.trans s5) hT, rfl, _, _, rfl, _, _, rfl, _, _, rfl, rfl, rfl, _, rfl, _, rfl, _, rfl, szl (by show 2 ≤ 1000; decide), fun T2 hT2 => ?_⟩
      refine ⟨kvs, .inr lt.1, rfl, same_upd hT2 _ _ e, small1000 (by omega), ⟨putK kvs (.inr lt.1) (.ref T2), upd_same, ?_⟩, same_put hN (s5.trans (same_upd hT2))⟩
      exact Nat.le_trans (length_putK _ _ _) (by omega)
    rintro H5 ⟨⟨kvs, eN, _⟩, s5⟩
    have eT := s5 _ _ eT
    replace s5 := s4.trans s5
    clear s4 hN
    refine ⟨_, rfl, _, rfl, T, rfl, ⟨_, SqL.of eT⟩, fun U hU => ?_⟩
    refine lc_list (K := K) (a := T) (xs := []) (fun i G => G U = some (.lst []) ∧ Same H5 G) ⟨upd_same, same_upd hU⟩ (fun i G _ p => SqL.of (p.2 _ _ eT)) (fun i v G hi => nomatch hi) ?_
    rintro H6 ⟨eU, s6⟩
    refine ⟨a, U, xs, rfl, (s5.trans s6).seq hs, ok.nx, SqL.of eU, fun H7 s7 => ?_⟩
    have eT := s7 _ _ (s6 _ _ eT)
    have eN := s7 _ _ (s6 _ _ eN)
    replace s7 := s5.trans (s6.trans s7)
    clear s5 s6 hU eU
    -- the fields
    have x1 := s7 _ _ hx
    have hs1 := s7.seq hs
    have hl1 := hl.same s7
    have k1 : Keep x H H7 := .of s7
    clear s7
    refine ⟨_, rfl, a, _, rfl, .inl ⟨hs1, fun p hp => ⟨_, rfl, x, CFrame K, dx, _, rfl, (upd_ne (ne_of_none x1 hp)).trans x1, Y.cFrame, Y.nFrameSorts, (by show 0 < 1000; decide), ?_⟩⟩⟩
    have kk : Keep x H7 (upd (upd H7 p (.tup (xs.map V.str))) x (.ins (CFrame K) dx [("_sorts", .ref p)])) := (Keep.of (same_upd hp)).trans .put
    replace hl1 := kk.tups ⟨_, x1, rfl⟩ hl1
    replace eT := kk.one ⟨_, x1, rfl⟩ eT rfl
    replace eN := kk.one ⟨_, x1, rfl⟩ eN rfl
    replace k1 := k1.trans kk
    replace x1 : upd (upd H7 p (.tup (xs.map V.str))) x (.ins (CFrame K) dx [("_sorts", .ref p)]) x = some (.ins (CFrame K) dx [("_sorts", .ref p)]) := upd_same
    obtain ⟨G1, e1⟩ : ∃ Z, Z = upd (upd H7 p (.tup (xs.map V.str))) x (.ins (CFrame K) dx [("_sorts", .ref p)]) := ⟨_, rfl⟩
    change tSeq _ _ _ _ (upd (upd H7 p (.tup (xs.map V.str))) x (.ins (CFrame K) dx [("_sorts", .ref p)]))
    rw [← e1] at hl1 eT eN k1 x1 ⊢
    clear kk e1 hs1 hp
    obtain ⟨as2, q2, la2, g2⟩ := hl1
    rw [List.length_map] at la2
    refine ⟨_, rfl, l, rfl, ⟨_, q2⟩, fun D hD => ?_⟩
    refine lc_list (K := K) (a := l) (xs := as2.map V.ref) (fun i G => (∃ us : List V, G D = some (.lst us) ∧ us.length = i) ∧ Same G1 G) ⟨⟨[], upd_same, rfl⟩, same_upd hD⟩ (fun i G _ p => p.2.seq q2) ?_ ?_
    · rintro i v G hi ⟨⟨us, e, lu⟩, s2⟩
      obtain ⟨b, eb, rfl⟩ := ref_at hi
      obtain ⟨vs, e1, hT⟩ := g2 i b eb
      obtain ⟨lt, e2, rfl⟩ := lt_at e1
      have li : i < ls.length := (List.getElem?_eq_some_iff.mp e2).1
      refine ⟨b, _, rfl, sqt_same s2 hT, rfl, _, _, rfl, _, _, rfl, _, _, rfl, rfl, rfl, ?_⟩
      refine ⟨_, rfl, _, rfl, _, rfl, szl (by show 3 ≤ 1000; decide), fun T2 hT2 => ?_⟩
      refine ⟨us, same_upd hT2 _ _ e, small1000 (by omega), ⟨us ++ [.ref T2], upd_same, by rw [List.length_append, lu]; rfl⟩, same_put hD (s2.trans (same_upd hT2))⟩
    rintro G2 ⟨⟨us, eD, _⟩, s2⟩
    replace x1 := s2 _ _ x1
    replace eT := s2 _ _ eT
    replace eN := s2 _ _ eN
    replace k1 := k1.trans (Keep.of s2)
    clear s2 hD q2 g2 la2
    refine ⟨D, us, rfl, .inl ⟨SqL.of eD, fun p2 hp => ⟨_, rfl, x, CFrame K, dx, _, rfl, (upd_ne (ne_of_none x1 hp)).trans x1, Y.cFrame, Y.nFrameLetters, (by show 1 < 1000; decide), ?_⟩⟩⟩
    have kk : Keep x G2 (upd (upd G2 p2 (.tup us)) x (.ins (CFrame K) dx [("_sorts", .ref p), ("_letters", .ref p2)])) := (Keep.of (same_upd hp)).trans .put
    replace eT := kk.one ⟨_, x1, rfl⟩ eT rfl
    replace k1 := k1.trans kk
    replace x1 : upd (upd G2 p2 (.tup us)) x (.ins (CFrame K) dx [("_sorts", .ref p), ("_letters", .ref p2)]) x = some (.ins (CFrame K) dx [("_sorts", .ref p), ("_letters", .ref p2)]) := upd_same
    obtain ⟨G3, e1⟩ : ∃ Z, Z = upd (upd G2 p2 (.tup us)) x (.ins (CFrame K) dx [("_sorts", .ref p), ("_letters", .ref p2)]) := ⟨_, rfl⟩
    change tSeq _ _ _ _ (upd (upd G2 p2 (.tup us)) x (.ins (CFrame K) dx [("_sorts", .ref p), ("_letters", .ref p2)]))
    rw [← e1] at eT k1 x1 ⊢
    clear kk e1 hp
    refine ⟨_, rfl, T, _, rfl, .inl ⟨SqL.of eT, fun p3 hp => ⟨_, rfl, x, CFrame K, dx, _, rfl, (upd_ne (ne_of_none x1 hp)).trans x1, Y.cFrame, Y.nFrameTotals, (by show 2 < 1000; decide), ?_⟩⟩⟩
    refine ⟨_, rfl, _, rfl, x, CFrame K, dx, _, rfl, upd_same, Y.cFrame, Y.nFrameEnds, (by show 3 < 1000; decide), ?_⟩
    exact k _ ((k1.trans ((Keep.of (same_upd hp)).trans .put)).trans .put)
end
end K24

namespace K24
open PySem PySem.Spec PyProof.Rows L2 Ow
def hid (d c : Addr) (H : Hp) : Hp := fun b => if b = d ∨ b = c then none else H b
theorem hid_pick {d c : Addr} {H H' : Hp} (k : ∀ b, b ≠ d → b ≠ c → H' b = H b) : hid d c H' = hid d c H := by
  funext b
  unfold hid
  by_cases h : b = d ∨ b = c
  · rw [if_pos h, if_pos h]
  · rw [if_neg h, if_neg h, k b (fun z => h (.inl z)) fun z => h (.inr z)]
theorem hid_at {d c b : Addr} {H : Hp} (h1 : b ≠ d) (h2 : b ≠ c) : hid d c H b = H b := if_neg fun h => h.elim h1 h2
theorem hid_same {d c : Addr} {H H' : Hp} (s : Same H H') : Same (hid d c H) (hid d c H') := fun b o e => by
  unfold hid at e ⊢
  by_cases h : b = d ∨ b = c
  · rw [if_pos h] at e; cases e
  · rw [if_neg h] at e ⊢; exact s b o e
theorem hid_sub {d c : Addr} {H : Hp} : Same (hid d c H) H := fun b o e => by
  unfold hid at e
  by_cases h : b = d ∨ b = c
  · rw [if_pos h] at e; cases e
  · rw [if_neg h] at e; exact e
theorem src_same {d c : Addr} {H H' : Hp} (s : Same H H') (h : SrcAt H d c) : SrcAt H' d c := let ⟨xs, l, m, t, h1, h2, h3⟩ := h; ⟨xs, l, m, t, s _ _ h1, h2, s _ _ h3⟩
theorem src_ne {d c b : Addr} {H : Hp} (h : SrcAt H d c) (n : H b = none) : b ≠ d ∧ b ≠ c := let ⟨_, _, _, _, h1, _, h3⟩ := h; ⟨(ne_of_none h3 n).symm, (ne_of_none h1 n).symm⟩

theorem src_put {d c L : Addr} {H : Hp} {o : HO} (n1 : L ≠ d) (n2 : L ≠ c) (h : SrcAt H d c) : SrcAt (upd H L o) d c := by
  obtain ⟨xs, l, m, t, h1, h2, h3⟩ := h
  exact ⟨xs, l, m, t, (upd_ne n2.symm).trans h1, h2, (upd_ne n1.symm).trans h3⟩
theorem hid_put {d c L : Addr} {H G : Hp} {o : HO} (hL : H L = none) (s : Same (hid d c H) (hid d c G)) : Same (hid d c H) (hid d c (upd G L o)) := fun b u e => by
  have nb : b ≠ L := ne_of_none (hid_sub b u e) hL
  have z := s b u e
  unfold hid at z ⊢
  by_cases q : b = d ∨ b = c
  · rw [if_pos q] at z
    cases z
  · rw [if_neg q] at z ⊢
    exact (upd_ne nb).trans z
/-! ### names -/
def tail2 (v : Nat) : Str := Txt.slice (toString (100 + (v : Int))) (some 1) none
def nameOf (c v : Nat) : Str := (⟨#[c]⟩ : Str) ++ tail2 v
def okT (v : Nat) : Bool := decide ((tail2 v).cps.size = 2) && (tail2 v).cps.toList.all fun c => decide (c ∈ SG.cps.toList)
def val2 (t : Str) : Nat := (t.cps.getD 0 0 - 48) * 10 + (t.cps.getD 1 0 - 48)
theorem tails : ((List.range 100).all fun v => okT v && decide (val2 (tail2 v) = v)) = true := by decide +kernel
theorem tlens : ((List.range 100).all fun v => decide ((PySem.Str.ofString (toString (100 + (v : Int)))).length ≤ 10)) = true := by decide +kernel
theorem lt_sg : ∀ c ∈ LT.cps.toList, c ∈ SG.cps.toList := by decide +kernel
theorem tail_ok {v : Nat} (h : v < 100) : (tail2 v).cps.size = 2 ∧ (∀ c ∈ (tail2 v).cps.toList, c ∈ SG.cps.toList) ∧ val2 (tail2 v) = v := by
  have z := List.all_eq_true.mp tails v (List.mem_range.mpr h)
  obtain ⟨z1, z2⟩ := an z
  obtain ⟨z3, z4⟩ := an z1
  exact ⟨of_decide_eq_true z3, fun c hc => of_decide_eq_true (List.all_eq_true.mp z4 c hc), of_decide_eq_true z2⟩
theorem name_cps (c v : Nat) : (nameOf c v).cps = #[c] ++ (tail2 v).cps := rfl
theorem name_wd {c v : Nat} (hc : c ∈ LT.cps.toList) (hv : v < 100) : Wd (nameOf c v) := by
  obtain ⟨t1, t2, _⟩ := tail_ok hv
  have sz : (nameOf c v).cps.size = 3 := by rw [name_cps, Array.size_append, t1]; rfl
  refine ⟨by show 1 ≤ (nameOf c v).cps.size; omega, by show (nameOf c v).cps.size ≤ 12; omega, fun x hx => ?_, fun i x hx => ?_⟩
  · rw [name_cps, Array.getElem?_append_left (by show 0 < 1; decide)] at hx
    have e : c = x := by simpa using hx
    rw [← e]
    exact hc
  · rw [name_cps] at hx
    by_cases l : i < 1
    · have i0 : i = 0 := by omega
      subst i0
      rw [Array.getElem?_append_left (by show 0 < 1; decide)] at hx
      have e : c = x := by simpa using hx
      rw [← e]
      exact lt_sg c hc
    · rw [Array.getElem?_append_right (by show 1 ≤ i; omega)] at hx
      exact t2 x (by rw [← Array.getElem?_toList] at hx; exact List.mem_of_getElem? hx)
theorem name_inj {c c' v v' : Nat} (hv : v < 100) (hv' : v' < 100) (h : nameOf c v = nameOf c' v') : v = v' := by
  have e := congrArg (fun z : Str => z.cps.toList) h
  simp only [name_cps, Array.toList_append] at e
  have e2 : (tail2 v).cps.toList = (tail2 v').cps.toList := (List.cons.inj e).2
  have e3 : tail2 v = tail2 v' := by
    cases h1 : tail2 v with
    | mk a =>
      cases h2 : tail2 v' with
      | mk b =>
        rw [h1, h2] at e2
        exact congrArg Str.mk (Array.toList_inj.mp e2)
  rw [← (tail_ok hv).2.2, ← (tail_ok hv').2.2, e3]
abbrev NNm : List Str := ["_law_source_here", "_law_many", "_law_shift", "_law_names_here", "_law_k", "_law_letter"]
theorem scNm : FnScope NNm ["_law_source_here", "_law_many"] (defScope sLawNames) := ⟨rfl, rfl, rfl, by decide +kernel, rfl, by decide +kernel, by decide +kernel⟩
def spNm (K : PySem.W.Frag) : Sp := fun vs H Q _ => ∃ (d c : Addr) (n : Nat), vs = [.ref d, .int (n : Int)] ∧ SrcAt H d c ∧ n ≤ 16 ∧
  ∀ (l : Addr) (ns : List Str) (H' : Hp), SrcAt H' d c → Same (hid d c H) (hid d c H') → NL ns → ns.length = n → SqL K (hid d c H') l (ns.map V.str) → Q (.ref l) H'
section
variable {P : Program} {w : World} {K : PySem.W.Frag} {mg : Str → Option Value} {base : Heap} {f : Addr} {fd : FuncData}
theorem ok_nm (F : FnP K "_law_names" sLawNames f fd) (Y : Fx w K mg) : FnOk P w K mg base CX0 2 f fd ["_law_source_here", "_law_many"] (spNm K) := by
  obtain ⟨d1, F1⟩ := Y.dLawPick
  have b1 := FunD.bindsN (ps := ["_law_source_here", "_law_many"]) F1 fun _ _ _ _ _ _ us hl => match us, hl with | [_, _], _ => rfl
  have G1 : FnOk P w K mg base CX0 1 _ d1 ["_law_source_here", "_law_many"] spPick := ok_pick F1 Y.bl
  refine okD F scNm (fun vs H Q E h => ?_) (fun cdv A outer s H vs Q E hr h => ?_)
  · obtain ⟨d, c, n, rfl, _⟩ := h
    rfl
  · have nd := scNm.nd
    have B := Y.bl
    refine ⟨_, pss_cons (ps_set (i := 2) nd rfl (Or.inl rfl) (pe_call G1 hr (by rfl) Y.gLawPick F1.kp b1 .nil pass0 (pa_cons (pv 0) (pa_cons pe_int pa_nil))))
      (pss_cons (ps_set (i := 3) nd rfl (Or.inl rfl) (pe_lst pa_nil))
      (pss_cons (ps_for PassesOwn.never rfl (pi_range1 (by rfl) B.range (pa_cons (pv 1) pa_nil)) (pg_name (i := 4) nd rfl (Or.inl rfl))
        (pss_cons (ps_set (i := 5) nd rfl (Or.inl rfl) (pe_ix ix_str pe_str (pe_call G1 hr (by rfl) Y.gLawPick F1.kp b1 .nil pass0 (pa_cons (pv 0) (pa_cons pe_int pa_nil))) (fun _ _ => rfl)))
        (pss_one (ps_expr (pe_bm PySem.F.plainAttrs_list PySem.F.slot_list_append PySem.F.type_list_append mt_append (pv 3) (pa_cons (pe_op op_add_str (pv 5)
          (pe_slice C8.sl_txt (pe_callTy call_str_int (by rfl) B.str (by decide +kernel) (pa_cons (pe_op op_add pe_int (pe_op op_mod (pe_callTy call_int1 (by rfl) B.int boot_int (pa_cons (pe_op op_add (pv 2) (pe_op op_mul pe_int (pv 4))) pa_nil)) pe_int)) pa_nil)) (po_some pe_int) po_none)) pa_nil))))))
      (pss_one (ps_ret (pv 3))))), ?_⟩
    obtain ⟨d, c, n, rfl, src, hn, k⟩ := h
    refine ⟨_, rfl, d, c, 100, rfl, src, by decide, by decide, fun r H1 r0 r1 src1 keep1 => ?_⟩
    obtain ⟨sh, rfl⟩ : ∃ sh : Nat, r = (sh : Int) := ⟨r.toNat, by omega⟩
    refine ⟨szl (by show 0 ≤ 1000; decide), fun L hL => ?_⟩
    obtain ⟨n1, n2⟩ := src_ne src1 hL
    refine ⟨_, rfl, _, rfl, by omega, by omega, ?_⟩
    have s1 : hid d c H1 = hid d c H := hid_pick keep1
    have src2 := src_same (same_upd (o := .lst []) hL) src1
    have sm2 : Same (hid d c H) (hid d c (upd H1 L (.lst []))) := by rw [← s1]; exact hid_same (same_upd hL)
    rw [Int.toNat_natCast]
    refine for_range (lo := 0) (n := n) (fun i σ G => (∃ v4 v5, σ = [some (.ref d), some (.int (n : Int)), some (.int (sh : Int)), some (.ref L), v4, v5]) ∧ SrcAt G d c ∧ Same (hid d c H) (hid d c G) ∧
      ∃ ns : List Str, G L = some (.lst (ns.map V.str)) ∧ ns.length = i ∧ ∀ j x, ns[j]? = some x → ∃ l ∈ LT.cps.toList, x = nameOf l ((sh + 37 * j) % 100)) ⟨⟨_, _, rfl⟩, src2, sm2, [], upd_same, rfl, fun j x e => by simp at e⟩ ?_ ?_
    · rintro i σ G hi ⟨⟨v4, v5, rfl⟩, src, sm, ns, e1, ln, hns⟩
      refine ⟨_, rfl, d, c, 26, rfl, src, by decide, by decide, fun r H2 r0 r1 src3 keep3 => ?_⟩
      obtain ⟨q, rfl⟩ : ∃ q : Nat, r = (q : Int) := ⟨r.toNat, by omega⟩
      have q26 : q < LT.cps.toList.length := by show q < 26; omega
      have e2 : H2 L = some (.lst (ns.map V.str)) := (keep3 L n1 n2).trans e1
      refine ⟨_, _, LT.cps.toList[q], rfl, rfl, by decide, atI_nat (List.getElem?_eq_getElem q26), ?_⟩
      refine ⟨_, rfl, .inl ⟨rfl, _, SqL.of e2⟩, ?_⟩
      have v1 : (sh + 37 * i) % 100 < 100 := Nat.mod_lt _ (by decide)
      have ev : (100 : Int) + ((sh : Int) + 37 * (0 + (i : Int))) % 100 = 100 + (((sh + 37 * i) % 100 : Nat) : Int) := by omega
      have t1 : ((100 : Int) + ((sh : Int) + 37 * (0 + (i : Int))) % 100).natAbs.log2 < 1920 := by
        rw [ev, Nat.log2_lt (by omega)]
        exact Nat.lt_of_lt_of_le (show (100 + (((sh + 37 * i) % 100 : Nat) : Int)).natAbs < 256 by omega) (by decide)
      have t2 : (PySem.Str.ofString (toString ((100 : Int) + ((sh : Int) + 37 * (0 + (i : Int))) % 100))).length ≤ sizeLine := by
        rw [ev]
        exact Nat.le_trans (of_decide_eq_true (List.all_eq_true.mp tlens _ (List.mem_range.mpr v1))) (by decide)
      have t3 : Txt.slice (PySem.Str.ofString (toString ((100 : Int) + ((sh : Int) + 37 * (0 + (i : Int))) % 100))) (some 1) none = tail2 ((sh + 37 * i) % 100) := by
        rw [ev]
        rfl
      have t4 : (⟨#[LT.cps.toList[q]]⟩ : Str).length + (Txt.slice (PySem.Str.ofString (toString ((100 : Int) + ((sh : Int) + 37 * (0 + (i : Int))) % 100))) (some 1) none).length ≤ sizeLine := by
        rw [t3]
        show 1 + (tail2 ((sh + 37 * i) % 100)).cps.size ≤ sizeLine
        rw [(tail_ok v1).1]
        decide
      refine ⟨_, rfl, _, rfl, _, rfl, _, _, rfl, rfl, .inl ⟨by decide, by decide⟩, _, _, rfl, rfl, .inl ⟨_, rfl, _, _, rfl, rfl, (show (0 : Int) < 100 by decide), _, _, rfl, rfl, _, rfl, t1, 1, rfl, _, rfl, t2, _, _, rfl, rfl, t4, ?_⟩⟩
      refine ⟨L, _, _, rfl, rfl, e2, ?_, ⟨_, _, rfl⟩, ?_, ?_, ns ++ [nameOf LT.cps.toList[q] ((sh + 37 * i) % 100)], ?_, by rw [List.length_append, ln]; rfl, fun j x ex => ?_⟩
      · rw [List.length_map, ln]
        exact small1000 (by omega)
      · exact src_put n1 n2 src3
      · exact hid_put ((keep1 L n1 n2).symm.trans hL) (by rw [hid_pick keep3]; exact sm)
      · rw [upd_same, List.map_append, t3]
        rfl
      · by_cases lt : j < ns.length
        · rw [List.getElem?_append_left lt] at ex
          exact hns j x ex
        · rw [List.getElem?_append_right (by omega)] at ex
          have j0 : j - ns.length = 0 := by
            cases z : j - ns.length with
            | zero => rfl
            | succ m => rw [z] at ex; cases ex
          rw [j0] at ex
          have jj : j = i := by omega
          subst jj
          exact ⟨_, List.getElem_mem _, (Option.some.inj ex).symm⟩
    · rintro σ G ⟨⟨v4, v5, rfl⟩, src, sm, ns, e1, ln, hns⟩
      refine ⟨_, rfl, k L ns G src sm ⟨?_, fun x hx => ?_, by omega⟩ ln (SqL.of ((hid_at n1 n2).trans e1))⟩
      · refine List.pairwise_iff_getElem.mpr fun i j li lj lt e => ?_
        obtain ⟨l1, _, x1⟩ := hns i _ (List.getElem?_eq_getElem li)
        obtain ⟨l2, _, x2⟩ := hns j _ (List.getElem?_eq_getElem lj)
        rw [x1, x2] at e
        have z := name_inj (Nat.mod_lt _ (by decide)) (Nat.mod_lt _ (by decide)) e
        omega
      · obtain ⟨i, li, rfl⟩ := List.getElem_of_mem hx
        obtain ⟨l, hl, e⟩ := hns i _ (List.getElem?_eq_getElem li)
        rw [e]
        exact name_wd hl (Nat.mod_lt _ (by decide))
end
end K24

namespace K24
open PySem PySem.Spec PyProof.Rows L2 Ow
/-! ### the drawn frame -/
theorem sqt_put {K : PySem.W.Frag} {H : Hp} {D t : Addr} {xs l : List V} {o : HO} (e : H D = some (.lst l)) (h : SqT K H t xs) : SqT K (upd H D o) t xs := by
  have one : ∀ {u : HO}, H t = some u → (∀ l, u ≠ .lst l) → upd H D o t = some u := fun {u} z n => (upd_ne (fun q => by
    subst q
    rw [e] at z
    cases z
    exact n l rfl)).trans z
  exact h.elim (fun h => .inl (h.elim (fun h => .inl (one h fun _ z => nomatch z)) fun ⟨o, h⟩ => .inr ⟨o, one h fun _ z => nomatch z⟩)) fun h => .inr h
theorem sqt_putD {K : PySem.W.Frag} {H : Hp} {D t : Addr} {xs : List V} {l : List (Key × V)} {o : HO} (e : H D = some (.dK l)) (h : SqT K H t xs) : SqT K (upd H D o) t xs := by
  have one : ∀ {u : HO}, H t = some u → (∀ l, u ≠ .dK l) → upd H D o t = some u := fun {u} z n => (upd_ne (fun q => by
    subst q
    rw [e] at z
    cases z
    exact n l rfl)).trans z
  exact h.elim (fun h => .inl (h.elim (fun h => .inl (one h fun _ z => nomatch z)) fun ⟨o, h⟩ => .inr ⟨o, one h fun _ z => nomatch z⟩)) fun h => .inr h
theorem hid_upd {d c L : Addr} {G : Hp} {o : HO} (n1 : L ≠ d) (n2 : L ≠ c) : hid d c (upd G L o) = upd (hid d c G) L o := by
  funext b
  by_cases e : b = L
  · subst e
    rw [hid_at n1 n2, upd_same, upd_same]
  · rw [upd_ne e]
    unfold hid
    rw [upd_ne e]
/-- these are tuples of these -/
def AllT (K : PySem.W.Frag) (H : Hp) (us : List Addr) (vss : List (List V)) : Prop := us.length = vss.length ∧ ∀ (i : Nat) (t : Addr), us[i]? = some t → ∃ vs, vss[i]? = some vs ∧ SqT K H t vs
theorem AllT.same {K : PySem.W.Frag} {H H' : Hp} {us : List Addr} {vss : List (List V)} (s : Same H H') (h : AllT K H us vss) : AllT K H' us vss := ⟨h.1, fun i t e => let ⟨vs, a, b⟩ := h.2 i t e; ⟨vs, a, sqt_same s b⟩⟩
theorem AllT.put {K : PySem.W.Frag} {H : Hp} {D : Addr} {l : List V} {o : HO} {us : List Addr} {vss : List (List V)} (e : H D = some (.lst l)) (h : AllT K H us vss) : AllT K (upd H D o) us vss := ⟨h.1, fun i t z => let ⟨vs, a, b⟩ := h.2 i t z; ⟨vs, a, sqt_put e b⟩⟩
theorem AllT.putD {K : PySem.W.Frag} {H : Hp} {D : Addr} {l : List (Key × V)} {o : HO} {us : List Addr} {vss : List (List V)} (e : H D = some (.dK l)) (h : AllT K H us vss) : AllT K (upd H D o) us vss := ⟨h.1, fun i t z => let ⟨vs, a, b⟩ := h.2 i t z; ⟨vs, a, sqt_putD e b⟩⟩
theorem AllT.snoc {K : PySem.W.Frag} {H : Hp} {us : List Addr} {vss : List (List V)} {u : Addr} {vs : List V} (h : AllT K H us vss) (g : SqT K H u vs) : AllT K H (us ++ [u]) (vss ++ [vs]) := by
  refine ⟨by rw [List.length_append, List.length_append, h.1]; rfl, fun i t e => ?_⟩
  by_cases lt : i < us.length
  · rw [List.getElem?_append_left lt] at e
    obtain ⟨ws, a, b⟩ := h.2 i t e
    exact ⟨ws, by rw [List.getElem?_append_left (by rw [← h.1]; exact lt)]; exact a, b⟩
  · rw [List.getElem?_append_right (by omega)] at e
    have j0 : i - us.length = 0 := by
      cases z : i - us.length with
      | zero => rfl
      | succ m => rw [z] at e; cases e
    rw [j0] at e
    have eu : u = t := by simpa using e
    subst eu
    refine ⟨vs, ?_, g⟩
    rw [List.getElem?_append_right (by rw [← h.1]; omega), ← h.1, j0]
    rfl
theorem AllT.nil {K : PySem.W.Frag} {H : Hp} : AllT K H [] [] := ⟨rfl, fun i t e => by simp at e⟩
theorem AllT.tups {K : PySem.W.Frag} {H : Hp} {l : Addr} {us : List Addr} {vss : List (List V)} (e : SqL K H l (us.map V.ref)) (h : AllT K H us vss) : TupsAt K H l vss := ⟨us, e, h.1, h.2⟩
def wdB (x : Str) : Bool := decide (1 ≤ x.length) && (decide (x.length ≤ 12) && ((match x.cps[0]? with
  | some c => decide (c ∈ LT.cps.toList)
  | none => true) && x.cps.toList.all fun c => decide (c ∈ SG.cps.toList)))
theorem wd_of {x : Str} (h : wdB x = true) : Wd x := by
  obtain ⟨h1, h2⟩ := an h
  obtain ⟨h2, h3⟩ := an h2
  obtain ⟨h3, h4⟩ := an h3
  refine ⟨of_decide_eq_true h1, of_decide_eq_true h2, fun c e => ?_, fun i c e => ?_⟩
  · rw [e] at h3
    exact of_decide_eq_true h3
  · exact of_decide_eq_true (List.all_eq_true.mp h4 c (by rw [← Array.getElem?_toList] at e; exact List.mem_of_getElem? e))
def ABC : List Str := ["a", "b", "c"]
theorem abc_nl : NL ABC := ⟨by decide +kernel, fun x hx => wd_of (List.all_eq_true.mp (show ABC.all wdB = true by decide +kernel) x hx), by decide⟩
theorem NL.sub {xs ys : List Str} (h : NL xs) (s : ys.Sublist xs) : NL ys := ⟨h.nd.sublist s, fun x hx => h.w x (s.subset hx), Nat.le_trans s.length_le h.n⟩
/-- the dict of the letters' ends: each name's tuple -/
def kvL : List Lt → List Addr → List (Key × V)
  | q :: ls, a :: as => (.inr q.1, .ref a) :: kvL ls as
  | _, _ => []
theorem kvL_len : ∀ (ls : List Lt) (as : List Addr), (kvL ls as).length ≤ ls.length
  | [], _ => by simp [kvL]
  | _ :: _, [] => by simp [kvL]
  | q :: ls, a :: as => Nat.succ_le_succ (kvL_len ls as)
theorem kvL_snoc (q : Lt) (a : Addr) : ∀ (ls : List Lt) (as : List Addr), ls.length = as.length → kvL (ls ++ [q]) (as ++ [a]) = kvL ls as ++ [(.inr q.1, .ref a)]
  | [], [], _ => rfl
  | [], _ :: _, h => by simp at h
  | _ :: _, [], h => by simp at h
  | p :: ls, b :: as, h => congrArg (_ :: ·) (kvL_snoc q a ls as (Nat.succ.inj h))
theorem kvL_no {x : Str} : ∀ (ls : List Lt) (as : List Addr), x ∉ ls.map (·.1) → valV (kvL ls as) (.inr x) = none
  | [], _, _ => rfl
  | _ :: _, [], _ => rfl
  | q :: ls, a :: as, h => by
    have h1 : ¬ ((.inr q.1 : Key) = .inr x) := fun z => h (by injection z with z; rw [← z]; exact List.mem_cons_self)
    show valV ((.inr q.1, .ref a) :: kvL ls as) (.inr x) = none
    rw [valV_neg h1]
    exact kvL_no ls as fun z => h (List.mem_cons_of_mem _ z)
theorem kvL_get : ∀ {ls : List Lt} {as : List Addr} {i : Nat} {q : Lt} {a : Addr}, (ls.map (·.1)).Nodup → ls[i]? = some q → as[i]? = some a → valV (kvL ls as) (.inr q.1) = some (.ref a)
  | [], _, _, _, _, _, h, _ => by simp at h
  | _ :: _, [], _, _, _, _, _, h => by simp at h
  | p :: ls, b :: as, 0, q, a, nd, h1, h2 => by
    have e1 : p = q := by simpa using h1
    have e2 : b = a := by simpa using h2
    rw [e1, e2]
    exact valV_pos (p := ((Sum.inr q.1 : Key), V.ref a)) rfl
  | p :: ls, b :: as, i + 1, q, a, nd, h1, h2 => by
    have h1' : ls[i]? = some q := by simpa using h1
    have nd' := List.nodup_cons.mp (show (p.1 :: ls.map (·.1)).Nodup from nd)
    have n1 : ¬ ((.inr p.1 : Key) = .inr q.1) := fun z => nd'.1 (by injection z with z; rw [z]; exact List.mem_map.mpr ⟨q, List.mem_of_getElem? h1', rfl⟩)
    show valV ((.inr p.1, .ref b) :: kvL ls as) (.inr q.1) = _
    rw [valV_neg n1]
    exact kvL_get nd'.2 h1' (by simpa using h2)
theorem cutV_take (xs : List V) (n : Nat) : cutV xs none (some (n : Int)) = xs.take n := by
  unfold cutV
  rw [HT.sIx_none, HT.sIx_nat, List.drop_zero, Nat.sub_zero]
  by_cases h : n ≤ xs.length
  · rw [Nat.min_eq_left h]
  · rw [Nat.min_eq_right (by omega), List.take_length, List.take_of_length_le (by omega)]
theorem str_ix {xs : List Str} {j : Nat} (h : j < xs.length) : atI (xs.map V.str) ((j : Nat) : Int) = some (.str xs[j]) := atI_nat (by rw [List.getElem?_map, List.getElem?_eq_getElem h]; rfl)
theorem none_of {H H' : Hp} {p : Addr} (s : Same H H') (h : H' p = none) : H p = none := by
  cases z : H p with
  | none => rfl
  | some u => exact absurd (s _ _ z) (by rw [h]; intro q; cases q)
def endV (q : Lt) : List V := [.str q.2.1, .str q.2.2]
/-- at m stands the dict of the letters' ends -/
def LdAt (K : PySem.W.Frag) (H : Hp) (m : Addr) (ls : List Lt) : Prop := ∃ as : List Addr, H m = some (.dK (kvL ls as)) ∧ as.length = ls.length ∧ ∀ (i : Nat) (t : Addr), as[i]? = some t → ∃ q, ls[i]? = some q ∧ SqT K H t (endV q)
theorem LdAt.same {K : PySem.W.Frag} {H H' : Hp} {m : Addr} {ls : List Lt} (s : Same H H') (h : LdAt K H m ls) : LdAt K H' m ls := by
  obtain ⟨as, e, l, g⟩ := h
  refine ⟨as, s _ _ e, l, fun i t z => ?_⟩
  obtain ⟨q, e1, e2⟩ := g i t z
  exact ⟨q, e1, sqt_same s e2⟩
theorem LdAt.get {K : PySem.W.Frag} {H : Hp} {m : Addr} {ls : List Lt} (h : LdAt K H m ls) (nd : (ls.map (·.1)).Nodup) {i : Nat} {q : Lt} (hi : ls[i]? = some q) : ∃ t, DGet H m (.str q.1) (some (.ref t)) ∧ SqT K H t (endV q) := by
  obtain ⟨as, e, l, g⟩ := h
  have li := (List.getElem?_eq_some_iff.mp hi).1
  have ea : as[i]? = some as[i] := List.getElem?_eq_getElem (by omega)
  obtain ⟨q', e1, e2⟩ := g i _ ea
  rw [hi] at e1
  cases e1
  refine ⟨as[i], ?_, e2⟩
  have z : DGet H m (kV (.inr q.1)) (valV (kvL ls as) (.inr q.1)) := DGet.k e
  rw [kvL_get nd hi ea] at z
  exact z
def frV (s m o t b : Addr) : List (Key × V) := [(.inr "sorts", .ref s), (.inr "letters", .ref m), (.inr "order", .ref o), (.inr "totals", .ref t), (.inr "made", .ref b)]
/-- at d stands the drawn frame -/
structure FrAt (K : PySem.W.Frag) (H : Hp) (d : Addr) (xs : List Str) (ls : List Lt) : Prop where
  ex : ∃ s m o t b, H d = some (.dK (frV s m o t b)) ∧ H s = some (.lst (xs.map V.str)) ∧ LdAt K H m ls ∧ SqL K H o ((ls.map (·.1)).map V.str)
  ok : FrOk xs ls
theorem FrAt.same {K : PySem.W.Frag} {H H' : Hp} {d : Addr} {xs : List Str} {ls : List Lt} (s : Same H H') (h : FrAt K H d xs ls) : FrAt K H' d xs ls := by
  obtain ⟨⟨a, m, o, t, b, h1, h2, h3, h4⟩, ok⟩ := h
  exact ⟨⟨a, m, o, t, b, s _ _ h1, s _ _ h2, h3.same s, s.seq h4⟩, ok⟩
theorem fr_sorts {H : Hp} {d s m o t b : Addr} (h : H d = some (.dK (frV s m o t b))) : DGet H d (.str "sorts") (some (.ref s)) := by
  have z : DGet H d (kV (.inr "sorts")) (valV (frV s m o t b) (.inr "sorts")) := DGet.k h
  rw [show valV (frV s m o t b) (.inr "sorts") = some (.ref s) from rfl] at z
  exact z
theorem fr_letters {H : Hp} {d s m o t b : Addr} (h : H d = some (.dK (frV s m o t b))) : DGet H d (.str "letters") (some (.ref m)) := by
  have z : DGet H d (kV (.inr "letters")) (valV (frV s m o t b) (.inr "letters")) := DGet.k h
  rw [show valV (frV s m o t b) (.inr "letters") = some (.ref m) from rfl] at z
  exact z
theorem fr_order {H : Hp} {d s m o t b : Addr} (h : H d = some (.dK (frV s m o t b))) : DGet H d (.str "order") (some (.ref o)) := by
  have z : DGet H d (kV (.inr "order")) (valV (frV s m o t b) (.inr "order")) := DGet.k h
  rw [show valV (frV s m o t b) (.inr "order") = some (.ref o) from rfl] at z
  exact z
abbrev NFd : List Str := ["_law_every", "_law_order", "_law_letters", "_law_totals", "_law_built", "_law_name"]
theorem scFd : FnScope NFd ["_law_every", "_law_order", "_law_letters", "_law_totals"] (defScope sLawFramed) := ⟨rfl, rfl, rfl, by decide +kernel, rfl, by decide +kernel, by decide +kernel⟩
def spFd (K : PySem.W.Frag) : Sp := fun vs H Q _ => ∃ (s o m t : Addr) (xs : List Str) (ls : List Lt), vs = [.ref s, .ref o, .ref m, .ref t] ∧ H s = some (.lst (xs.map V.str)) ∧ SqL K H o ((ls.map (·.1)).map V.str) ∧ LdAt K H m ls ∧ SqL K H t [] ∧ FrOk xs ls ∧
  ∀ d b H', H d = none → Same H H' → H' d = some (.dK (frV s m o t b)) → Q (.ref d) H'
section
variable {P : Program} {w : World} {K : PySem.W.Frag} {mg : Str → Option Value} {base : Heap} {f : Addr} {fd : FuncData}
theorem same_new {H H2 : Hp} {x dx : Addr} {u v : HO} (hx : H x = none) (hd : H dx = none) (k : Keep x (upd (upd H dx v) x u) H2) : Same H H2 := fun b o e => k b o (ne_of_none e hx) (by rw [upd_ne (ne_of_none e hx), upd_ne (ne_of_none e hd)]; exact e)
/-- what Frame(s, l, t) asks and tells -/
theorem mk_fr {H : Hp} {s l t : Addr} {xs : List Str} {ls : List Lt} {Q : Addr → Hp → Prop} (hs : SqL K H s (xs.map V.str)) (hl : TupsAt K H l (ls.map ltV)) (ht : SqL K H t []) (ok : FrOk xs ls) (k : ∀ b H', Same H H' → Q b H') :
    ∀ x dx, H x = none → H dx = none → dx ≠ x → spFI K (.ref x :: ([.ref s, .ref l, .ref t] ++ [])) (upd (upd H dx (.own x)) x (.ins (CFrame K) dx [])) (fun v H2 => v = .non ∧ Q x H2) E0 := fun x dx hx hd nd => by
  have s0 : Same H (upd (upd H dx (.own x)) x (.ins (CFrame K) dx [])) := same_new hx hd .refl
  exact ⟨x, s, l, t, dx, xs, ls, rfl, upd_same, s0.seq hs, hl.same s0, s0.seq ht, ok, fun H' kk => ⟨rfl, k x H' (same_new hx hd kk)⟩⟩
theorem ok_fd (F : FnP K "_law_framed" sLawFramed f fd) (Y : Fx w K mg) : FnOk P w K mg base CX0 5 f fd ["_law_every", "_law_order", "_law_letters", "_law_totals"] (spFd K) := by
  obtain ⟨d2, F2⟩ := Y.dFrame_Init
  have b2 := FunD.bindsN (ps := ["self", "sorts", "letters", "totals"]) F2 fun _ _ _ _ _ _ us hl => match us, hl with | [_, _, _, _], _ => rfl
  have G2 : FnOk P w K mg base CX0 3 _ d2 ["self", "sorts", "letters", "totals"] (spFI K) := ok_fi F2 Y
  refine okD F scFd (fun vs H Q E h => ?_) (fun cdv A outer s H vs Q E hr h => ?_)
  · obtain ⟨s, o, m, t, xs, ls, rfl, _⟩ := h
    rfl
  · have nd := scFd.nd
    have hu := hu_of hr
    refine ⟨_, pss_cons (ps_set (i := 4) nd rfl (Or.inl rfl) (pe_make Y.mFrame G2 hr (by rfl) Y.gFrame b2 .nil pass0 (pa_cons (pv 0) (pa_cons
        (pe_lc (own := [("_law_name", 5)]) (g := gName 5) (tt := tYes) (te := tTup (tCons (tVar 5) (tCons (tOp (rIxT K) (tDGet (tVar 2) (tVar 5)) (tC (.int 0))) (tCons (tOp (rIxT K) (tDGet (tVar 2) (tVar 5)) (tC (.int 1))) tNil)))) rfl nd (pi_list (pv 1)) (blkOk_by (N := NFd) (sc := defScope sLawFramed) (by decide +kernel)) (fun _ _ _ _ _ => pg_name (i := 5) nd rfl (Or.inl rfl)) (fun _ _ _ _ _ => pts_nil)
          (fun _ _ _ _ _ => pe_tup (pa_cons (pv 5) (pa_cons (pe_ix ix_tup (pe_dget hu (pv 2) (pv 5) nosl) pe_int (fun _ _ => rfl)) (pa_cons (pe_ix ix_tup (pe_dget hu (pv 2) (pv 5) nosl) pe_int (fun _ _ => rfl)) pa_nil))))) (pa_cons (pv 3) pa_nil)))))
      (pss_one (ps_ret (pe_disp (pps_cons pe_str (pv 0) (pps_cons pe_str (pv 2) (pps_cons pe_str (pv 1) (pps_cons pe_str (pv 3) (pps_cons pe_str (pv 4) pps_nil))))) rfl rfl (by simp) (by decide)))), ?_⟩
    obtain ⟨s, o, m, t, xs, ls, rfl, hs, ho, hm, ht, ok, k⟩ := h
    refine ⟨_, rfl, _, rfl, o, rfl, ⟨_, ho⟩, fun D hD => ?_⟩
    refine lc_list (K := K) (a := o) (xs := (ls.map (·.1)).map V.str) (fun i G => ∃ us : List Addr, G D = some (.lst (us.map V.ref)) ∧ AllT K G us ((ls.take i).map ltV) ∧ Same H G) ⟨[], upd_same, AllT.nil, same_upd hD⟩ (fun i G _ p => by obtain ⟨us, _, _, p⟩ := p; exact p.seq ho) ?_ ?_
    · rintro i v G hi ⟨us, e, hA, sm⟩
      obtain ⟨x, ex, rfl⟩ := str_at hi
      obtain ⟨q, eq, rfl⟩ : ∃ q, ls[i]? = some q ∧ x = q.1 := by
        rw [List.getElem?_map] at ex
        cases z : ls[i]? with
        | none => rw [z] at ex; cases ex
        | some q => rw [z] at ex; exact ⟨q, rfl, (Option.some.inj ex).symm⟩
      obtain ⟨tt, dg, st⟩ := (hm.same sm).get ok.nl.nd eq
      have li := (List.getElem?_eq_some_iff.mp eq).1
      have n16 := ok.nl.n
      rw [List.length_map] at n16
      refine ⟨rfl, _, rfl, ?_⟩
      refine ⟨_, rfl, _, rfl, m, .ref tt, rfl, dg, tt, _, 0, _, rfl, rfl, st, rfl, ?_⟩
      refine ⟨_, rfl, _, rfl, m, .ref tt, rfl, dg, tt, _, 1, _, rfl, rfl, st, rfl, ?_⟩
      refine ⟨szl (by show 3 ≤ 1000; decide), fun T hT => ?_⟩
      have e2 := same_upd (o := .tup [V.str q.1, V.str q.2.1, V.str q.2.2]) hT _ _ e
      refine ⟨_, e2, ?_, us ++ [T], ?_, ?_, same_put hD (sm.trans (same_upd hT))⟩
      · have z := hA.1
        rw [List.length_map, List.length_take] at z
        rw [List.length_map]
        exact small1000 (by omega)
      · rw [upd_same, List.map_append]
        rfl
      · rw [List.take_add_one, eq, List.map_append]
        exact ((hA.same (same_upd hT)).snoc (SqT.of upd_same)).put e2
    rintro G ⟨us, e, hA, sm⟩
    rw [List.length_map, List.length_map, List.take_length] at hA
    refine ⟨_, rfl, ?_⟩
    refine mk_fr (sm.seq (SqL.of hs)) (hA.tups (SqL.of e)) (sm.seq ht) ok fun b H1 s1 => ?_
    replace s1 := sm.trans s1
    intro p hp
    refine ⟨_, rfl, _, rfl, _, rfl, _, rfl, _, rfl, upd_same, frV s m o t b, rfl, (show 5 ≤ 15 by decide), ?_⟩
    rw [show mergeK [] (frV s m o t b) = frV s m o t b from rfl, upd_upd]
    have s2 := s1.trans (same_upd (o := .dK (frV s m o t b)) hp)
    have hp0 : H p = none := by
      cases z : H p with
      | none => rfl
      | some u => exact absurd (s1 _ _ z) (by rw [hp]; intro q; cases q)
    exact k p b _ hp0 s2 upd_same
abbrev NFr : List Str := ["_law_source_here", "_law_sorts", "_law_letters", "_law_every", "_law_order", "_law_found", "_law_name"]
theorem scFr : FnScope NFr ["_law_source_here", "_law_sorts", "_law_letters"] (defScope sLawFrame) := ⟨rfl, rfl, rfl, by decide +kernel, rfl, by decide +kernel, by decide +kernel⟩
def spFr (K : PySem.W.Frag) : Sp := fun vs H Q _ => ∃ (d c : Addr) (n m : Nat), vs = [.ref d, .int (n : Int), .int (m : Int)] ∧ SrcAt H d c ∧ 1 ≤ n ∧ n ≤ 3 ∧ 1 ≤ m ∧ m ≤ 4 ∧
  ∀ (e : Addr) (xs : List Str) (ls : List Lt) (H' : Hp), SrcAt H' d c → Same (hid d c H) (hid d c H') → FrAt K (hid d c H') e xs ls → xs = ABC.take n → ls.length = m → Q (.ref e) H'
theorem ok_fr (F : FnP K "_law_frame" sLawFrame f fd) (Y : Fx w K mg) : FnOk P w K mg base CX0 6 f fd ["_law_source_here", "_law_sorts", "_law_letters"] (spFr K) := by
  obtain ⟨d1, F1⟩ := Y.dLawPick
  obtain ⟨d2, F2⟩ := Y.dLawNames
  obtain ⟨d3, F3⟩ := Y.dLawFramed
  have b1 := FunD.bindsN (ps := ["_law_source_here", "_law_many"]) F1 fun _ _ _ _ _ _ us hl => match us, hl with | [_, _], _ => rfl
  have b2 := FunD.bindsN (ps := ["_law_source_here", "_law_many"]) F2 fun _ _ _ _ _ _ us hl => match us, hl with | [_, _], _ => rfl
  have b3 := FunD.bindsN (ps := ["_law_every", "_law_order", "_law_letters", "_law_totals"]) F3 fun _ _ _ _ _ _ us hl => match us, hl with | [_, _, _, _], _ => rfl
  have G1 : FnOk P w K mg base CX0 1 _ d1 ["_law_source_here", "_law_many"] spPick := ok_pick F1 Y.bl
  have G2 : FnOk P w K mg base CX0 2 _ d2 ["_law_source_here", "_law_many"] (spNm K) := ok_nm F2 Y
  have G3 : FnOk P w K mg base CX0 5 _ d3 ["_law_every", "_law_order", "_law_letters", "_law_totals"] (spFd K) := ok_fd F3 Y
  refine okD F scFr (fun vs H Q E h => ?_) (fun cdv A outer s H vs Q E hr h => ?_)
  · obtain ⟨d, c, n, m, rfl, _⟩ := h
    rfl
  · have nd := scFr.nd
    have hu := hu_of hr
    have hr1 : Room 1 _ := hr.mono (by decide)
    have hr2 : Room 2 _ := hr.mono (by decide)
    refine ⟨_, pss_cons (ps_set (i := 3) nd rfl (Or.inl rfl) (pe_slice sl_list (pe_lst (pa_cons pe_str (pa_cons pe_str (pa_cons pe_str pa_nil)))) po_none (po_some (pv 1))))
      (pss_cons (ps_set (i := 4) nd rfl (Or.inl rfl) (pe_call G2 hr2 (by rfl) Y.gLawNames F2.kp b2 .nil pass0 (pa_cons (pv 0) (pa_cons (pv 2) pa_nil))))
      (pss_cons (ps_set (i := 5) nd rfl (Or.inl rfl) pe_dnewK)
      (pss_cons (ps_for PassesOwn.never rfl (pi_list (pv 4)) (pg_name (i := 6) nd rfl (Or.inl rfl))
        (pss_one (ps_dput hu (pv 5) (pv 6) (pe_tup (pa_cons (pe_ix ix_list (pv 3) (pe_call G1 hr1 (by rfl) Y.gLawPick F1.kp b1 .nil pass0 (pa_cons (pv 0) (pa_cons (pv 1) pa_nil))) (fun _ _ => rfl)) (pa_cons (pe_ix ix_list (pv 3) (pe_call G1 hr1 (by rfl) Y.gLawPick F1.kp b1 .nil pass0 (pa_cons (pv 0) (pa_cons (pv 1) pa_nil))) (fun _ _ => rfl)) pa_nil))) rfl)))
      (pss_one (ps_ret (pe_call G3 hr (by rfl) Y.gLawFramed F3.kp b3 .nil pass0 (pa_cons (pv 3) (pa_cons (pv 4) (pa_cons (pv 5) (pa_cons (pe_lst pa_nil) pa_nil))))))))))  , ?_⟩
    obtain ⟨d, c, n, m, rfl, src, n1, n3, m1, m4, k⟩ := h
    have lx : (ABC.take n).length = n := by rw [List.length_take]; show min n 3 = n; omega
    obtain ⟨xs, ex⟩ : ∃ xs, xs = ABC.take n := ⟨_, rfl⟩
    rw [← ex] at lx
    have nlx : NL xs := by rw [ex]; exact abc_nl.sub (List.take_sublist _ _)
    refine ⟨szl (by show 3 ≤ 1000; decide), fun l0 hl0 => ⟨_, rfl, _, rfl, l0, _, rfl, SqL.of upd_same, fun s hs => ?_⟩⟩
    rw [show cutV [V.str "a", V.str "b", V.str "c"] none (some (n : Int)) = xs.map V.str by rw [cutV_take, ex, List.map_take]; rfl]
    have s0 := (same_upd (o := .lst [V.str "a", V.str "b", V.str "c"]) hl0).trans (same_upd (o := .lst (xs.map V.str)) hs)
    have src0 := src_same s0 src
    obtain ⟨sd, sc⟩ := src_ne (src_same (same_upd (o := .lst [V.str "a", V.str "b", V.str "c"]) hl0) src) hs
    have e0 : upd (upd H l0 (.lst [V.str "a", V.str "b", V.str "c"])) s (.lst (xs.map V.str)) s = some (.lst (xs.map V.str)) := upd_same
    obtain ⟨G0, eG⟩ : ∃ Z, Z = upd (upd H l0 (.lst [V.str "a", V.str "b", V.str "c"])) s (.lst (xs.map V.str)) := ⟨_, rfl⟩
    change tSeq _ _ _ _ (upd (upd H l0 (.lst [V.str "a", V.str "b", V.str "c"])) s (.lst (xs.map V.str)))
    rw [← eG] at s0 src0 e0 ⊢
    clear eG hl0 hs
    refine ⟨_, rfl, _, rfl, d, c, m, rfl, src0, by omega, fun o ns G1 src1 sm1 hn ln ho => ?_⟩
    have es : hid d c G1 s = some (.lst (xs.map V.str)) := sm1 _ _ ((hid_at sd sc).trans e0)
    have sm : Same (hid d c H) (hid d c G1) := (hid_same s0).trans sm1
    clear sm1 e0 s0 src0
    intro L hL
    obtain ⟨Ld, Lc⟩ := src_ne src1 hL
    refine ⟨_, rfl, o, rfl, ⟨_, (same_upd hL).seq (hid_sub.seq ho)⟩, for_list (K := K) (a := o) (xs := ns.map V.str) (fun i σ G => (∃ v6, σ = [some (.ref d), some (.int (n : Int)), some (.int (m : Int)), some (.ref s), some (.ref o), some (.ref L), v6]) ∧ SrcAt G d c ∧ Same (hid d c G1) (hid d c G) ∧
      ∃ (as : List Addr) (ls : List Lt), ls.map (·.1) = ns.take i ∧ G L = some (.dK (kvL ls as)) ∧ AllT K (hid d c G) as (ls.map endV) ∧ ∀ q ∈ ls, q.2.1 ∈ xs ∧ q.2.2 ∈ xs)
      ⟨⟨_, rfl⟩, src_put Ld Lc src1, hid_put hL (Same.refl _), [], [], rfl, upd_same, AllT.nil, fun q hq => absurd hq List.not_mem_nil⟩ (fun i σ G _ p => hid_sub.seq (p.2.2.1.seq ho)) ?_ ?_⟩
    · rintro i v σ G hi ⟨⟨v6, rfl⟩, src2, sm2, as, ls, en, eL, hA, hin⟩
      obtain ⟨x, ex1, rfl⟩ := str_at hi
      have li := (List.getElem?_eq_some_iff.mp ex1).1
      refine ⟨_, rfl, _, rfl, _, rfl, d, c, n, rfl, src2, by omega, by omega, fun r G2 r0 r1 src3 keep3 => ?_⟩
      obtain ⟨j, rfl⟩ : ∃ j : Nat, r = (j : Int) := ⟨r.toNat, by omega⟩
      have eh : hid d c G2 = hid d c G := hid_pick keep3
      have es2 : G2 s = some (.lst (xs.map V.str)) := hid_sub _ _ (show hid d c G2 s = _ by rw [eh]; exact sm2 _ _ es)
      have eL2 : G2 L = some (.dK (kvL ls as)) := (keep3 L Ld Lc).trans eL
      refine ⟨s, _, _, _, rfl, rfl, SqL.of es2, str_ix (by omega), ?_⟩
      refine ⟨_, rfl, _, rfl, _, rfl, d, c, n, rfl, src3, by omega, by omega, fun r G3 r0 r1 src4 keep4 => ?_⟩
      obtain ⟨j2, rfl⟩ : ∃ j : Nat, r = (j : Int) := ⟨r.toNat, by omega⟩
      have eh3 : hid d c G3 = hid d c G := (hid_pick keep4).trans eh
      have es3 : G3 s = some (.lst (xs.map V.str)) := (keep4 s sd sc).trans es2
      have eL3 : G3 L = some (.dK (kvL ls as)) := (keep4 L Ld Lc).trans eL2
      refine ⟨s, _, _, _, rfl, rfl, SqL.of es3, str_ix (by omega), ?_⟩
      refine ⟨szl (by show 2 ≤ 1000; decide), fun T hT => ?_⟩
      obtain ⟨Td, Tc⟩ := src_ne src4 hT
      have eL4 := same_upd (o := .tup [V.str (xs[j]'(by omega)), V.str (xs[j2]'(by omega))]) hT _ _ eL3
      have ll : ls.length = i := by
        have z := congrArg List.length en
        rw [List.length_map, List.length_take] at z
        omega
      have lk := kvL_len ls as
      have hno : x ∉ ls.map (·.1) := by
        rw [en]
        intro z
        obtain ⟨i2, l2, e2⟩ := List.getElem_of_mem z
        rw [List.length_take] at l2
        have e3 : ns[i2]? = some x := by rw [List.getElem_take] at e2; rw [List.getElem?_eq_getElem (by omega), e2]
        have e4 : ns[i2]'(by omega) = ns[i] := by
          rw [List.getElem?_eq_getElem (by omega)] at e3
          rw [List.getElem?_eq_getElem li] at ex1
          rw [Option.some.inj e3, Option.some.inj ex1]
        exact List.pairwise_iff_getElem.mp hn.nd i2 i (by omega) li (by omega) e4
      refine ⟨_, rfl, _, rfl, L, _, rfl, (show DPut _ L (.str x) _ _ from DPut.k (k := .inr x) eL4 (small1000 (by omega))), ?_⟩
      have hA4 := hA
      rw [← eh3] at hA4
      have sT := hid_same (d := d) (c := c) (same_upd (o := .tup [V.str (xs[j]'(by omega)), V.str (xs[j2]'(by omega))]) hT)
      refine ⟨⟨_, rfl⟩, src_put Ld Lc (src_same (same_upd hT) src4), hid_put hL (by rw [← eh3] at sm2; exact sm2.trans sT), as ++ [T], ls ++ [(x, xs[j]'(by omega), xs[j2]'(by omega))], ?_, ?_, ?_, ?_⟩
      · rw [List.map_append, en, List.take_add_one, ex1]
        rfl
      · rw [upd_same, putK_new _ (kvL_no ls as hno), kvL_snoc _ _ _ _ (by rw [hA.1, List.length_map])]
      · have z := (hA4.same sT).snoc (SqT.of (show hid d c (upd G3 T (.tup [V.str (xs[j]'(by omega)), V.str (xs[j2]'(by omega))])) T = some (.tup (endV (x, xs[j]'(by omega), xs[j2]'(by omega)))) from (hid_at Td Tc).trans upd_same))
        rw [List.map_append]
        rw [hid_upd Ld Lc]
        exact z.putD ((hid_at Ld Lc).trans eL4)
      · intro q hq
        rcases List.mem_append.mp hq with z | z
        · exact hin q z
        · rw [List.mem_singleton.mp z]
          exact ⟨List.getElem_mem _, List.getElem_mem _⟩
    · rintro σ G ⟨⟨v6, rfl⟩, src2, sm2, as, ls, en, eL, hA, hin⟩
      rw [List.length_map, List.take_length] at en
      refine ⟨_, rfl, _, rfl, _, rfl, szl (by show 0 ≤ 1000; decide), fun t ht => ?_⟩
      have st := same_upd (o := .lst []) ht
      obtain ⟨td, tc⟩ := src_ne src2 ht
      have sh := hid_same (d := d) (c := c) st
      have es2 : hid d c G s = some (.lst (xs.map V.str)) := sm2 _ _ es
      have eLh : hid d c G L = some (.dK (kvL ls as)) := (hid_at Ld Lc).trans eL
      have fok : FrOk xs ls := ⟨nlx, by rw [en]; exact hn, hin⟩
      have lal : as.length = ls.length := by rw [hA.1, List.length_map]
      have ld : LdAt K (hid d c (upd G t (.lst []))) L ls := ⟨as, sh _ _ eLh, lal, fun i u e => by
        obtain ⟨vs, a, b⟩ := (hA.same sh).2 i u e
        rw [List.getElem?_map] at a
        cases z : ls[i]? with
        | none => rw [z] at a; cases a
        | some q => rw [z] at a; exact ⟨q, rfl, by rw [← Option.some.inj a] at b; exact b⟩⟩
      have ldG : LdAt K (upd G t (.lst [])) L ls := ld.same hid_sub
      have hoG : SqL K (hid d c (upd G t (.lst []))) o ((ls.map (·.1)).map V.str) := by rw [en]; exact (sm2.trans sh).seq ho
      refine ⟨s, o, L, t, xs, ls, rfl, hid_sub _ _ (sh _ _ es2), hid_sub.seq hoG, ldG, SqL.of upd_same, fok, fun e b H' he s9 ee => ?_⟩
      obtain ⟨ed, ec⟩ := src_ne (src_same st src2) he
      have s9h := hid_same (d := d) (c := c) s9
      refine k e xs ls H' (src_same (st.trans s9) src2) (sm.trans (sm2.trans (sh.trans s9h))) ⟨⟨s, L, o, t, b, (hid_at ed ec).trans ee, s9h _ _ (sh _ _ es2), ld.same s9h, s9h.seq hoG⟩, fok⟩ ex ?_
      have z := congrArg List.length en
      rw [List.length_map] at z
      exact z.trans ln
end
end K24

namespace K24
open PySem PySem.Spec PyProof.Rows L2 Ow
/-! ### terms -/
inductive Tm where
  | leaf (w : Str) (ss : List Str)
  | one (w : Str) (t : Tm)
  | two (w : Str) (s t : Tm)
def Tm.sz : Tm → Nat
  | .leaf _ _ => 1
  | .one _ t => 1 + t.sz
  | .two _ s t => 1 + s.sz + t.sz
/-- at a stands the term -/
def TmAt (K : PySem.W.Frag) (H : Hp) : Addr → Tm → Prop
  | a, .leaf w ss => SqT K H a (.str w :: ss.map V.str)
  | a, .one w t => ∃ b, SqT K H a [.str w, .ref b] ∧ TmAt K H b t
  | a, .two w s t => ∃ b c, SqT K H a [.str w, .ref b, .ref c] ∧ TmAt K H b s ∧ TmAt K H c t
theorem TmAt.same {K : PySem.W.Frag} {H H' : Hp} (s : Same H H') : ∀ {t : Tm} {a : Addr}, TmAt K H a t → TmAt K H' a t
  | .leaf _ _, _, h => sqt_same s h
  | .one _ _, _, ⟨b, h, g⟩ => ⟨b, sqt_same s h, g.same s⟩
  | .two _ _ _, _, ⟨b, c, h, g, g2⟩ => ⟨b, c, sqt_same s h, g.same s, g2.same s⟩
theorem TmAt.put {K : PySem.W.Frag} {H : Hp} {D : Addr} {l : List V} {o : HO} (e : H D = some (.lst l)) : ∀ {t : Tm} {a : Addr}, TmAt K H a t → TmAt K (upd H D o) a t
  | .leaf _ _, _, h => sqt_put e h
  | .one _ _, _, ⟨b, h, g⟩ => ⟨b, sqt_put e h, g.put e⟩
  | .two _ _ _, _, ⟨b, c, h, g, g2⟩ => ⟨b, c, sqt_put e h, g.put e, g2.put e⟩
/-- right terms of a frame, with their ends -/
inductive Ty (xs : List Str) (ls : List Lt) : Tm → Str → Str → Prop
  | letter {q : Lt} : q ∈ ls → Ty xs ls (.leaf "letter" [q.1]) q.2.1 q.2.2
  | same {a : Str} : a ∈ xs → Ty xs ls (.leaf "same" [a]) a a
  | other {a : Str} : a ∈ xs → Ty xs ls (.leaf "other" [a]) a a
  | none {a b : Str} : a ∈ xs → b ∈ xs → Ty xs ls (.leaf "none" [a, b]) a b
  | all {a b : Str} : a ∈ xs → b ∈ xs → Ty xs ls (.leaf "all" [a, b]) a b
  | rest {t : Tm} {a b : Str} : Ty xs ls t a b → Ty xs ls (.one "rest" t) a b
  | turned {t : Tm} {a b : Str} : Ty xs ls t b a → Ty xs ls (.one "turned" t) a b
  | closed {t : Tm} {a : Str} : Ty xs ls t a a → Ty xs ls (.one "closed" t) a a
  | walked {t : Tm} {a : Str} : Ty xs ls t a a → Ty xs ls (.one "walked" t) a a
  | joined {s t : Tm} {a b : Str} : Ty xs ls s a b → Ty xs ls t a b → Ty xs ls (.two "joined" s t) a b
  | cut {s t : Tm} {a b : Str} : Ty xs ls s a b → Ty xs ls t a b → Ty xs ls (.two "cut" s t) a b
  | then_ {s t : Tm} {a m b : Str} : Ty xs ls s a m → Ty xs ls t m b → Ty xs ls (.two "then" s t) a b
/-- at u stands a right term of these ends, not greater than n -/
def Good (K : PySem.W.Frag) (xs : List Str) (ls : List Lt) (x y : Str) (n : Nat) (H : Hp) (u : Addr) : Prop := ∃ t, TmAt K H u t ∧ Ty xs ls t x y ∧ t.sz ≤ n
/-- at L stands a list of such -/
def GoodL (K : PySem.W.Frag) (xs : List Str) (ls : List Lt) (x y : Str) (n : Nat) (H : Hp) (L : Addr) (N : Nat) : Prop := ∃ us : List Addr, H L = some (.lst (us.map V.ref)) ∧ us.length ≤ N ∧ ∀ u ∈ us, Good K xs ls x y n H u
section
variable {K : PySem.W.Frag} {xs : List Str} {ls : List Lt} {x y : Str} {n N : Nat} {H H' : Hp} {u D L : Addr}
theorem Good.same (s : Same H H') (h : Good K xs ls x y n H u) : Good K xs ls x y n H' u := let ⟨t, a, b, c⟩ := h; ⟨t, a.same s, b, c⟩
theorem Good.put {l : List V} {o : HO} (e : H D = some (.lst l)) (h : Good K xs ls x y n H u) : Good K xs ls x y n (upd H D o) u := let ⟨t, a, b, c⟩ := h; ⟨t, a.put e, b, c⟩
theorem GoodL.same (s : Same H H') (h : GoodL K xs ls x y n H L N) : GoodL K xs ls x y n H' L N := let ⟨us, a, b, c⟩ := h; ⟨us, s _ _ a, b, fun u hu => (c u hu).same s⟩
/-- one more -/
theorem GoodL.snoc {us : List Addr} (e : H L = some (.lst (us.map V.ref))) (l : us.length ≤ N) (g : ∀ u ∈ us, Good K xs ls x y n H u) (h : Good K xs ls x y n H u) : GoodL K xs ls x y n (upd H L (.lst (us.map V.ref ++ [.ref u]))) L (N + 1) := by
  refine ⟨us ++ [u], by rw [upd_same, List.map_append]; rfl, by rw [List.length_append]; exact Nat.succ_le_succ l, fun v hv => ?_⟩
  rcases List.mem_append.mp hv with z | z
  · exact (g v z).put e
  · rw [List.mem_singleton.mp z]
    exact h.put e
end
theorem eqv_strs : ∀ xs ys : List Str, PyData.eqv (.tuple (xs.map PyData.str)) (.tuple (ys.map PyData.str)) = decide (xs = ys)
  | [], [] => by simp [PyData.eqv, PyData.eqvAll]
  | [], y :: ys => by simp [PyData.eqv, PyData.eqvAll]
  | x :: xs, [] => by simp [PyData.eqv, PyData.eqvAll]
  | x :: xs, y :: ys => by
    have e := eqv_strs xs ys
    simp only [PyData.eqv] at e
    simp only [List.map_cons, PyData.eqv, PyData.eqvAll, e]
    by_cases h : x = y <;> by_cases g : xs = ys <;> simp [h, g]
/-- a letter's ends compared with others -/
theorem eq_ends {K : PySem.W.Frag} {H : Hp} {a b : Addr} {p q x y : Str} {Q : VK} (wp : Wd p) (wq : Wd q) (wx : Wd x) (wy : Wd y) (h1 : SqT K H a [.str p, .str q]) (h2 : SqT K H b [.str x, .str y]) (k : Q (.bl (decide (p = x ∧ q = y))) H) : rEqD K (.ref a) (.ref b) H Q := by
  refine ⟨.tuple [.str p, .str q], .tuple [.str x, .str y], .tup h1 (.cons (.str _) (.cons (.str _) .nil)), .tup h2 (.cons (.str _) (.cons (.str _) .nil)), shp_pair wp wq, shp_pair wx wy, ?_⟩
  rw [show PyData.eqv (.tuple [.str p, .str q]) (.tuple [.str x, .str y]) = decide ([p, q] = [x, y]) from eqv_strs [p, q] [x, y]]
  rw [show decide ([p, q] = [x, y]) = decide (p = x ∧ q = y) by simp]
  exact k
end K24

namespace K24
open PySem PySem.Spec PyProof.Rows L2 Ow
/-- a new object, the source hidden -/
structure NewH (d c : Addr) (G : Hp) (T : Addr) (o : HO) : Prop where
  src : SrcAt (upd G T o) d c
  nd : T ≠ d
  nc : T ≠ c
  sm : Same (hid d c G) (hid d c (upd G T o))
  at_ : hid d c (upd G T o) T = some o
theorem new_h {d c T : Addr} {G : Hp} (o : HO) (src : SrcAt G d c) (hT : G T = none) : NewH d c G T o := by
  obtain ⟨n1, n2⟩ := src_ne src hT
  exact ⟨src_same (same_upd hT) src, n1, n2, hid_same (same_upd hT), (hid_at n1 n2).trans upd_same⟩
theorem dget_mono {H H' : Hp} {a : Addr} {y : V} {r : Option V} (s : Same H H') (h : DGet H a y r) : DGet H' a y r := by
  have rd : ∀ {u : HO}, Rd H a u → Rd H' a u := fun {u} z => z.elim (fun z => .inl (s _ _ z)) fun ⟨o, z⟩ => .inr ⟨o, s _ _ z⟩
  rcases h with ⟨kvs, k, e, g⟩ | ⟨kvs, k, b, e, ey, eb, l⟩
  · exact .inl ⟨kvs, k, rd e, g⟩
  · exact .inr ⟨kvs, k, b, rd e, ey, s _ _ eb, l⟩
theorem FrAt.fr {K : PySem.W.Frag} {H : Hp} {d : Addr} {xs : List Str} {ls : List Lt} (h : FrAt K H d xs ls) : ∃ s m o, DGet H d (.str "sorts") (some (.ref s)) ∧ DGet H d (.str "letters") (some (.ref m)) ∧ DGet H d (.str "order") (some (.ref o)) ∧ H s = some (.lst (xs.map V.str)) ∧ LdAt K H m ls ∧ SqL K H o ((ls.map (·.1)).map V.str) := by
  obtain ⟨⟨s, m, o, t, b, h1, h2, h3, h4⟩, _⟩ := h
  exact ⟨s, m, o, fr_sorts h1, fr_letters h1, fr_order h1, h2, h3, h4⟩
theorem name_at {ls : List Lt} {i : Nat} {v : V} (hi : ((ls.map (·.1)).map V.str)[i]? = some v) : ∃ q, ls[i]? = some q ∧ v = .str q.1 := by
  obtain ⟨x, ex, rfl⟩ := str_at hi
  rw [List.getElem?_map] at ex
  cases z : ls[i]? with
  | none => rw [z] at ex; cases ex
  | some q => rw [z] at ex; exact ⟨q, rfl, by rw [← Option.some.inj ex]⟩
theorem seq_if {tc : TT} {a b u : TS} {D : Ends} {σ : L2.St} {H : Hp} (I : Hp → Prop) (hu : ∀ H', I H' → u D σ H') (h : (∀ H', I H' → u D σ H') → tc σ H fun k H1 => if k = true then a { D with nx := u D } σ H1 else b { D with nx := u D } σ H1) : tSeq (tIfS tc a b) u D σ H := h hu
/-- a list of good terms that grows -/
structure LfI (K : PySem.W.Frag) (xs : List Str) (ls : List Lt) (x y : Str) (d c L : Addr) (H : Hp) (N : Nat) (G : Hp) : Prop where
  src : SrcAt G d c
  sm : Same (hid d c H) (hid d c G)
  ex : ∃ us : List Addr, hid d c G L = some (.lst (us.map V.ref)) ∧ us.length ≤ N ∧ 1 ≤ us.length ∧ ∀ u ∈ us, Good K xs ls x y 2 (hid d c G) u
theorem LfI.le {K : PySem.W.Frag} {xs : List Str} {ls : List Lt} {x y : Str} {d c L : Addr} {H G : Hp} {N M : Nat} (h : LfI K xs ls x y d c L H N G) (l : N ≤ M) : LfI K xs ls x y d c L H M G := ⟨h.src, h.sm, let ⟨us, a, b, e, g⟩ := h.ex; ⟨us, a, Nat.le_trans b l, e, g⟩⟩
/-- one more term in it -/
theorem LfI.app {K : PySem.W.Frag} {xs : List Str} {ls : List Lt} {x y : Str} {d c L T : Addr} {H G G' : Hp} {N : Nat} (n1 : L ≠ d) (n2 : L ≠ c) (h0 : hid d c H L = none) (h : LfI K xs ls x y d c L H N G) (src : SrcAt G' d c) (s : Same (hid d c G) (hid d c G')) (g : Good K xs ls x y 2 (hid d c G') T) (hN : N ≤ 900) {Q : Hp → Prop}
    (k : ∀ us : List Addr, us.length ≤ N → G' L = some (.lst (us.map V.ref)) → LfI K xs ls x y d c L H (N + 1) (upd G' L (.lst (us.map V.ref ++ [.ref T]))) → Q (upd G' L (.lst (us.map V.ref ++ [.ref T])))) : ∃ us : List V, G' L = some (.lst us) ∧ us.length < sizeLine ∧ Q (upd G' L (.lst (us ++ [.ref T]))) := by
  obtain ⟨us, e, l1, l2, gu⟩ := h.ex
  have e2 := s _ _ e
  refine ⟨us.map V.ref, hid_sub _ _ e2, by rw [List.length_map]; exact small1000 (by omega), k us l1 (hid_sub _ _ e2) ⟨src_put n1 n2 src, ?_, us ++ [T], ?_, by rw [List.length_append]; exact Nat.succ_le_succ l1, by rw [List.length_append]; omega, fun u hu => ?_⟩⟩
  · rw [hid_upd n1 n2]
    exact same_put h0 (h.sm.trans s)
  · rw [hid_upd n1 n2, upd_same, List.map_append]
    rfl
  · rw [hid_upd n1 n2]
    rcases List.mem_append.mp hu with z | z
    · exact ((gu u z).same s).put e2
    · rw [List.mem_singleton.mp z]
      exact g.put e2
abbrev NLf : List Str := ["_law_source_here", "_law_frame_here", "_law_ends", "_law_plain", "_law_some", "_law_name"]
theorem scLf : FnScope NLf ["_law_source_here", "_law_frame_here", "_law_ends", "_law_plain"] (defScope sLawLeaf) := ⟨rfl, rfl, rfl, by decide +kernel, rfl, by decide +kernel, by decide +kernel⟩
def spLf (K : PySem.W.Frag) : Sp := fun vs H Q _ => ∃ (d c e a : Addr) (pl : Bool) (xs : List Str) (ls : List Lt) (x y : Str), vs = [.ref d, .ref e, .ref a, .bl pl] ∧ SrcAt H d c ∧ FrAt K (hid d c H) e xs ls ∧ SqT K (hid d c H) a [.str x, .str y] ∧ x ∈ xs ∧ y ∈ xs ∧
  ∀ (u : Addr) (H' : Hp), SrcAt H' d c → Same (hid d c H) (hid d c H') → Good K xs ls x y 2 (hid d c H') u → Q (.ref u) H'
def ttL1 (K : PySem.W.Frag) : TT := tTest (tOp (rEqD K) (tDGet (tDGet (tVar 1) (tC (.str "letters"))) (tVar 5)) (tVar 2))
def teL1 : TE := tTup (tCons (tC (.str "letter")) (tCons (tVar 5) tNil))
def ttL2 (K : PySem.W.Frag) : TT := tTest (tOp (rEqD K) (tDGet (tDGet (tVar 1) (tC (.str "letters"))) (tVar 5)) (tRev K (tVar 2) (tUn (rU fun i => .int (-i)) (tC (.int 1)))))
def teL2 : TE := tTup (tCons (tC (.str "turned")) (tCons (tTup (tCons (tC (.str "letter")) (tCons (tVar 5) tNil))) tNil))
section
variable {P : Program} {w : World} {K : PySem.W.Frag} {mg : Str → Option Value} {base : Heap} {f : Addr} {fd : FuncData}
theorem ok_lf (F : FnP K "_law_leaf" sLawLeaf f fd) (Y : Fx w K mg) : FnOk P w K mg base CX0 2 f fd ["_law_source_here", "_law_frame_here", "_law_ends", "_law_plain"] (spLf K) := by
  obtain ⟨d1, F1⟩ := Y.dLawPick
  have b1 := FunD.bindsN (ps := ["_law_source_here", "_law_many"]) F1 fun _ _ _ _ _ _ us hl => match us, hl with | [_, _], _ => rfl
  have G1 : FnOk P w K mg base CX0 1 _ d1 ["_law_source_here", "_law_many"] spPick := ok_pick F1 Y.bl
  refine okD F scLf (fun vs H Q E h => ?_) (fun cdv A outer s H vs Q E hr h => ?_)
  · obtain ⟨d, c, e, a, pl, xs, ls, x, y, rfl, _⟩ := h
    rfl
  · have nd := scLf.nd
    have hu := hu_of hr
    have hu64 := hu64_of hr
    refine ⟨_, pss_cons (ps_setLc (i := 4) (own := [("_law_name", 5)]) (g := gName 5) (tt := ttL1 K) (te := teL1) rfl nd rfl rfl (by rfl) (pi_list (pe_dget hu (pv 1) pe_str nosl)) (blkOk_by (N := NLf) (sc := defScope sLawLeaf) (by decide +kernel)) (fun _ _ _ _ _ => pg_name (i := 5) nd rfl (Or.inl rfl))
        (fun _ _ _ _ _ => pts_one (pt_cmpR (op_eqD hu64) (pe_dget hu (pe_dget hu (pv 1) pe_str nosl) (pv 5) nosl) (pv 2) (nomark _))) (fun _ _ _ _ _ => pe_tup (pa_cons pe_str (pa_cons (pv 5) pa_nil))))
      (pss_cons (ps_set (i := 4) nd rfl (Or.inl rfl) (pe_op op_cat (pv 4)
        (pe_lc (own := [("_law_name", 5)]) (g := gName 5) (tt := ttL2 K) (te := teL2) rfl nd (pi_list (pe_dget hu (pv 1) pe_str nosl)) (blkOk_by (N := NLf) (sc := defScope sLawLeaf) (by decide +kernel)) (fun _ _ _ _ _ => pg_name (i := 5) nd rfl (Or.inl rfl))
        (fun _ _ _ _ _ => pts_one (pt_cmpR (op_eqD hu64) (pe_dget hu (pe_dget hu (pv 1) pe_str nosl) (pv 5) nosl) (pe_rev (pv 2) (pe_un un_neg pe_int)) (nomark _))) (fun _ _ _ _ _ => pe_tup (pa_cons pe_str (pa_cons (pe_tup (pa_cons pe_str (pa_cons (pv 5) pa_nil))) pa_nil))))))
      (pss_cons (ps_set (i := 4) nd rfl (Or.inl rfl) (pe_op op_cat (pe_op op_rep (pv 4) pe_int) (pe_lst (pa_cons (pe_op op_catT (pe_tup (pa_cons pe_str pa_nil)) (pv 2)) pa_nil))))
      (pss_cons (ps_if (pt_cmpR op_eq (pe_ix ix_tup (pv 2) pe_int (fun _ _ => rfl)) (pe_ix ix_tup (pv 2) pe_int (fun _ _ => rfl)) (nomark _))
        (pss_one (ps_expr (pe_bm PySem.F.plainAttrs_list PySem.F.slot_list_append PySem.F.type_list_append mt_append (pv 4) (pa_cons (pe_tup (pa_cons pe_str (pa_cons (pe_ix ix_tup (pv 2) pe_int (fun _ _ => rfl)) pa_nil))) pa_nil)))) pss_nil)
      (pss_cons (ps_if (pw_and (pt_not (pt_val (pv 3))) (pw_and1 (pt_cmpR op_eq (pe_ix ix_tup (pv 2) pe_int (fun _ _ => rfl)) (pe_ix ix_tup (pv 2) pe_int (fun _ _ => rfl)) (nomark _)))).pt
        (pss_one (ps_expr (pe_bm PySem.F.plainAttrs_list PySem.F.slot_list_append PySem.F.type_list_append mt_append (pv 4) (pa_cons (pe_tup (pa_cons pe_str (pa_cons (pe_ix ix_tup (pv 2) pe_int (fun _ _ => rfl)) pa_nil))) pa_nil)))) pss_nil)
      (pss_cons (ps_if (pw_and (pt_not (pt_val (pv 3))) (pw_and1 (pt_cmpR op_eq (pe_call G1 hr (by rfl) Y.gLawPick F1.kp b1 .nil pass0 (pa_cons (pv 0) (pa_cons pe_int pa_nil))) pe_int (nomark _)))).pt
        (pss_one (ps_expr (pe_bm PySem.F.plainAttrs_list PySem.F.slot_list_append PySem.F.type_list_append mt_append (pv 4) (pa_cons (pe_op op_catT (pe_tup (pa_cons pe_str pa_nil)) (pv 2)) pa_nil)))) pss_nil)
      (pss_one (ps_ret (pe_ix ix_list (pv 4) (pe_call G1 hr (by rfl) Y.gLawPick F1.kp b1 .nil pass0 (pa_cons (pv 0) (pa_cons (pe_callB call_len_seq (by rfl) Y.bLen PySem.boot_len (pa_cons (pv 4) pa_nil)) pa_nil))) (fun _ _ => rfl))))))))), ?_⟩
    obtain ⟨d, c, e, a, pl, xs, ls, x, y, rfl, src, fr, ha, hx, hy, k⟩ := h
    obtain ⟨_, m, o, _, gm, go, _, lm, lo⟩ := fr.fr
    have ok := fr.ok
    have wx := ok.nx.w x hx
    have wy := ok.nx.w y hy
    have l16 := ok.nl.n
    rw [List.length_map] at l16
    have at_ : ∀ {G : Hp}, Same (hid d c H) (hid d c G) → DGet G e (.str "order") (some (.ref o)) ∧ DGet G e (.str "letters") (some (.ref m)) ∧ LdAt K G m ls ∧ SqL K G o ((ls.map (·.1)).map V.str) ∧ SqT K G a [.str x, .str y] := fun sm =>
      ⟨dget_mono hid_sub (dget_mono sm go), dget_mono hid_sub (dget_mono sm gm), (lm.same sm).same hid_sub, hid_sub.seq (sm.seq lo), sqt_same hid_sub (sqt_same sm ha)⟩
    obtain ⟨a1, a2, a3, a4, a5⟩ := at_ (Same.refl _)
    refine ⟨_, rfl, e, .ref o, rfl, a1, o, rfl, ⟨_, a4⟩, fun D hD => ?_⟩
    have nD := new_h (.lst []) src hD
    have hDh : hid d c H D = none := (hid_at nD.nd nD.nc).trans hD
    refine lc_list (K := K) (a := o) (xs := (ls.map (·.1)).map V.str) (fun i G => SrcAt G d c ∧ Same (hid d c H) (hid d c G) ∧ GoodL K xs ls x y 2 (hid d c G) D i) ⟨nD.src, nD.sm, [], nD.at_, Nat.le_refl _, fun u hu => absurd hu List.not_mem_nil⟩ (fun i G _ p => (at_ p.2.1).2.2.2.1) ?_ ?_
    · rintro i v G hi ⟨srcG, smG, us, eD, lu, gu⟩
      obtain ⟨q, eq, rfl⟩ := name_at hi
      obtain ⟨_, b2, b3, _, b5⟩ := at_ smG
      obtain ⟨tt, dg, st⟩ := b3.get ok.nl.nd eq
      obtain ⟨m1, m2⟩ := ok.ends q (List.mem_of_getElem? eq)
      have li := (List.getElem?_eq_some_iff.mp eq).1
      refine ⟨rfl, ?_⟩
      show tTest (tOp (rEqD K) (tDGet (tDGet (tVar 1) (tC (.str "letters"))) (tVar 5)) (tVar 2)) _ _ _
      refine ⟨_, rfl, e, .ref m, rfl, b2, _, rfl, m, .ref tt, rfl, dg, _, rfl, eq_ends (ok.nx.w _ m1) (ok.nx.w _ m2) wx wy st b5 ⟨_, rfl, ite2 (fun hc => ?_) (fun _ => ?_)⟩⟩
      · obtain ⟨e1, e2⟩ := of_decide_eq_true hc
        refine ⟨_, rfl, szl (by show 2 ≤ 1000; decide), fun T hT => ?_⟩
        have nT := new_h (.tup [V.str "letter", V.str q.1]) srcG hT
        have eD2 : hid d c (upd G T (.tup [V.str "letter", V.str q.1])) D = some (.lst (us.map V.ref)) := nT.sm _ _ eD
        have eD3 := hid_sub _ _ eD2
        refine ⟨_, eD3, ?_, src_put nD.nd nD.nc nT.src, ?_, ?_⟩
        · rw [List.length_map]
          exact small1000 (by omega)
        · rw [hid_upd nD.nd nD.nc]
          exact same_put hDh (smG.trans nT.sm)
        · rw [hid_upd nD.nd nD.nc]
          refine GoodL.snoc eD2 lu (fun u hu => (gu u hu).same nT.sm) ⟨.leaf "letter" [q.1], SqT.of nT.at_, ?_, by show 1 ≤ 2; decide⟩
          have z : Ty xs ls (.leaf "letter" [q.1]) q.2.1 q.2.2 := .letter (List.mem_of_getElem? eq)
          rw [e1, e2] at z
          exact z
      · exact ⟨srcG, smG, us, eD, Nat.le_succ_of_le lu, gu⟩
    rintro G0 ⟨srcG0, smG0, us, eD, lu, gu⟩
    rw [List.length_map, List.length_map] at lu
    obtain ⟨a1, a2, a3, a4, a5⟩ := at_ smG0
    refine ⟨_, rfl, _, rfl, e, .ref o, rfl, a1, o, rfl, ⟨_, a4⟩, fun D2 hD2 => ?_⟩
    have nD2 := new_h (.lst []) srcG0 hD2
    have hDh2 : hid d c G0 D2 = none := (hid_at nD2.nd nD2.nc).trans hD2
    refine lc_list (K := K) (a := o) (xs := (ls.map (·.1)).map V.str) (fun i G => SrcAt G d c ∧ Same (hid d c G0) (hid d c G) ∧ GoodL K xs ls x y 2 (hid d c G) D2 i) ⟨nD2.src, nD2.sm, [], nD2.at_, Nat.le_refl _, fun u hu => absurd hu List.not_mem_nil⟩ (fun i G _ p => (at_ (smG0.trans p.2.1)).2.2.2.1) ?_ ?_
    · rintro i v G hi ⟨srcG, smG, us2, eD2, lu2, gu2⟩
      obtain ⟨q, eq, rfl⟩ := name_at hi
      obtain ⟨_, b2, b3, _, b5⟩ := at_ (smG0.trans smG)
      obtain ⟨tt, dg, st⟩ := b3.get ok.nl.nd eq
      obtain ⟨m1, m2⟩ := ok.ends q (List.mem_of_getElem? eq)
      have li := (List.getElem?_eq_some_iff.mp eq).1
      refine ⟨rfl, ?_⟩
      show tTest (tOp (rEqD K) (tDGet (tDGet (tVar 1) (tC (.str "letters"))) (tVar 5)) (tRev K (tVar 2) (tUn (rU fun i => .int (-i)) (tC (.int 1))))) _ _ _
      refine ⟨_, rfl, e, .ref m, rfl, b2, _, rfl, m, .ref tt, rfl, dg, _, rfl, _, rfl, rfl, a, _, rfl, .inr ⟨b5, fun p hp => ?_⟩⟩
      have np := new_h (.tup [V.str y, V.str x]) srcG hp
      refine eq_ends (ok.nx.w _ m1) (ok.nx.w _ m2) wy wx (sqt_same (same_upd hp) st) (SqT.of upd_same) ⟨_, rfl, ite2 (fun hc => ?_) (fun _ => ?_)⟩
      · obtain ⟨e1, e2⟩ := of_decide_eq_true hc
        refine ⟨_, rfl, szl (by show 2 ≤ 1000; decide), fun T1 hT1 => ⟨szl (by show 2 ≤ 1000; decide), fun T hT => ?_⟩⟩
        have nT1 := new_h (.tup [V.str "letter", V.str q.1]) np.src hT1
        have nT := new_h (.tup [V.str "turned", V.ref T1]) nT1.src hT
        have sT := np.sm.trans (nT1.sm.trans nT.sm)
        have eD3 := sT _ _ eD2
        have eD4 := hid_sub _ _ eD3
        refine ⟨_, eD4, ?_, src_put nD2.nd nD2.nc nT.src, ?_, ?_⟩
        · rw [List.length_map]
          exact small1000 (by omega)
        · rw [hid_upd nD2.nd nD2.nc]
          exact same_put hDh2 (smG.trans sT)
        · rw [hid_upd nD2.nd nD2.nc]
          refine GoodL.snoc eD3 lu2 (fun u hu => (gu2 u hu).same sT) ⟨.one "turned" (.leaf "letter" [q.1]), ⟨T1, SqT.of nT.at_, SqT.of (nT.sm _ _ nT1.at_)⟩, ?_, by show 1 + 1 ≤ 2; decide⟩
          have z : Ty xs ls (.leaf "letter" [q.1]) q.2.1 q.2.2 := .letter (List.mem_of_getElem? eq)
          rw [e1, e2] at z
          exact .turned z
      · exact ⟨np.src, smG.trans np.sm, us2, np.sm _ _ eD2, Nat.le_succ_of_le lu2, fun u hu => (gu2 u hu).same np.sm⟩
    rintro G1 ⟨srcG1, smG1, us2, eD2, lu2, gu2⟩
    rw [List.length_map, List.length_map] at lu2
    have eDg := smG1 _ _ eD
    refine ⟨D, D2, _, _, rfl, rfl, hid_sub _ _ eDg, hid_sub _ _ eD2, by rw [List.length_map, List.length_map]; exact szl (by omega), fun L1 hL1 => ?_⟩
    have nL1 := new_h (.lst (us.map V.ref ++ us2.map V.ref)) srcG1 hL1
    obtain ⟨G2, src2, sm2, us3, eL1, lu3, gu3, eg⟩ : ∃ G2, SrcAt G2 d c ∧ Same (hid d c H) (hid d c G2) ∧ ∃ us3 : List Addr, hid d c G2 L1 = some (.lst (us3.map V.ref)) ∧ us3.length ≤ 32 ∧ (∀ u ∈ us3, Good K xs ls x y 2 (hid d c G2) u) ∧ G2 = upd G1 L1 (.lst (us.map V.ref ++ us2.map V.ref)) :=
      ⟨_, nL1.src, smG0.trans (smG1.trans nL1.sm), us ++ us2, by rw [nL1.at_, List.map_append], by rw [List.length_append]; omega, fun u hu => (List.mem_append.mp hu).elim (fun z => (gu u z).same (smG1.trans nL1.sm)) fun z => (gu2 u z).same nL1.sm, rfl⟩
    change tSeq _ _ _ _ (upd G1 L1 (.lst (us.map V.ref ++ us2.map V.ref)))
    rw [← eg]
    clear eg nL1 hL1 eD2 gu2 lu2 eDg smG1 srcG1 gu lu eD smG0 srcG0 a1 a2 a3 a4 a5 hD2 nD2 hDh2 hD nD hDh
    refine ⟨_, rfl, L1, 3, _, rfl, rfl, hid_sub _ _ eL1, by decide, by decide, by rw [List.length_map]; exact szl (by show us3.length * 3 ≤ 1000; omega), fun L2 hL2 => ⟨szl (by show 1 ≤ 1000; decide), fun t1 ht1 => ?_⟩⟩
    have nL2 := new_h (.lst (List.replicate (3 : Int).toNat (us3.map V.ref)).flatten) src2 hL2
    have nt1 := new_h (.tup [V.str "all"]) nL2.src ht1
    obtain ⟨_, _, _, _, a5⟩ := at_ (sm2.trans (nL2.sm.trans nt1.sm))
    refine ⟨_, rfl, t1, a, _, _, rfl, rfl, SqT.of (hid_sub _ _ nt1.at_), a5, by simp, szl (by show 3 ≤ 1000; decide), fun z => absurd z (List.cons_ne_nil _ _), fun _ t2 ht2 => ⟨szl (by show 1 ≤ 1000; decide), fun l hl => ?_⟩⟩
    have nt2 := new_h (.tup ([V.str "all"] ++ [V.str x, V.str y])) nt1.src ht2
    have nl := new_h (.lst [V.ref t2]) nt2.src hl
    have s2l := nL2.sm.trans (nt1.sm.trans (nt2.sm.trans nl.sm))
    have eL2 := (nt1.sm.trans (nt2.sm.trans nl.sm)) _ _ nL2.at_
    refine ⟨L2, l, _, _, rfl, rfl, hid_sub _ _ eL2, hid_sub _ _ nl.at_, ?_, fun L3 hL3 => ?_⟩
    · have z : ((List.replicate (3 : Int).toNat (us3.map V.ref)).flatten).length = 3 * us3.length := by
        show (List.replicate 3 (us3.map V.ref)).flatten.length = _
        simp [List.replicate]
        omega
      rw [z]
      exact szl (by show 3 * us3.length + 1 ≤ 1000; omega)
    have nL3 := new_h (.lst ((List.replicate (3 : Int).toNat (us3.map V.ref)).flatten ++ [V.ref t2])) nl.src hL3
    have hL3n : hid d c H L3 = none := none_of (sm2.trans s2l) ((hid_at nL3.nd nL3.nc).trans hL3)
    have iv3 : LfI K xs ls x y d c L3 H 97 (upd (upd (upd (upd (upd G2 L2 (.lst (List.replicate (3 : Int).toNat (us3.map V.ref)).flatten)) t1 (.tup [V.str "all"])) t2 (.tup ([V.str "all"] ++ [V.str x, V.str y]))) l (.lst [V.ref t2])) L3 (.lst ((List.replicate (3 : Int).toNat (us3.map V.ref)).flatten ++ [V.ref t2]))) :=
      ⟨nL3.src, sm2.trans (s2l.trans nL3.sm), ⟨us3 ++ us3 ++ us3 ++ [t2], by rw [nL3.at_]; simp [List.replicate], by simp only [List.length_append, List.length_cons, List.length_nil]; omega, by simp only [List.length_append, List.length_cons, List.length_nil]; omega, fun u hu => by
        rcases List.mem_append.mp hu with z | z
        · have z3 : u ∈ us3 := by simpa using z
          exact (gu3 u z3).same (s2l.trans nL3.sm)
        · rw [List.mem_singleton.mp z]
          exact ⟨.leaf "all" [x, y], SqT.of ((nl.sm.trans nL3.sm) _ _ nt2.at_), .all hx hy, by show 1 ≤ 2; decide⟩⟩⟩
    obtain ⟨G3, eg⟩ : ∃ G3, G3 = upd (upd (upd (upd (upd G2 L2 (.lst (List.replicate (3 : Int).toNat (us3.map V.ref)).flatten)) t1 (.tup [V.str "all"])) t2 (.tup ([V.str "all"] ++ [V.str x, V.str y]))) l (.lst [V.ref t2])) L3 (.lst ((List.replicate (3 : Int).toNat (us3.map V.ref)).flatten ++ [V.ref t2])) := ⟨_, rfl⟩
    dsimp only [gName]
    change tSeq (tIfS _ _ _) _ _ [some (.ref d), some (.ref e), some (.ref a), some (.bl pl), some (.ref L3), none] (upd (upd (upd (upd (upd G2 L2 (.lst (List.replicate (3 : Int).toNat (us3.map V.ref)).flatten)) t1 (.tup [V.str "all"])) t2 (.tup ([V.str "all"] ++ [V.str x, V.str y]))) l (.lst [V.ref t2])) L3 (.lst ((List.replicate (3 : Int).toNat (us3.map V.ref)).flatten ++ [V.ref t2])))
    rw [← eg] at iv3 ⊢
    have n1 := nL3.nd
    have n2 := nL3.nc
    clear eg nL3 hL3 eL2 s2l nl nt2 nt1 nL2 a5 hl ht2 ht1 hL2 gu3 lu3 eL1 src2 sm2
    refine seq_if (LfI K xs ls x y d c L3 H 98) (fun G4 iv4 => ?_) (fun nx => ?_)
    · refine seq_if (LfI K xs ls x y d c L3 H 99) (fun G5 iv5 => ?_) (fun nx => ?_)
      · refine seq_if (LfI K xs ls x y d c L3 H 100) (fun G6 iv6 => ?_) (fun nx => ?_)
        · obtain ⟨us, eL, u1, u2, gu⟩ := iv6.ex
          have eL' := hid_sub _ _ eL
          refine ⟨_, rfl, _, rfl, _, rfl, L3, _, rfl, .inl (SqL.of eL'), ?_⟩
          rw [List.length_map]
          refine ⟨d, c, (us.length : Int), rfl, iv6.src, by omega, by omega, fun r G7 r0 r1 src7 keep => ?_⟩
          obtain ⟨j, rfl⟩ : ∃ j : Nat, r = (j : Int) := ⟨r.toNat, by omega⟩
          have eh : hid d c G7 = hid d c G6 := hid_pick keep
          have lj : j < us.length := by omega
          refine ⟨L3, _, _, .ref us[j], rfl, rfl, SqL.of ((keep L3 n1 n2).trans eL'), atI_nat (by rw [List.getElem?_map, List.getElem?_eq_getElem lj]; rfl), ?_⟩
          exact k us[j] G7 src7 (by rw [eh]; exact iv6.sm) (by rw [eh]; exact gu _ (List.getElem_mem _))
        · refine ⟨_, rfl, _, rfl, ?_⟩
          cases pl with
          | true => exact iteF (iteF (nx _ (iv5.le (by decide))))
          | false =>
            refine iteT ⟨_, rfl, d, c, 6, rfl, iv5.src, by decide, by decide, fun r G6 r0 r1 src6 keep => ?_⟩
            have eh : hid d c G6 = hid d c G5 := hid_pick keep
            have iv6 : LfI K xs ls x y d c L3 H 99 G6 := ⟨src6, by rw [eh]; exact iv5.sm, by rw [eh]; exact iv5.ex⟩
            refine ⟨rfl, _, rfl, ite2 (fun _ => ?_) (fun _ => nx _ (iv6.le (by decide)))⟩
            obtain ⟨us, eL, u1, u2, gu⟩ := id iv6.ex
            refine ⟨_, rfl, .inl ⟨rfl, _, SqL.of (hid_sub _ _ eL)⟩, szl (by show 1 ≤ 1000; decide), fun t1 ht1 => ?_⟩
            have nt1 := new_h (.tup [V.str "none"]) src6 ht1
            obtain ⟨_, _, _, _, a5⟩ := at_ (iv6.sm.trans nt1.sm)
            refine ⟨_, rfl, t1, a, _, _, rfl, rfl, SqT.of (hid_sub _ _ nt1.at_), a5, by simp, szl (by show 3 ≤ 1000; decide), fun z => absurd z (List.cons_ne_nil _ _), fun _ t2 ht2 => ?_⟩
            have nt2 := new_h (.tup ([V.str "none"] ++ [V.str x, V.str y])) nt1.src ht2
            obtain ⟨vs, e, lz, q⟩ := LfI.app n1 n2 hL3n iv6 nt2.src (nt1.sm.trans nt2.sm) (T := t2) ⟨.leaf "none" [x, y], SqT.of nt2.at_, .none hx hy, by show 1 ≤ 2; decide⟩ (by decide) (Q := _) fun _ _ _ i => nx _ i
            exact ⟨L3, vs, _, rfl, rfl, e, lz, q⟩
      · obtain ⟨_, _, _, _, a5⟩ := at_ iv4.sm
        refine ⟨_, rfl, _, rfl, ?_⟩
        cases pl with
        | true => exact iteF (iteF (nx _ (iv4.le (by decide))))
        | false =>
          refine iteT ⟨_, rfl, a, _, 0, _, rfl, rfl, a5, rfl, _, rfl, a, _, 1, _, rfl, rfl, a5, rfl, rfl, _, rfl, ite2 (fun hc => ?_) (fun _ => nx _ (iv4.le (by decide)))⟩
          have exy : x = y := by simpa using hc
          obtain ⟨us, eL, u1, u2, gu⟩ := id iv4.ex
          refine ⟨_, rfl, .inl ⟨rfl, _, SqL.of (hid_sub _ _ eL)⟩, _, rfl, a, _, 0, _, rfl, rfl, a5, rfl, szl (by show 2 ≤ 1000; decide), fun T hT => ?_⟩
          have nT := new_h (.tup [V.str "other", V.str x]) iv4.src hT
          obtain ⟨vs, e, lz, q⟩ := LfI.app n1 n2 hL3n iv4 nT.src nT.sm (T := T) ⟨.leaf "other" [x], SqT.of nT.at_, by rw [← exy]; exact .other hx, by show 1 ≤ 2; decide⟩ (by decide) (Q := _) fun _ _ _ i => nx _ i
          exact ⟨L3, vs, _, rfl, rfl, e, lz, q⟩
    · obtain ⟨_, _, _, _, a5⟩ := at_ iv3.sm
      refine ⟨_, rfl, a, _, 0, _, rfl, rfl, a5, rfl, _, rfl, a, _, 1, _, rfl, rfl, a5, rfl, rfl, _, rfl, ite2 (fun hc => ?_) (fun _ => nx _ (iv3.le (by decide)))⟩
      have exy : x = y := by simpa using hc
      obtain ⟨us, eL, u1, u2, gu⟩ := id iv3.ex
      refine ⟨_, rfl, .inl ⟨rfl, _, SqL.of (hid_sub _ _ eL)⟩, _, rfl, a, _, 0, _, rfl, rfl, a5, rfl, szl (by show 2 ≤ 1000; decide), fun T hT => ?_⟩
      have nT := new_h (.tup [V.str "same", V.str x]) iv3.src hT
      obtain ⟨vs, e, lz, q⟩ := LfI.app n1 n2 hL3n iv3 nT.src nT.sm (T := T) ⟨.leaf "same" [x], SqT.of nT.at_, by rw [← exy]; exact .same hx, by show 1 ≤ 2; decide⟩ (by decide) (Q := _) fun _ _ _ i => nx _ i
      exact ⟨L3, vs, _, rfl, rfl, e, lz, q⟩
end
end K24

namespace K24
open PySem PySem.Spec PyProof.Rows L2 Ow
abbrev NFl : List Str := ["_law_source_here", "_law_frame_here", "_law_ends", "_law_room", "_law_pick_here", "_law_half", "_law_one"]
theorem scFl : FnScope NFl ["_law_source_here", "_law_frame_here", "_law_ends", "_law_room"] (defScope sLawFlat) := ⟨rfl, rfl, rfl, by decide +kernel, rfl, by decide +kernel, by decide +kernel⟩
/-- the parts of a term drawn with so much room -/
def szR (n : Nat) : Nat := 3 * n - 1
def spFl (K : PySem.W.Frag) (N : Nat) : Sp := fun vs H Q _ => ∃ (d c e a : Addr) (n : Nat) (xs : List Str) (ls : List Lt) (x y : Str), vs = [.ref d, .ref e, .ref a, .int (n : Int)] ∧ 1 ≤ n ∧ n ≤ N ∧ n ≤ 20 ∧ SrcAt H d c ∧ FrAt K (hid d c H) e xs ls ∧ SqT K (hid d c H) a [.str x, .str y] ∧ x ∈ xs ∧ y ∈ xs ∧
  ∀ (u : Addr) (H' : Hp), SrcAt H' d c → Same (hid d c H) (hid d c H') → Good K xs ls x y (szR n) (hid d c H') u → Q (.ref u) H'
theorem Good.le {K : PySem.W.Frag} {xs : List Str} {ls : List Lt} {x y : Str} {n m : Nat} {H : Hp} {u : Addr} (h : Good K xs ls x y n H u) (l : n ≤ m) : Good K xs ls x y m H u := let ⟨t, a, b, c⟩ := h; ⟨t, a, b, Nat.le_trans c l⟩
theorem seq_asg {t : TE} {i : Nat} {u : TS} {D : Ends} {σ : L2.St} {H : Hp} (I : V → Hp → Prop) (hu : ∀ v H', I v H' → u D (σ.set i (some v)) H') (h : ∀ Q : VK, (∀ v H', I v H' → Q v H') → t σ H Q) : tSeq (tAsg t (gName i)) u D σ H := h _ hu
section
variable {P : Program} {w : World} {K : PySem.W.Frag} {mg : Str → Option Value} {base : Heap} {f : Addr} {fd : FuncData}
/-- one level: the def's own calls keep the promise for less room -/
theorem fl_step {N k : Nat} (F : FnP K "_law_flat" sLawFlat (He.ga K "_law_flat") fd) (Y : Fx w K mg) (G0 : FnOk P w K mg base CX0 k (He.ga K "_law_flat") fd ["_law_source_here", "_law_frame_here", "_law_ends", "_law_room"] (spFl K N)) (hk : 2 ≤ k) :
    FnOk P w K mg base CX0 (k + 1) (He.ga K "_law_flat") fd ["_law_source_here", "_law_frame_here", "_law_ends", "_law_room"] (spFl K (N + 1)) := by
  obtain ⟨d1, F1⟩ := Y.dLawPick
  obtain ⟨d2, F2⟩ := Y.dLawLeaf
  have b0 := FunD.bindsN (ps := ["_law_source_here", "_law_frame_here", "_law_ends", "_law_room"]) F fun _ _ _ _ _ _ us hl => match us, hl with | [_, _, _, _], _ => rfl
  have b1 := FunD.bindsN (ps := ["_law_source_here", "_law_many"]) F1 fun _ _ _ _ _ _ us hl => match us, hl with | [_, _], _ => rfl
  have b2 := FunD.bindsN (ps := ["_law_source_here", "_law_frame_here", "_law_ends", "_law_plain"]) F2 fun _ _ _ _ _ _ us hl => match us, hl with | [_, _, _, _], _ => rfl
  have G1 : FnOk P w K mg base CX0 1 _ d1 ["_law_source_here", "_law_many"] spPick := ok_pick F1 Y.bl
  have G2 : FnOk P w K mg base CX0 2 _ d2 ["_law_source_here", "_law_frame_here", "_law_ends", "_law_plain"] (spLf K) := ok_lf F2 Y
  refine okD F scFl (fun vs H Q E h => ?_) (fun cdv A outer s H vs Q E hr h => ?_)
  · obtain ⟨d, c, e, a, n, xs, ls, x, y, rfl, _⟩ := h
    rfl
  · have nd := scFl.nd
    have hu := hu_of hr
    have hr1 : Room 1 _ := hr.mono (by omega)
    have hr2 : Room 2 _ := hr.mono hk
    refine ⟨_, pss_cons (ps_set (i := 4) nd rfl (Or.inl rfl) (pe_ifExp (pt_cmpR op_gt (pv 3) pe_int (nomark _)) (pe_call G1 hr1 (by rfl) Y.gLawPick F1.kp b1 .nil pass0 (pa_cons (pv 0) (pa_cons pe_int pa_nil))) pe_int))
      (pss_cons (ps_if (pt_cmpR op_lt (pv 4) pe_int (nomark _)) (pss_one (ps_ret (pe_call G2 hr2 (by rfl) Y.gLawLeaf F2.kp b2 .nil pass0 (pa_cons (pv 0) (pa_cons (pv 1) (pa_cons (pv 2) (pa_cons pe_bl pa_nil))))))) pss_nil)
      (pss_cons (ps_if (pt_cmpR op_eq (pv 4) pe_int (nomark _)) (pss_one (ps_ret (pe_tup (pa_cons pe_str (pa_cons (pe_call G0 hr (by rfl) Y.gLawFlat F.kp b0 .nil pass0 (pa_cons (pv 0) (pa_cons (pv 1) (pa_cons (pv 2) (pa_cons (pe_op op_sub (pv 3) pe_int) pa_nil))))) pa_nil))))) pss_nil)
      (pss_cons (ps_if (pt_cmpR op_eq (pv 4) pe_int (nomark _)) (pss_one (ps_ret (pe_tup (pa_cons pe_str (pa_cons (pe_call G0 hr (by rfl) Y.gLawFlat F.kp b0 .nil pass0 (pa_cons (pv 0) (pa_cons (pv 1) (pa_cons (pe_rev (pv 2) (pe_un un_neg pe_int)) (pa_cons (pe_op op_sub (pv 3) pe_int) pa_nil))))) pa_nil))))) pss_nil)
      (pss_cons (ps_set (i := 5) nd rfl (Or.inl rfl) (pe_op op_fdiv (pv 3) pe_int))
      (pss_cons (ps_set (i := 6) nd rfl (Or.inl rfl) (pe_call G0 hr (by rfl) Y.gLawFlat F.kp b0 .nil pass0 (pa_cons (pv 0) (pa_cons (pv 1) (pa_cons (pv 2) (pa_cons (pv 5) pa_nil))))))
      (pss_one (ps_ret (pe_tup (pa_cons (pe_ix ix_list (pe_lst (pa_cons pe_str (pa_cons pe_str pa_nil))) (pe_op op_mod (pe_callTy call_int1 (by rfl) Y.bInt boot_int (pa_cons (pv 4) pa_nil)) pe_int) (fun _ _ => rfl)) (pa_cons (pv 6) (pa_cons (pe_call G0 hr (by rfl) Y.gLawFlat F.kp b0 .nil pass0 (pa_cons (pv 0) (pa_cons (pv 1) (pa_cons (pv 2) (pa_cons (pv 5) pa_nil))))) pa_nil))))))))))), ?_⟩
    obtain ⟨d, c, e, a, n, xs, ls, x, y, rfl, n1, nN, n20, src, fr, ha, hx, hy, k⟩ := h
    refine seq_asg (fun v G => ∃ r : Int, v = .int r ∧ 0 ≤ r ∧ r < 6 ∧ (2 ≤ r → 2 ≤ n) ∧ SrcAt G d c ∧ hid d c G = hid d c H) ?_ fun Q hQ => ?_
    · rintro v G ⟨r, rfl, r0, r6, hn, src1, eh⟩
      rw [← eh] at fr ha
      have k' : ∀ (u : Addr) (H' : Hp), SrcAt H' d c → Same (hid d c G) (hid d c H') → Good K xs ls x y (szR n) (hid d c H') u → Q (.ref u) H' := by rw [eh]; exact k
      clear k eh src
      refine ⟨_, rfl, _, _, rfl, rfl, _, rfl, ite2 (fun hc => ?_) (fun hc => ?_)⟩
      · exact ⟨_, rfl, _, rfl, _, rfl, d, c, e, a, false, xs, ls, x, y, rfl, src1, fr, ha, hx, hy, fun u H' s1 s2 g => k' u H' s1 s2 (g.le (by unfold szR; omega))⟩
      have r2 : 2 ≤ r := by simpa using hc
      have n2 := hn r2
      refine ⟨_, rfl, rfl, _, rfl, ite2 (fun hc => ?_) (fun hc => ?_)⟩
      · refine ⟨_, rfl, _, rfl, _, rfl, _, rfl, _, _, rfl, rfl, d, c, e, a, n - 1, xs, ls, x, y, by rw [show ((n - 1 : Nat) : Int) = (n : Int) - 1 by omega]; rfl, by omega, by omega, by omega, src1, fr, ha, hx, hy, fun u H' s1 sm g => ⟨szl (by show 2 ≤ 1000; decide), fun T hT => ?_⟩⟩
        obtain ⟨t, h1, h2, h3⟩ := g
        have nT := new_h (.tup [V.str "rest", V.ref u]) s1 hT
        exact k' T _ nT.src (sm.trans nT.sm) ⟨.one "rest" t, ⟨u, SqT.of nT.at_, h1.same nT.sm⟩, .rest h2, by unfold szR at h3 ⊢; show 1 + t.sz ≤ _; omega⟩
      refine ⟨_, rfl, rfl, _, rfl, ite2 (fun hc2 => ?_) (fun hc2 => ?_)⟩
      · refine ⟨_, rfl, _, rfl, _, rfl, _, rfl, rfl, a, _, rfl, .inr ⟨sqt_same hid_sub ha, fun p hp => ?_⟩⟩
        have np := new_h (.tup [V.str y, V.str x]) src1 hp
        refine ⟨_, rfl, _, _, rfl, rfl, d, c, e, p, n - 1, xs, ls, y, x, by rw [show ((n - 1 : Nat) : Int) = (n : Int) - 1 by omega]; rfl, by omega, by omega, by omega, np.src, fr.same np.sm, SqT.of np.at_, hy, hx, fun u H' s1 sm g => ⟨szl (by show 2 ≤ 1000; decide), fun T hT => ?_⟩⟩
        obtain ⟨t, h1, h2, h3⟩ := g
        have nT := new_h (.tup [V.str "turned", V.ref u]) s1 hT
        exact k' T _ nT.src (np.sm.trans (sm.trans nT.sm)) ⟨.one "turned" t, ⟨u, SqT.of nT.at_, h1.same nT.sm⟩, .turned h2, by unfold szR at h3 ⊢; show 1 + t.sz ≤ _; omega⟩
      have r45 : r = 4 ∨ r = 5 := by
        have z1 : r ≠ 2 := fun z => hc (by rw [z]; rfl)
        have z2 : r ≠ 3 := fun z => hc2 (by rw [z]; rfl)
        omega
      refine ⟨_, rfl, _, _, rfl, rfl, ⟨by decide, by decide⟩, ?_⟩
      have eh2 : (n : Int) / 2 = ((n / 2 : Nat) : Int) := by omega
      refine ⟨_, rfl, _, rfl, _, rfl, _, rfl, d, c, e, a, n / 2, xs, ls, x, y, by rw [← eh2]; rfl, by omega, by omega, by omega, src1, fr, ha, hx, hy, fun u1 G1 s1 sm1 g1 => ?_⟩
      refine ⟨szl (by show 2 ≤ 1000; decide), fun l hl => ?_⟩
      have nl := new_h (.lst [V.str "joined", V.str "cut"]) s1 hl
      obtain ⟨t1, a1, a2, a3⟩ := g1
      rcases r45 with rfl | rfl
      · refine ⟨_, rfl, .inl ⟨_, rfl, _, _, rfl, rfl, (show (0 : Int) < 2 by decide), l, _, _, .str "joined", rfl, rfl, SqL.of upd_same, rfl, ?_⟩⟩
        refine ⟨_, rfl, _, rfl, _, rfl, _, rfl, _, rfl, d, c, e, a, n / 2, xs, ls, x, y, by rw [← eh2]; rfl, by omega, by omega, by omega, nl.src, fr.same (sm1.trans nl.sm), sqt_same (sm1.trans nl.sm) ha, hx, hy, fun u2 G2 s2 sm2 g2 => ⟨szl (by show 3 ≤ 1000; decide), fun T hT => ?_⟩⟩
        obtain ⟨t2, c1, c2, c3⟩ := g2
        have nT := new_h (.tup [V.str "joined", V.ref u1, V.ref u2]) s2 hT
        exact k' T _ nT.src (sm1.trans (nl.sm.trans (sm2.trans nT.sm))) ⟨.two "joined" t1 t2, ⟨u1, u2, SqT.of nT.at_, a1.same (nl.sm.trans (sm2.trans nT.sm)), c1.same nT.sm⟩, .joined a2 c2, by unfold szR at a3 c3 ⊢; show 1 + t1.sz + t2.sz ≤ _; omega⟩
      · refine ⟨_, rfl, .inl ⟨_, rfl, _, _, rfl, rfl, (show (0 : Int) < 2 by decide), l, _, _, .str "cut", rfl, rfl, SqL.of upd_same, rfl, ?_⟩⟩
        refine ⟨_, rfl, _, rfl, _, rfl, _, rfl, _, rfl, d, c, e, a, n / 2, xs, ls, x, y, by rw [← eh2]; rfl, by omega, by omega, by omega, nl.src, fr.same (sm1.trans nl.sm), sqt_same (sm1.trans nl.sm) ha, hx, hy, fun u2 G2 s2 sm2 g2 => ⟨szl (by show 3 ≤ 1000; decide), fun T hT => ?_⟩⟩
        obtain ⟨t2, c1, c2, c3⟩ := g2
        have nT := new_h (.tup [V.str "cut", V.ref u1, V.ref u2]) s2 hT
        exact k' T _ nT.src (sm1.trans (nl.sm.trans (sm2.trans nT.sm))) ⟨.two "cut" t1 t2, ⟨u1, u2, SqT.of nT.at_, a1.same (nl.sm.trans (sm2.trans nT.sm)), c1.same nT.sm⟩, .cut a2 c2, by unfold szR at a3 c3 ⊢; show 1 + t1.sz + t2.sz ≤ _; omega⟩
    · refine ⟨_, rfl, _, _, rfl, rfl, _, rfl, ite2 (fun hc => ?_) (fun hc => ?_)⟩
      · have n2 : 1 < (n : Int) := of_decide_eq_true hc
        exact ⟨_, rfl, d, c, 6, rfl, src, by decide, by decide, fun r G r0 r1 src1 keep => hQ _ _ ⟨r, rfl, r0, r1, fun _ => by omega, src1, hid_pick keep⟩⟩
      · exact hQ _ _ ⟨0, rfl, by decide, by decide, fun z => absurd z (by decide), src, rfl⟩
theorem fl_none {fd : FuncData} : FnOk P w K mg base CX0 2 (He.ga K "_law_flat") fd ["_law_source_here", "_law_frame_here", "_law_ends", "_law_room"] (spFl K 0) := by
  refine ⟨fun vs H Q E h => ?_, fun A outer s H args us vs Q E hr e0 bt r h => ?_⟩
  · obtain ⟨_, _, _, _, n, _, _, _, _, _, h1, h2, _⟩ := h
    omega
  · obtain ⟨_, _, _, _, n, _, _, _, _, _, h1, h2, _⟩ := h
    omega
/-- the def with so much room -/
theorem ok_fl (F : FnP K "_law_flat" sLawFlat (He.ga K "_law_flat") fd) (Y : Fx w K mg) : ∀ N, FnOk P w K mg base CX0 (N + 2) (He.ga K "_law_flat") fd ["_law_source_here", "_law_frame_here", "_law_ends", "_law_room"] (spFl K N)
  | 0 => fl_none
  | N + 1 => fl_step F Y (ok_fl F Y N) (by omega)
end
end K24

namespace K24
open PySem PySem.Spec PyProof.Rows L2 Ow
abbrev NTm : List Str := ["_law_source_here", "_law_frame_here", "_law_ends", "_law_room", "_law_kind", "_law_pick_here", "_law_plain", "_law_half", "_law_one", "_law_middle"]
abbrev PTm : List Str := ["_law_source_here", "_law_frame_here", "_law_ends", "_law_room", "_law_kind"]
theorem scTm : FnScope NTm PTm (defScope sLawTerm) := ⟨rfl, rfl, rfl, by decide +kernel, rfl, by decide +kernel, by decide +kernel⟩
def spTm (K : PySem.W.Frag) (N : Nat) : Sp := fun vs H Q _ => ∃ (d c e a : Addr) (n : Nat) (kd : Str) (xs : List Str) (ls : List Lt) (x y : Str), vs = [.ref d, .ref e, .ref a, .int (n : Int), .str kd] ∧ 1 ≤ n ∧ n ≤ N ∧ n ≤ 20 ∧ SrcAt H d c ∧ FrAt K (hid d c H) e xs ls ∧ SqT K (hid d c H) a [.str x, .str y] ∧ x ∈ xs ∧ y ∈ xs ∧
  ∀ (u : Addr) (H' : Hp), SrcAt H' d c → Same (hid d c H) (hid d c H') → Good K xs ls x y (szR n) (hid d c H') u → Q (.ref u) H'
section
variable {P : Program} {w : World} {K : PySem.W.Frag} {mg : Str → Option Value} {base : Heap} {f : Addr} {fd : FuncData}
/-- one level: the def's own calls keep the promise for less room -/
theorem tm_step {N k : Nat} (F : FnP K "_law_term" sLawTerm (He.ga K "_law_term") fd) (Y : Fx w K mg) (G0 : FnOk P w K mg base CX0 k (He.ga K "_law_term") fd PTm (spTm K N)) (hk : 22 ≤ k) :
    FnOk P w K mg base CX0 (k + 1) (He.ga K "_law_term") fd PTm (spTm K (N + 1)) := by
  obtain ⟨d1, F1⟩ := Y.dLawPick
  obtain ⟨d2, F2⟩ := Y.dLawLeaf
  obtain ⟨d3, F3⟩ := Y.dLawFlat
  have b0 := FunD.bindsN (ps := PTm) F fun _ _ _ _ _ _ us hl => match us, hl with | [_, _, _, _, _], _ => rfl
  have b1 := FunD.bindsN (ps := ["_law_source_here", "_law_many"]) F1 fun _ _ _ _ _ _ us hl => match us, hl with | [_, _], _ => rfl
  have b2 := FunD.bindsN (ps := ["_law_source_here", "_law_frame_here", "_law_ends", "_law_plain"]) F2 fun _ _ _ _ _ _ us hl => match us, hl with | [_, _, _, _], _ => rfl
  have b3 := FunD.bindsN (ps := ["_law_source_here", "_law_frame_here", "_law_ends", "_law_room"]) F3 fun _ _ _ _ _ _ us hl => match us, hl with | [_, _, _, _], _ => rfl
  have G1 : FnOk P w K mg base CX0 1 _ d1 ["_law_source_here", "_law_many"] spPick := ok_pick F1 Y.bl
  have G2 : FnOk P w K mg base CX0 2 _ d2 ["_law_source_here", "_law_frame_here", "_law_ends", "_law_plain"] (spLf K) := ok_lf F2 Y
  have G3 : FnOk P w K mg base CX0 22 _ d3 ["_law_source_here", "_law_frame_here", "_law_ends", "_law_room"] (spFl K 20) := ok_fl F3 Y 20
  refine okD F scTm (fun vs H Q E h => ?_) (fun cdv A outer s H vs Q E hr h => ?_)
  · obtain ⟨d, c, e, a, n, kd, xs, ls, x, y, rfl, _⟩ := h
    rfl
  · have nd := scTm.nd
    have hu := hu_of hr
    have hr1 : Room 1 _ := hr.mono (by omega)
    have hr2 : Room 2 _ := hr.mono (by omega)
    have hr3 : Room 22 _ := hr.mono hk
    refine ⟨_, pss_cons (ps_set (i := 5) nd rfl (Or.inl rfl) (pe_ifExp (pt_cmpR op_gt (pv 3) pe_int (nomark _)) (pe_call G1 hr1 (by rfl) Y.gLawPick F1.kp b1 .nil pass0 (pa_cons (pv 0) (pa_cons pe_int pa_nil))) pe_int))
      (pss_cons (ps_par (i := 6) (j := 7) (by rfl) nd rfl rfl (by decide) rfl rfl (pa_cons (pe_cmpR op_eq (pv 4) pe_str (nomark _)) (pa_cons (pe_op op_fdiv (pv 3) pe_int) pa_nil)) (by rfl))
      (pss_cons (ps_if (pt_cmpR op_lt (pv 5) pe_int (nomark _)) (pss_one (ps_ret (pe_call G2 hr2 (by rfl) Y.gLawLeaf F2.kp b2 .nil pass0 (pa_cons (pv 0) (pa_cons (pv 1) (pa_cons (pv 2) (pa_cons (pv 6) pa_nil))))))) pss_nil)
      (pss_cons (ps_if (pt_cmpR op_eq (pv 5) pe_int (nomark _)) (pss_one (ps_ret (pe_ifExp (pt_val (pv 6)) (pe_call G2 hr2 (by rfl) Y.gLawLeaf F2.kp b2 .nil pass0 (pa_cons (pv 0) (pa_cons (pv 1) (pa_cons (pv 2) (pa_cons pe_bl pa_nil)))))
          (pe_call G3 hr3 (by rfl) Y.gLawFlat F3.kp b3 .nil pass0 (pa_cons (pv 0) (pa_cons (pv 1) (pa_cons (pv 2) (pa_cons (pv 3) pa_nil)))))))) pss_nil)
      (pss_cons (ps_if (pt_cmpR op_eq (pv 5) pe_int (nomark _)) (pss_one (ps_ret (pe_tup (pa_cons pe_str (pa_cons (pe_call G0 hr (by rfl) Y.gLawTerm F.kp b0 .nil pass0 (pa_cons (pv 0) (pa_cons (pv 1) (pa_cons (pe_rev (pv 2) (pe_un un_neg pe_int)) (pa_cons (pe_op op_sub (pv 3) pe_int) (pa_cons (pv 4) pa_nil)))))) pa_nil))))) pss_nil)
      (pss_cons (ps_if (pt_cmpR op_in_seq (pv 5) (pe_lst (pa_cons pe_int (pa_cons pe_int pa_nil))) (by rfl))
          (pss_cons (ps_set (i := 8) nd rfl (Or.inl rfl) (pe_call G0 hr (by rfl) Y.gLawTerm F.kp b0 .nil pass0 (pa_cons (pv 0) (pa_cons (pv 1) (pa_cons (pv 2) (pa_cons (pv 7) (pa_cons (pv 4) pa_nil)))))))
          (pss_one (ps_ret (pe_tup (pa_cons (pe_ix ix_list (pe_lst (pa_cons pe_str (pa_cons pe_str pa_nil))) (pe_op op_mod (pe_callTy call_int1 (by rfl) Y.bInt boot_int (pa_cons (pv 5) pa_nil)) pe_int) (fun _ _ => rfl)) (pa_cons (pv 8) (pa_cons (pe_call G0 hr (by rfl) Y.gLawTerm F.kp b0 .nil pass0 (pa_cons (pv 0) (pa_cons (pv 1) (pa_cons (pv 2) (pa_cons (pv 7) (pa_cons (pv 4) pa_nil)))))) pa_nil))))))) pss_nil)
      (pss_cons (ps_if (pw_and (pt_cmpR op_eq (pv 5) pe_int (nomark _)) (pw_and (pt_cmpR op_eq (pe_ix ix_tup (pv 2) pe_int (fun _ _ => rfl)) (pe_ix ix_tup (pv 2) pe_int (fun _ _ => rfl)) (nomark _)) (pw_and1 (pt_cmpR op_in_seq (pv 4) (pe_lst (pa_cons pe_str (pa_cons pe_str pa_nil))) (by rfl))))).pt
          (pss_one (ps_ret (pe_tup (pa_cons (pe_ix ix_list (pe_lst (pa_cons pe_str (pa_cons pe_str pa_nil))) (pe_call G1 hr1 (by rfl) Y.gLawPick F1.kp b1 .nil pass0 (pa_cons (pv 0) (pa_cons pe_int pa_nil))) (fun _ _ => rfl)) (pa_cons (pe_call G0 hr (by rfl) Y.gLawTerm F.kp b0 .nil pass0 (pa_cons (pv 0) (pa_cons (pv 1) (pa_cons (pv 2) (pa_cons (pv 7) (pa_cons (pv 4) pa_nil)))))) pa_nil))))) pss_nil)
      (pss_cons (ps_if (pw_and (pt_cmpR op_eq (pv 5) pe_int (nomark _)) (pw_and1 (pt_cmpR op_eq (pv 4) pe_str (nomark _)))).pt
          (pss_one (ps_ret (pe_tup (pa_cons pe_str (pa_cons (pe_call G0 hr (by rfl) Y.gLawTerm F.kp b0 .nil pass0 (pa_cons (pv 0) (pa_cons (pv 1) (pa_cons (pv 2) (pa_cons (pe_op op_sub (pv 3) pe_int) (pa_cons (pv 4) pa_nil)))))) pa_nil))))) pss_nil)
      (pss_cons (ps_set (i := 9) nd rfl (Or.inl rfl) (pe_ix ix_list (pe_dget hu (pv 1) pe_str nosl) (pe_call G1 hr1 (by rfl) Y.gLawPick F1.kp b1 .nil pass0 (pa_cons (pv 0) (pa_cons (pe_callB call_len_seq (by rfl) Y.bLen PySem.boot_len (pa_cons (pe_dget hu (pv 1) pe_str nosl) pa_nil)) pa_nil))) (fun _ _ => rfl)))
      (pss_cons (ps_set (i := 8) nd rfl (Or.inl rfl) (pe_call G0 hr (by rfl) Y.gLawTerm F.kp b0 .nil pass0 (pa_cons (pv 0) (pa_cons (pv 1) (pa_cons (pe_tup (pa_cons (pe_ix ix_tup (pv 2) pe_int (fun _ _ => rfl)) (pa_cons (pv 9) pa_nil))) (pa_cons (pv 7) (pa_cons (pv 4) pa_nil)))))))
      (pss_one (ps_ret (pe_tup (pa_cons pe_str (pa_cons (pv 8) (pa_cons (pe_call G0 hr (by rfl) Y.gLawTerm F.kp b0 .nil pass0 (pa_cons (pv 0) (pa_cons (pv 1) (pa_cons (pe_tup (pa_cons (pv 9) (pa_cons (pe_ix ix_tup (pv 2) pe_int (fun _ _ => rfl)) pa_nil))) (pa_cons (pv 7) (pa_cons (pv 4) pa_nil)))))) pa_nil)))))))))))))))  , ?_⟩
    obtain ⟨d, c, e, a, n, kd, xs, ls, x, y, rfl, n1, nN, n20, src, fr, ha, hx, hy, k⟩ := h
    refine seq_asg (fun v G => ∃ r : Int, v = .int r ∧ 0 ≤ r ∧ r < 9 ∧ (2 ≤ r → 2 ≤ n) ∧ SrcAt G d c ∧ hid d c G = hid d c H) ?_ fun Q hQ => ?_
    · rintro v G ⟨r, rfl, r0, r9, hn, src1, eh⟩
      rw [← eh] at fr ha
      have k' : ∀ (u : Addr) (H' : Hp), SrcAt H' d c → Same (hid d c G) (hid d c H') → Good K xs ls x y (szR n) (hid d c H') u → Q (.ref u) H' := by rw [eh]; exact k
      clear k eh src
      have eh2 : (n : Int) / 2 = ((n / 2 : Nat) : Int) := by omega
      have haG := sqt_same hid_sub ha
      refine ⟨_, rfl, rfl, _, rfl, _, _, rfl, rfl, ⟨by decide, by decide⟩, _, _, rfl, ?_⟩
      dsimp only
      change tSeq (tIfS _ _ _) _ _ [some (.ref d), some (.ref e), some (.ref a), some (.int (n : Int)), some (.str kd), some (.int r), some (.bl (decide (V.str kd = V.str "plain"))), some (.int ((n : Int) / 2)), none, none] G
      rw [eh2]
      refine ⟨_, rfl, _, _, rfl, rfl, _, rfl, ite2 (fun hc => ?_) (fun hc => ?_)⟩
      · exact ⟨_, rfl, _, rfl, _, rfl, _, rfl, d, c, e, a, _, xs, ls, x, y, rfl, src1, fr, ha, hx, hy, fun u H' s1 s2 g => k' u H' s1 s2 (g.le (by unfold szR; omega))⟩
      have r2 : 2 ≤ r := by simpa using hc
      have n2 := hn r2
      clear hn
      refine ⟨_, rfl, rfl, _, rfl, ite2 (fun hc => ?_) (fun hc1 => ?_)⟩
      · refine ⟨_, rfl, _, rfl, ite2 (fun _ => ?_) (fun _ => ?_)⟩
        · exact ⟨_, rfl, _, rfl, _, rfl, d, c, e, a, true, xs, ls, x, y, rfl, src1, fr, ha, hx, hy, fun u H' s1 s2 g => k' u H' s1 s2 (g.le (by unfold szR; omega))⟩
        · exact ⟨_, rfl, _, rfl, _, rfl, _, rfl, d, c, e, a, n, xs, ls, x, y, rfl, n1, n20, n20, src1, fr, ha, hx, hy, fun u H' s1 s2 g => k' u H' s1 s2 g⟩
      refine ⟨_, rfl, rfl, _, rfl, ite2 (fun _ => ?_) (fun hc2 => ?_)⟩
      · refine ⟨_, rfl, _, rfl, _, rfl, _, rfl, rfl, a, _, rfl, .inr ⟨haG, fun p hp => ?_⟩⟩
        have np := new_h (.tup [V.str y, V.str x]) src1 hp
        refine ⟨_, rfl, _, _, rfl, rfl, _, rfl, d, c, e, p, n - 1, kd, xs, ls, y, x, by rw [show ((n - 1 : Nat) : Int) = (n : Int) - 1 by omega]; rfl, by omega, by omega, by omega, np.src, fr.same np.sm, SqT.of np.at_, hy, hx, fun u H' s1 sm g => ⟨szl (by show 2 ≤ 1000; decide), fun T hT => ?_⟩⟩
        obtain ⟨t, h1, h2, h3⟩ := g
        have nT := new_h (.tup [V.str "turned", V.ref u]) s1 hT
        exact k' T _ nT.src (np.sm.trans (sm.trans nT.sm)) ⟨.one "turned" t, ⟨u, SqT.of nT.at_, h1.same nT.sm⟩, .turned h2, by unfold szR at h3 ⊢; show 1 + t.sz ≤ _; omega⟩
      have z1 : r ≠ 2 := fun z => hc1 (by rw [z]; rfl)
      have z2 : r ≠ 3 := fun z => hc2 (by rw [z]; rfl)
      -- r in [4, 5]
      refine ⟨_, rfl, szl (by show 2 ≤ 1000; decide), fun l0 hl0 => ?_⟩
      have nl0 := new_h (.lst [V.int 4, V.int 5]) src1 hl0
      refine ⟨l0, _, rfl, .inl (SqL.of upd_same), rfl, rfl, _, rfl, ite2 (fun hc => ?_) (fun hc3 => ?_)⟩
      · have r45 : r = 4 ∨ r = 5 := by
          have z : inV (V.int r) [V.int 4, V.int 5] = true := by simpa using hc
          simp [inV, eqV] at z
          omega
        refine ⟨_, rfl, _, rfl, _, rfl, _, rfl, _, rfl, d, c, e, a, n / 2, kd, xs, ls, x, y, rfl, by omega, by omega, by omega, nl0.src, fr.same nl0.sm, sqt_same nl0.sm ha, hx, hy, fun u1 G1 s1 sm1 g1 => ?_⟩
        replace sm1 := nl0.sm.trans sm1
        refine ⟨szl (by show 2 ≤ 1000; decide), fun l hl => ?_⟩
        have nl := new_h (.lst [V.str "joined", V.str "cut"]) s1 hl
        obtain ⟨t1, a1, a2, a3⟩ := g1
        rcases r45 with rfl | rfl
        · refine ⟨_, rfl, .inl ⟨_, rfl, _, _, rfl, rfl, (show (0 : Int) < 2 by decide), l, _, _, .str "joined", rfl, rfl, SqL.of upd_same, rfl, ?_⟩⟩
          refine ⟨_, rfl, _, rfl, _, rfl, _, rfl, _, rfl, _, rfl, d, c, e, a, n / 2, kd, xs, ls, x, y, rfl, by omega, by omega, by omega, nl.src, fr.same (sm1.trans nl.sm), sqt_same (sm1.trans nl.sm) ha, hx, hy, fun u2 G2 s2 sm2 g2 => ⟨szl (by show 3 ≤ 1000; decide), fun T hT => ?_⟩⟩
          obtain ⟨t2, c1, c2, c3⟩ := g2
          have nT := new_h (.tup [V.str "joined", V.ref u1, V.ref u2]) s2 hT
          exact k' T _ nT.src (sm1.trans (nl.sm.trans (sm2.trans nT.sm))) ⟨.two "joined" t1 t2, ⟨u1, u2, SqT.of nT.at_, a1.same (nl.sm.trans (sm2.trans nT.sm)), c1.same nT.sm⟩, .joined a2 c2, by unfold szR at a3 c3 ⊢; show 1 + t1.sz + t2.sz ≤ _; omega⟩
        · refine ⟨_, rfl, .inl ⟨_, rfl, _, _, rfl, rfl, (show (0 : Int) < 2 by decide), l, _, _, .str "cut", rfl, rfl, SqL.of upd_same, rfl, ?_⟩⟩
          refine ⟨_, rfl, _, rfl, _, rfl, _, rfl, _, rfl, _, rfl, d, c, e, a, n / 2, kd, xs, ls, x, y, rfl, by omega, by omega, by omega, nl.src, fr.same (sm1.trans nl.sm), sqt_same (sm1.trans nl.sm) ha, hx, hy, fun u2 G2 s2 sm2 g2 => ⟨szl (by show 3 ≤ 1000; decide), fun T hT => ?_⟩⟩
          obtain ⟨t2, c1, c2, c3⟩ := g2
          have nT := new_h (.tup [V.str "cut", V.ref u1, V.ref u2]) s2 hT
          exact k' T _ nT.src (sm1.trans (nl.sm.trans (sm2.trans nT.sm))) ⟨.two "cut" t1 t2, ⟨u1, u2, SqT.of nT.at_, a1.same (nl.sm.trans (sm2.trans nT.sm)), c1.same nT.sm⟩, .cut a2 c2, by unfold szR at a3 c3 ⊢; show 1 + t1.sz + t2.sz ≤ _; omega⟩
      have src2 := nl0.src
      have sm2 := nl0.sm
      obtain ⟨G2, eg⟩ : ∃ Z, Z = upd G l0 (.lst [V.int 4, V.int 5]) := ⟨_, rfl⟩
      dsimp only [tNext]
      change tSeq (tIfS _ _ _) _ _ [some (.ref d), some (.ref e), some (.ref a), some (.int (n : Int)), some (.str kd), some (.int r), some (.bl (decide (V.str kd = V.str "plain"))), some (.int ((n / 2 : Nat) : Int)), none, none] (upd G l0 (.lst [V.int 4, V.int 5]))
      rw [← eg] at src2 sm2 ⊢
      clear eg nl0 hc3
      refine seq_if (fun G' => SrcAt G' d c ∧ Same (hid d c G) (hid d c G')) (fun G3 ⟨src3, sm3⟩ => ?_) (fun nx => ?_)
      · refine seq_if (fun G' => SrcAt G' d c ∧ Same (hid d c G) (hid d c G')) (fun G4 ⟨src4, sm4⟩ => ?_) (fun nx => ?_)
        · -- then
          obtain ⟨s, m, o, gs, _, _, es, _, _⟩ := fr.fr
          have gs4 := dget_mono hid_sub (dget_mono sm4 gs)
          have es4 := hid_sub _ _ (sm4 _ _ es)
          have x16 := fr.ok.nx.n
          have x1 : 1 ≤ xs.length := by
            cases xs with
            | nil => exact absurd hx List.not_mem_nil
            | cons _ _ => exact Nat.succ_pos _
          refine ⟨_, rfl, e, .ref s, rfl, gs4, _, rfl, _, rfl, e, .ref s, rfl, gs4, s, _, rfl, .inl (SqL.of es4), ?_⟩
          rw [List.length_map]
          refine ⟨d, c, (xs.length : Int), rfl, src4, by omega, by omega, fun r2 G5 r0 r1 src5 keep => ?_⟩
          obtain ⟨j, rfl⟩ : ∃ j : Nat, r2 = (j : Int) := ⟨r2.toNat, by omega⟩
          have lj : j < xs.length := by omega
          have eh5 : hid d c G5 = hid d c G4 := hid_pick keep
          have sm5 : Same (hid d c G) (hid d c G5) := by rw [eh5]; exact sm4
          refine ⟨s, _, _, _, rfl, rfl, SqL.of (hid_sub _ _ (sm5 _ _ es)), str_ix lj, ?_⟩
          obtain ⟨mid, em⟩ : ∃ mid, mid = xs[j] := ⟨_, rfl⟩
          have hm : mid ∈ xs := em ▸ List.getElem_mem lj
          rw [← em]
          dsimp only [gName]
          change tSeq (tAsg _ _) _ _ [some (.ref d), some (.ref e), some (.ref a), some (.int (n : Int)), some (.str kd), some (.int r), some (.bl (decide (V.str kd = V.str "plain"))), some (.int ((n / 2 : Nat) : Int)), none, some (.str mid)] G5
          refine ⟨_, rfl, _, rfl, _, rfl, a, _, 0, _, rfl, rfl, sqt_same hid_sub (sqt_same sm5 ha), rfl, _, rfl, szl (by show 2 ≤ 1000; decide), fun p hp => ?_⟩
          have np := new_h (.tup [V.str x, V.str mid]) src5 hp
          refine ⟨_, rfl, _, rfl, d, c, e, p, n / 2, kd, xs, ls, x, mid, rfl, by omega, by omega, by omega, np.src, fr.same (sm5.trans np.sm), SqT.of np.at_, hx, hm, fun u1 G6 s6 sm6 g1 => ?_⟩
          obtain ⟨t1, a1, a2, a3⟩ := g1
          have sm7 := sm5.trans (np.sm.trans sm6)
          refine ⟨_, rfl, _, rfl, _, rfl, _, rfl, _, rfl, a, _, 1, _, rfl, rfl, sqt_same hid_sub (sqt_same sm7 ha), rfl, szl (by show 2 ≤ 1000; decide), fun p2 hp2 => ?_⟩
          have np2 := new_h (.tup [V.str mid, V.str y]) s6 hp2
          refine ⟨_, rfl, _, rfl, d, c, e, p2, n / 2, kd, xs, ls, mid, y, rfl, by omega, by omega, by omega, np2.src, fr.same (sm7.trans np2.sm), SqT.of np2.at_, hm, hy, fun u2 G8 s8 sm8 g2 => ⟨szl (by show 3 ≤ 1000; decide), fun T hT => ?_⟩⟩
          obtain ⟨t2, c1, c2, c3⟩ := g2
          have nT := new_h (.tup [V.str "then", V.ref u1, V.ref u2]) s8 hT
          exact k' T _ nT.src (sm7.trans (np2.sm.trans (sm8.trans nT.sm))) ⟨.two "then" t1 t2, ⟨u1, u2, SqT.of nT.at_, a1.same (np2.sm.trans (sm8.trans nT.sm)), c1.same nT.sm⟩, .then_ a2 c2, by unfold szR at a3 c3 ⊢; show 1 + t1.sz + t2.sz ≤ _; omega⟩
        · refine ⟨_, rfl, rfl, _, rfl, ite2 (fun _ => ?_) (fun _ => iteF (nx _ ⟨src3, sm3⟩))⟩
          refine ⟨_, rfl, rfl, _, rfl, ite2 (fun _ => ?_) (fun _ => nx _ ⟨src3, sm3⟩)⟩
          refine ⟨_, rfl, _, rfl, _, rfl, _, rfl, _, _, rfl, rfl, _, rfl, d, c, e, a, n - 1, kd, xs, ls, x, y, by rw [show ((n - 1 : Nat) : Int) = (n : Int) - 1 by omega]; rfl, by omega, by omega, by omega, src3, fr.same sm3, sqt_same sm3 ha, hx, hy, fun u H' s1 sm g => ⟨szl (by show 2 ≤ 1000; decide), fun T hT => ?_⟩⟩
          obtain ⟨t, h1, h2, h3⟩ := g
          have nT := new_h (.tup [V.str "rest", V.ref u]) s1 hT
          exact k' T _ nT.src (sm3.trans (sm.trans nT.sm)) ⟨.one "rest" t, ⟨u, SqT.of nT.at_, h1.same nT.sm⟩, .rest h2, by unfold szR at h3 ⊢; show 1 + t.sz ≤ _; omega⟩
      · refine ⟨_, rfl, rfl, _, rfl, ite2 (fun _ => ?_) (fun _ => iteF (nx _ ⟨src2, sm2⟩))⟩
        have ha2 := sqt_same hid_sub (sqt_same sm2 ha)
        refine ⟨_, rfl, a, _, 0, _, rfl, rfl, ha2, rfl, _, rfl, a, _, 1, _, rfl, rfl, ha2, rfl, rfl, _, rfl, ite2 (fun hxy => ?_) (fun _ => iteF (nx _ ⟨src2, sm2⟩))⟩
        have exy : x = y := by simpa using hxy
        refine ⟨_, rfl, szl (by show 2 ≤ 1000; decide), fun l hl => ?_⟩
        have nl := new_h (.lst [V.str "kept", V.str "free"]) src2 hl
        refine ⟨l, _, rfl, .inl (SqL.of upd_same), rfl, rfl, _, rfl, ite2 (fun _ => ?_) (fun _ => nx _ ⟨nl.src, sm2.trans nl.sm⟩)⟩
        have sm3 := sm2.trans nl.sm
        refine ⟨szl (by show 2 ≤ 1000; decide), fun l2 hl2 => ?_⟩
        have nl2 := new_h (.lst [V.str "closed", V.str "walked"]) nl.src hl2
        refine ⟨_, rfl, d, c, 2, rfl, nl2.src, by decide, by decide, fun r2 G5 r0 r1 src5 keep => ?_⟩
        have eh5 := hid_pick keep
        have sm5 : Same (hid d c G) (hid d c G5) := by rw [eh5]; exact sm3.trans nl2.sm
        have el2 : G5 l2 = some (.lst [V.str "closed", V.str "walked"]) := (keep l2 nl2.nd nl2.nc).trans upd_same
        have r01 : r2 = 0 ∨ r2 = 1 := by omega
        rcases r01 with rfl | rfl
        · refine ⟨l2, _, _, .str "closed", rfl, rfl, SqL.of el2, rfl, _, rfl, _, rfl, _, rfl, _, rfl, _, rfl, d, c, e, a, n / 2, kd, xs, ls, x, y, rfl, by omega, by omega, by omega, src5, fr.same sm5, sqt_same sm5 ha, hx, hy, fun u H' s1 sm g => ⟨szl (by show 2 ≤ 1000; decide), fun T hT => ?_⟩⟩
          obtain ⟨t, h1, h2, h3⟩ := g
          have nT := new_h (.tup [V.str "closed", V.ref u]) s1 hT
          exact k' T _ nT.src (sm5.trans (sm.trans nT.sm)) ⟨.one "closed" t, ⟨u, SqT.of nT.at_, h1.same nT.sm⟩, by rw [← exy] at h2 ⊢; exact .closed h2, by unfold szR at h3 ⊢; show 1 + t.sz ≤ _; omega⟩
        · refine ⟨l2, _, _, .str "walked", rfl, rfl, SqL.of el2, rfl, _, rfl, _, rfl, _, rfl, _, rfl, _, rfl, d, c, e, a, n / 2, kd, xs, ls, x, y, rfl, by omega, by omega, by omega, src5, fr.same sm5, sqt_same sm5 ha, hx, hy, fun u H' s1 sm g => ⟨szl (by show 2 ≤ 1000; decide), fun T hT => ?_⟩⟩
          obtain ⟨t, h1, h2, h3⟩ := g
          have nT := new_h (.tup [V.str "walked", V.ref u]) s1 hT
          exact k' T _ nT.src (sm5.trans (sm.trans nT.sm)) ⟨.one "walked" t, ⟨u, SqT.of nT.at_, h1.same nT.sm⟩, by rw [← exy] at h2 ⊢; exact .walked h2, by unfold szR at h3 ⊢; show 1 + t.sz ≤ _; omega⟩
    · refine ⟨_, rfl, _, _, rfl, rfl, _, rfl, ite2 (fun hc => ?_) (fun hc => ?_)⟩
      · have n2 : 1 < (n : Int) := of_decide_eq_true hc
        exact ⟨_, rfl, d, c, 9, rfl, src, by decide, by decide, fun r G r0 r1 src1 keep => hQ _ _ ⟨r, rfl, r0, r1, fun _ => by omega, src1, hid_pick keep⟩⟩
      · exact hQ _ _ ⟨0, rfl, by decide, by decide, fun z => absurd z (by decide), src, rfl⟩
theorem tm_none : FnOk P w K mg base CX0 22 (He.ga K "_law_term") fd PTm (spTm K 0) := by
  refine ⟨fun vs H Q E h => ?_, fun A outer s H args us vs Q E hr e0 bt r h => ?_⟩
  · obtain ⟨_, _, _, _, n, _, _, _, _, _, _, h1, h2, _⟩ := h
    omega
  · obtain ⟨_, _, _, _, n, _, _, _, _, _, _, h1, h2, _⟩ := h
    omega
theorem ok_tm (F : FnP K "_law_term" sLawTerm (He.ga K "_law_term") fd) (Y : Fx w K mg) : ∀ N, FnOk P w K mg base CX0 (22 + N) (He.ga K "_law_term") fd PTm (spTm K N)
  | 0 => tm_none
  | N + 1 => tm_step F Y (ok_tm F Y N) (Nat.le_add_right 22 N)
abbrev NSe : List Str := ["_law_source_here", "_law_frame_here", "_law_pick_here", "_law_ends"]
theorem scSe : FnScope NSe ["_law_source_here", "_law_frame_here"] (defScope sLawSomeEnds) := ⟨rfl, rfl, rfl, by decide +kernel, rfl, by decide +kernel, by decide +kernel⟩
def spSe (K : PySem.W.Frag) : Sp := fun vs H Q _ => ∃ (d c e : Addr) (xs : List Str) (ls : List Lt), vs = [.ref d, .ref e] ∧ SrcAt H d c ∧ FrAt K (hid d c H) e xs ls ∧ 1 ≤ ls.length ∧
  ∀ (u : Addr) (x y : Str) (H' : Hp), SrcAt H' d c → Same (hid d c H) (hid d c H') → SqT K (hid d c H') u [.str x, .str y] → x ∈ xs → y ∈ xs → Q (.ref u) H'
theorem ok_se (F : FnP K "_law_some_ends" sLawSomeEnds f fd) (Y : Fx w K mg) : FnOk P w K mg base CX0 2 f fd ["_law_source_here", "_law_frame_here"] (spSe K) := by
  obtain ⟨d1, F1⟩ := Y.dLawPick
  have b1 := FunD.bindsN (ps := ["_law_source_here", "_law_many"]) F1 fun _ _ _ _ _ _ us hl => match us, hl with | [_, _], _ => rfl
  have G1 : FnOk P w K mg base CX0 1 _ d1 ["_law_source_here", "_law_many"] spPick := ok_pick F1 Y.bl
  refine okD F scSe (fun vs H Q E h => ?_) (fun cdv A outer s H vs Q E hr h => ?_)
  · obtain ⟨d, c, e, xs, ls, rfl, _⟩ := h
    rfl
  · have nd := scSe.nd
    have hu := hu_of hr
    refine ⟨_, pss_cons (ps_set (i := 2) nd rfl (Or.inl rfl) (pe_call G1 hr (by rfl) Y.gLawPick F1.kp b1 .nil pass0 (pa_cons (pv 0) (pa_cons pe_int pa_nil))))
      (pss_cons (ps_set (i := 3) nd rfl (Or.inl rfl) (pe_dget hu (pe_dget hu (pv 1) pe_str nosl) (pe_ix ix_list (pe_dget hu (pv 1) pe_str nosl) (pe_call G1 hr (by rfl) Y.gLawPick F1.kp b1 .nil pass0 (pa_cons (pv 0) (pa_cons (pe_callB call_len_seq (by rfl) Y.bLen PySem.boot_len (pa_cons (pe_dget hu (pv 1) pe_str nosl) pa_nil)) pa_nil))) (fun _ _ => rfl)) nosl))
      (pss_cons (ps_if (pt_cmpR op_eq (pv 2) pe_int (nomark _)) (pss_one (ps_set (i := 3) nd rfl (Or.inl rfl) (pe_rev (pv 3) (pe_un un_neg pe_int)))) pss_nil)
      (pss_cons (ps_if (pt_cmpR op_eq (pv 2) pe_int (nomark _)) (pss_one (ps_set (i := 3) nd rfl (Or.inl rfl) (pe_tup (pa_cons (pe_ix ix_tup (pv 3) pe_int (fun _ _ => rfl)) (pa_cons (pe_ix ix_tup (pv 3) pe_int (fun _ _ => rfl)) pa_nil))))) pss_nil)
      (pss_one (ps_ret (pv 3)))))), ?_⟩
    obtain ⟨d, c, e, xs, ls, rfl, src, fr, l1, k⟩ := h
    obtain ⟨s, m, o, _, gm, go, _, lm, lo⟩ := fr.fr
    have ok := fr.ok
    have l16 := ok.nl.n
    rw [List.length_map] at l16
    refine ⟨_, rfl, d, c, 5, rfl, src, by decide, by decide, fun r H1 r0 r1 src1 keep1 => ?_⟩
    have eh1 : hid d c H1 = hid d c H := hid_pick keep1
    have sm1 : Same (hid d c H) (hid d c H1) := by rw [eh1]; exact Same.refl _
    have go1 := dget_mono hid_sub (dget_mono sm1 go)
    have gm1 := dget_mono hid_sub (dget_mono sm1 gm)
    have lo1 : SqL K H1 o ((ls.map (·.1)).map V.str) := hid_sub.seq (sm1.seq lo)
    refine ⟨_, rfl, e, .ref m, rfl, gm1, _, rfl, e, .ref o, rfl, go1, _, rfl, _, rfl, e, .ref o, rfl, go1, o, _, rfl, .inl lo1, ?_⟩
    rw [List.length_map, List.length_map]
    refine ⟨d, c, (ls.length : Int), rfl, src1, by omega, by omega, fun r2 H2 q0 q1 src2 keep2 => ?_⟩
    obtain ⟨j, rfl⟩ : ∃ j : Nat, r2 = (j : Int) := ⟨r2.toNat, by omega⟩
    have eh2 : hid d c H2 = hid d c H := (hid_pick keep2).trans eh1
    have sm2 : Same (hid d c H) (hid d c H2) := by rw [eh2]; exact Same.refl _
    have lj : j < ls.length := by omega
    have ej : ls[j]? = some ls[j] := List.getElem?_eq_getElem lj
    obtain ⟨t, dg, st⟩ := (lm.same sm2).get ok.nl.nd ej
    obtain ⟨m1, m2⟩ := ok.ends _ (List.getElem_mem lj)
    refine ⟨o, _, _, .str ls[j].1, rfl, rfl, hid_sub.seq (sm2.seq lo), atI_nat (by rw [List.getElem?_map, List.getElem?_map, ej]; rfl), m, .ref t, rfl, dget_mono hid_sub dg, ?_⟩
    obtain ⟨x, ex⟩ : ∃ x, x = ls[j].2.1 := ⟨_, rfl⟩
    obtain ⟨y, ey⟩ : ∃ y, y = ls[j].2.2 := ⟨_, rfl⟩
    have st : SqT K (hid d c H2) t [.str x, .str y] := by rw [ex, ey]; exact st
    rw [← ex] at m1
    rw [← ey] at m2
    clear ex ey dg
    dsimp only [gName]
    change tSeq (tIfS _ _ _) _ _ [some (.ref d), some (.ref e), some (.int r), some (.ref t)] H2
    refine ⟨_, rfl, rfl, _, rfl, ite2 (fun hc => ?_) (fun hc => ?_)⟩
    · have er : r = 0 := by simpa using hc
      subst er
      refine ⟨_, rfl, _, rfl, rfl, t, _, rfl, .inr ⟨sqt_same hid_sub st, fun p hp => ?_⟩⟩
      have np := new_h (.tup [V.str y, V.str x]) src2 hp
      refine ⟨_, rfl, rfl, _, rfl, ite2 (fun hc => absurd hc (by decide)) (fun _ => ?_)⟩
      exact ⟨_, rfl, k p y x _ np.src (sm2.trans np.sm) (SqT.of np.at_) m2 m1⟩
    · refine ⟨_, rfl, rfl, _, rfl, ite2 (fun hc => ?_) (fun _ => ?_)⟩
      · have sG := sqt_same hid_sub st
        refine ⟨_, rfl, t, _, 0, _, rfl, rfl, sG, rfl, _, rfl, t, _, 0, _, rfl, rfl, sG, rfl, szl (by show 2 ≤ 1000; decide), fun p hp => ?_⟩
        have np := new_h (.tup [V.str x, V.str x]) src2 hp
        exact ⟨_, rfl, k p x x _ np.src (sm2.trans np.sm) (SqT.of np.at_) m1 m1⟩
      · exact ⟨_, rfl, k t x y H2 src2 sm2 st m1 m2⟩
end
end K24

namespace K24
open PySem PySem.Spec PyProof.Rows L2 Ow
/-! ### .get of a written dict -/
theorem keyOf_of {e : DictEntry} {k : Str} {h : Int} (q : He.keyOf e = some (k, h)) : ∃ t, e.key = .str k t := by
  unfold He.keyOf at q
  split at q
  · rename_i x t q2
    exact ⟨t, by rw [q2, (Prod.mk.inj (Option.some.inj q)).1]⟩
  · cases q
theorem keys_no {P : Params} {x : Str} : ∀ {l : List DictEntry} {ks : List Str}, l.map He.keyOf = He.keysIn P ks → x ∉ ks → l.find? (·.key.isStr x) = none ∧ l.any (·.refKey) = false
  | [], _, _, _ => ⟨rfl, rfl⟩
  | e :: r, [], h, _ => by cases h
  | e :: r, k :: ks, h, n => by
    have h1 : He.keyOf e :: r.map He.keyOf = some (k, PyData.keyHash P k) :: He.keysIn P ks := h
    injection h1 with h2 h3
    obtain ⟨t, ek⟩ := keyOf_of h2
    obtain ⟨a, b⟩ := keys_no h3 (fun z => n (List.mem_cons_of_mem _ z))
    have nx : k ≠ x := fun z => n (z ▸ List.mem_cons_self)
    have e1 : e.key.isStr x = false := by
      rw [ek]
      show (k == x) = false
      exact beq_eq_false_iff_ne.mpr nx
    refine ⟨by rw [List.find?_cons, e1]; exact a, ?_⟩
    rw [List.any_cons, b, Bool.or_false]
    unfold DictEntry.refKey
    rw [ek]
theorem dicW_no {K : PySem.W.Frag} {P : Params} {a : Addr} {ks : List Str} {x : Str} (h : He.dicW K a = some (He.keysIn P ks)) (nx : x ∉ ks) : PySem.W.nsIn K a x = some none := by
  unfold He.dicW at h
  unfold PySem.W.nsIn
  cases q : K.lookup a with
  | none => rw [q] at h; cases h
  | some o =>
    obtain ⟨oc, od, dt, osl⟩ := o
    rw [q] at h
    cases oc with
    | type c =>
      cases od with
      | none =>
        cases dt with
        | dict es n =>
          have h1 : (match decide (c = "dict") && (osl.isEmpty && !(a == sysModules)) with
            | true => some (es.toList.map He.keyOf)
            | false => none) = some (He.keysIn P ks) := h
          cases z : decide (c = "dict") && (osl.isEmpty && !(a == sysModules)) with
          | false => rw [z] at h1; cases h1
          | true =>
            rw [z] at h1
            obtain ⟨e1, e2⟩ := keys_no (Option.some.inj h1) nx
            dsimp only
            rw [e1]
            dsimp only
            rw [e2]
            rfl
        | _ => cases h
      | some b => cases dt <;> cases h
    | _ => cases od <;> cases dt <;> cases h
def tKGet2 (K : PySem.W.Frag) (d : Addr) (td ty tx : TE) : TE := fun σ H Q => td σ H fun x H1 => x = .ref d ∧ ty σ H1 fun y H2 => tx σ H2 fun z H3 => ∃ (s : Str) (r : Option Value) (v : V), y = .str s ∧ PySem.W.nsIn K d s = some r ∧ (match r with
  | none => v = z
  | some u => RelV v u) ∧ Q v H3
section
variable {X : Cx} {o e f : Expr} {apos cpos : Pos} {td ty tx : TE} {d : Addr} {es : Array DictEntry} {n : Nat}
theorem pe_kdget2 (D : KDict X.K X.w d es n) (ho : PE X o td) (he : PE X e ty) (hf : PE X f tx) (m : M2 X o "get" apos e f cpos) : PE X (.Call (.Attribute o "get" apos) [e, f] [] cpos) (tKGet2 X.K d td ty tx) := by
  refine ⟨fun pins s σ H Q I h => ?_⟩
  refine wpAny_Call_method m.base m.few m.line PySem.F.plainAttrs_dict PySem.F.slot_dict_get PySem.F.type_dict_get (thn (ho.run pins s σ H _ I h) fun u s1 ⟨x, H1, I1, rx, ex, q1⟩ => ?_)
  subst ex
  obtain rfl : u = Value.ref d := rx
  refine ⟨kd_type D I1, fun b q => ?_, ?_⟩
  · cases q
    exact ⟨_, I1.kIn _ _ D.at_, rfl⟩
  rw [m.trees]
  refine Calls.callWith_builtin rfl (Calls.evalArgs_plain (Calls.spliced_cons (thn (he.run pins s1 σ H1 _ I1 q1) fun iv s2 ⟨y, H2, I2, ry, q2⟩ =>
    Calls.spliced_cons (thn (hf.run pins s2 σ H2 _ I2 q2) fun fv s3 ⟨z, H3, I3, rz, s, r, v, ey, en, er, q3⟩ => Calls.spliced_nil ?_))))
  subst ey
  obtain ⟨t, rfl⟩ := ry
  refine call_meetsIn PySem.F.slot_dict_get (kd_type D I3) PySem.F.entry_dict_get (PySem.F.args_dict_get_3 _ _ _) (PySem.meets_dict_get_default (knd := strKind X.prog X.w) (k := s) d (PySem.strKind_is X.prog X.w s t) D.low fv) ⟨_, PySem.W.mapOf_K (prog := X.prog) I3.kIn D.at_ D.lit, ?_⟩
  rw [PySem.W.find_K D.at_ en]
  cases r with
  | none =>
    subst er
    exact ⟨v, H3, I3.tok _, rz, q3⟩
  | some u => exact ⟨v, H3, I3.tok _, er, q3⟩
end
end K24

namespace K24
open PySem PySem.Spec PyProof.Rows L2 Ow
/-! ### right words of terms; the parts below, the sorts told -/
def Tm.hd : Tm → Str
  | .leaf w _ => w
  | .one w _ => w
  | .two w _ _ => w
def Tm.ss : Tm → List Str
  | .leaf _ ss => ss
  | _ => []
def Tm.kids : Tm → List Tm
  | .leaf _ _ => []
  | .one _ t => [t]
  | .two _ s t => [s, t]
/-- the sorts that a term tells itself -/
def Tm.srt : Tm → List Str
  | .leaf w ss => if w = "letter" then [] else ss
  | _ => []
def LeafOk (w : Str) (ss : List Str) : Prop := (w = "letter" ∧ ∃ n : Str, ss = [n] ∧ Wd n) ∨ (w = "same" ∧ ∃ a : Str, ss = [a] ∧ Wd a) ∨ (w = "other" ∧ ∃ a : Str, ss = [a] ∧ Wd a) ∨ (w = "none" ∧ ∃ a b : Str, ss = [a, b] ∧ Wd a ∧ Wd b) ∨ (w = "all" ∧ ∃ a b : Str, ss = [a, b] ∧ Wd a ∧ Wd b)
def OneOk (w : Str) : Prop := w = "rest" ∨ w = "turned" ∨ w = "closed" ∨ w = "walked"
def TwoOk (w : Str) : Prop := w = "joined" ∨ w = "cut" ∨ w = "then"
/-- right by its words -/
def Rt : Tm → Prop
  | .leaf w ss => LeafOk w ss
  | .one w t => OneOk w ∧ Rt t
  | .two w s t => TwoOk w ∧ Rt s ∧ Rt t
theorem Ty.rt {xs : List Str} {ls : List Lt} (ok : FrOk xs ls) {t : Tm} {x y : Str} (h : Ty xs ls t x y) : Rt t := by
  induction h with
  | letter h => exact .inl ⟨rfl, _, rfl, ok.nl.w _ (List.mem_map_of_mem h)⟩
  | same h => exact .inr (.inl ⟨rfl, _, rfl, ok.nx.w _ h⟩)
  | other h => exact .inr (.inr (.inl ⟨rfl, _, rfl, ok.nx.w _ h⟩))
  | none h g => exact .inr (.inr (.inr (.inl ⟨rfl, _, _, rfl, ok.nx.w _ h, ok.nx.w _ g⟩)))
  | all h g => exact .inr (.inr (.inr (.inr ⟨rfl, _, _, rfl, ok.nx.w _ h, ok.nx.w _ g⟩)))
  | rest _ ih => exact ⟨.inl rfl, ih⟩
  | turned _ ih => exact ⟨.inr (.inl rfl), ih⟩
  | closed _ ih => exact ⟨.inr (.inr (.inl rfl)), ih⟩
  | walked _ ih => exact ⟨.inr (.inr (.inr rfl)), ih⟩
  | joined _ _ i1 i2 => exact ⟨.inl rfl, i1, i2⟩
  | cut _ _ i1 i2 => exact ⟨.inr (.inl rfl), i1, i2⟩
  | then_ _ _ i1 i2 => exact ⟨.inr (.inr rfl), i1, i2⟩
/-- at the addresses stand the terms -/
inductive Tms (K : PySem.W.Frag) (H : Hp) : List Addr → List Tm → Prop
  | nil : Tms K H [] []
  | cons {a : Addr} {t : Tm} {as : List Addr} {ts : List Tm} : TmAt K H a t → Tms K H as ts → Tms K H (a :: as) (t :: ts)
section
variable {K : PySem.W.Frag} {H H' : Hp}
theorem Tms.same (s : Same H H') : ∀ {as : List Addr} {ts : List Tm}, Tms K H as ts → Tms K H' as ts
  | _, _, .nil => .nil
  | _, _, .cons h g => .cons (h.same s) (g.same s)
theorem Tms.len : ∀ {as : List Addr} {ts : List Tm}, Tms K H as ts → as.length = ts.length
  | _, _, .nil => rfl
  | _, _, .cons _ g => congrArg Nat.succ g.len
theorem Tms.app : ∀ {as bs : List Addr} {ts us : List Tm}, Tms K H as ts → Tms K H bs us → Tms K H (as ++ bs) (ts ++ us)
  | _, _, _, _, .nil, g => g
  | _, _, _, _, .cons h r, g => .cons h (r.app g)
theorem Tms.get : ∀ {as : List Addr} {ts : List Tm}, Tms K H as ts → ∀ {i : Nat} {a : Addr}, as[i]? = some a → ∃ t, ts[i]? = some t ∧ TmAt K H a t
  | _, _, .nil, i, a, e => by cases e
  | _, _, .cons h r, 0, a, e => ⟨_, rfl, (Option.some.inj e) ▸ h⟩
  | _, _, .cons h r, i + 1, a, e => r.get e
/-- the tuple of a term -/
theorem TmAt.view {t : Tm} {a : Addr} (h : TmAt K H a t) : ∃ us : List Addr, SqT K H a (.str t.hd :: (t.ss.map V.str ++ us.map V.ref)) ∧ Tms K H us t.kids := by
  cases t with
  | leaf w ss => exact ⟨[], by rw [List.map_nil, List.append_nil]; exact h, .nil⟩
  | one w t =>
    obtain ⟨b, h1, h2⟩ := h
    exact ⟨[b], h1, .cons h2 .nil⟩
  | two w s t =>
    obtain ⟨b, c, h1, h2, h3⟩ := h
    exact ⟨[b, c], h1, .cons h2 (.cons h3 .nil)⟩
end
theorem vpb (i : Nat) {q : Str × He.Dv} (h : vPARTSBELOW[i]? = some q) : q ∈ vPARTSBELOW := List.mem_of_getElem? h
theorem vst (i : Nat) {q : Str × He.Dv} (h : vSORTSTOLD[i]? = some q) : q ∈ vSORTSTOLD := List.mem_of_getElem? h
theorem Rt.pb : ∀ {t : Tm}, Rt t → (t.hd, He.Dv.int (t.kids.length : Int)) ∈ vPARTSBELOW
  | .leaf w ss, h => by
    rcases h with ⟨rfl, _⟩ | ⟨rfl, _⟩ | ⟨rfl, _⟩ | ⟨rfl, _⟩ | ⟨rfl, _⟩
    · exact vpb 0 rfl
    · exact vpb 1 rfl
    · exact vpb 2 rfl
    · exact vpb 3 rfl
    · exact vpb 4 rfl
  | .one w t, h => by
    rcases h.1 with rfl | rfl | rfl | rfl
    · exact vpb 5 rfl
    · exact vpb 6 rfl
    · exact vpb 10 rfl
    · exact vpb 11 rfl
  | .two w s t, h => by
    rcases h.1 with rfl | rfl | rfl
    · exact vpb 7 rfl
    · exact vpb 8 rfl
    · exact vpb 9 rfl
theorem Rt.st : ∀ {t : Tm}, Rt t → (t.srt = t.ss ∧ (t.hd, He.Dv.int (t.ss.length : Int)) ∈ vSORTSTOLD ∧ 0 < t.ss.length) ∨ (t.srt = [] ∧ t.hd ∉ kSORTSTOLD)
  | .leaf w ss, h => by
    rcases h with ⟨rfl, _⟩ | ⟨rfl, a, rfl, _⟩ | ⟨rfl, a, rfl, _⟩ | ⟨rfl, a, b, rfl, _⟩ | ⟨rfl, a, b, rfl, _⟩
    · exact .inr ⟨rfl, (by decide +kernel : ("letter" : Str) ∉ kSORTSTOLD)⟩
    · exact .inl ⟨rfl, vst 0 rfl, Nat.succ_pos _⟩
    · exact .inl ⟨rfl, vst 1 rfl, Nat.succ_pos _⟩
    · exact .inl ⟨rfl, vst 2 rfl, Nat.succ_pos _⟩
    · exact .inl ⟨rfl, vst 3 rfl, Nat.succ_pos _⟩
  | .one w t, h => by
    rcases h.1 with rfl | rfl | rfl | rfl
    · exact .inr ⟨rfl, (by decide +kernel : ("rest" : Str) ∉ kSORTSTOLD)⟩
    · exact .inr ⟨rfl, (by decide +kernel : ("turned" : Str) ∉ kSORTSTOLD)⟩
    · exact .inr ⟨rfl, (by decide +kernel : ("closed" : Str) ∉ kSORTSTOLD)⟩
    · exact .inr ⟨rfl, (by decide +kernel : ("walked" : Str) ∉ kSORTSTOLD)⟩
  | .two w s t, h => by
    rcases h.1 with rfl | rfl | rfl
    · exact .inr ⟨rfl, (by decide +kernel : ("joined" : Str) ∉ kSORTSTOLD)⟩
    · exact .inr ⟨rfl, (by decide +kernel : ("cut" : Str) ∉ kSORTSTOLD)⟩
    · exact .inr ⟨rfl, (by decide +kernel : ("then" : Str) ∉ kSORTSTOLD)⟩
/-- a term has a part or a word behind its first word -/
theorem Rt.pos : ∀ {t : Tm}, Rt t → 1 ≤ t.ss.length + t.kids.length ∧ t.ss.length + t.kids.length ≤ 2 ∧ (t.ss = [] ∨ t.kids = [])
  | .leaf w ss, h => by
    rcases h with ⟨rfl, a, rfl, _⟩ | ⟨rfl, a, rfl, _⟩ | ⟨rfl, a, rfl, _⟩ | ⟨rfl, a, b, rfl, _⟩ | ⟨rfl, a, b, rfl, _⟩ <;> exact ⟨by simp [Tm.ss, Tm.kids], by simp [Tm.ss, Tm.kids], .inr rfl⟩
  | .one w t, h => ⟨by simp [Tm.ss, Tm.kids], by simp [Tm.ss, Tm.kids], .inl rfl⟩
  | .two w s t, h => ⟨by simp [Tm.ss, Tm.kids], by simp [Tm.ss, Tm.kids], .inl rfl⟩
theorem cutV_1 (x : V) (xs : List V) (n : Nat) (l : n ≤ xs.length) : cutV (x :: xs) (some 1) (some ((1 + n : Nat) : Int)) = xs.take n := by
  have e1 : HT.sIx (x :: xs).length 0 (some 1) = 1 := by
    unfold HT.sIx
    simp
  have e2 : HT.sIx (x :: xs).length (x :: xs).length (some ((1 + n : Nat) : Int)) = 1 + n := by
    unfold HT.sIx
    rw [List.length_cons]
    simp only
    split
    · omega
    · omega
  unfold cutV
  rw [e1, e2, show 1 + n - 1 = n by omega]
  rfl
theorem sIx_1 (x : V) (xs : List V) : ¬ (HT.sIx (x :: xs).length 0 (some 1) = 0 ∧ True) := by
  rintro ⟨h, _⟩
  unfold HT.sIx at h
  simp at h
theorem atI_0 (x : V) (xs : List V) : atI (x :: xs) 0 = some x := by
  unfold atI ixN
  rw [if_pos (Int.le_refl 0), if_pos (by rw [List.length_cons]; omega)]
  rfl
abbrev NPB : List Str := ["term"]
theorem scPB : FnScope NPB ["term"] (defScope sPartsBelow) := ⟨rfl, rfl, rfl, by decide +kernel, rfl, by decide +kernel, by decide +kernel⟩
def spPB (K : PySem.W.Frag) : Sp := fun vs H Q _ => ∃ (a : Addr) (t : Tm), vs = [.ref a] ∧ TmAt K H a t ∧ Rt t ∧ ∀ (p : Addr) (us : List Addr) (H' : Hp), Same H H' → H' p = some (.tup (us.map V.ref)) → Tms K H' us t.kids → Q (.ref p) H'
abbrev NST : List Str := ["part"]
theorem scST : FnScope NST ["part"] (defScope sSortsTold) := ⟨rfl, rfl, rfl, by decide +kernel, rfl, by decide +kernel, by decide +kernel⟩
def spST (K : PySem.W.Frag) : Sp := fun vs H Q _ => ∃ (a : Addr) (t : Tm), vs = [.ref a] ∧ TmAt K H a t ∧ Rt t ∧ ∀ (p : Addr) (H' : Hp), Same H H' → H' p = some (.tup (t.srt.map V.str)) → Q (.ref p) H'
section
variable {P : Program} {w : World} {K : PySem.W.Frag} {mg : Str → Option Value} {base : Heap} {f : Addr} {fd : FuncData}
theorem ok_pb (F : FnP K "parts_below" sPartsBelow f fd) (Y : Fx w K mg) : FnOk P w K mg base CX0 1 f fd ["term"] (spPB K) := by
  obtain ⟨es, n, D⟩ := Y.kPARTSBELOW
  refine okD F scPB (fun vs H Q E h => ?_) (fun cdv A outer s H vs Q E hr h => ?_)
  · obtain ⟨a, t, rfl, _⟩ := h
    rfl
  · have nd := scPB.nd
    refine ⟨_, pss_one (ps_ret (pe_slice sl_tupA (pv 0) (po_some pe_int) (po_some (pe_op op_add pe_int (pe_ix ix_kdict (pe_glob (v := .ref (He.ga K "_PARTS_BELOW")) (by rfl) Y.gPARTSBELOW rfl) (pe_ix ix_tup (pv 0) pe_int (fun _ _ => rfl)) (fun _ _ => rfl)))))), ?_⟩
    obtain ⟨a, t, rfl, ha, rt, k⟩ := h
    obtain ⟨us, h1, h2⟩ := ha.view
    obtain ⟨u, eu, ru⟩ := He.valsB_ok Y.x2 rt.pb
    refine ⟨_, rfl, _, rfl, _, rfl, a, _, 0, _, rfl, rfl, h1, atI_0 _ _, _, _, _, rfl, rfl, ⟨es, n, u, D.at_, D.lit, eu, ru⟩, ?_⟩
    have lk := h2.len
    obtain ⟨p1, p2, p3⟩ := rt.pos
    have ec : cutV (V.str t.hd :: (t.ss.map V.str ++ us.map V.ref)) (some 1) (some ((1 + t.kids.length : Nat) : Int)) = us.map V.ref := by
      rcases p3 with z | z
      · rw [z, List.map_nil, List.nil_append, cutV_1 _ _ _ (by rw [List.length_map]; omega), List.take_of_length_le (by rw [List.length_map]; omega)]
      · rw [cutV_1 _ _ _ (by rw [z]; exact Nat.zero_le _), z, List.length_nil, List.take_zero]
        rw [z] at lk
        rw [List.length_eq_zero_iff.mp lk, List.map_nil]
    refine ⟨_, _, rfl, rfl, _, rfl, a, _, rfl, h1, fun hh => absurd ⟨hh.1, trivial⟩ (sIx_1 _ _), fun _ p hp => ?_⟩
    rw [show (1 : Int) + (t.kids.length : Int) = ((1 + t.kids.length : Nat) : Int) by omega, ec]
    exact k p us _ (same_upd hp) upd_same (h2.same (same_upd hp))
theorem ok_st (F : FnP K "sorts_told" sSortsTold f fd) (Y : Fx w K mg) : FnOk P w K mg base CX0 1 f fd ["part"] (spST K) := by
  obtain ⟨es, n, D⟩ := Y.kSORTSTOLD
  refine okD F scST (fun vs H Q E h => ?_) (fun cdv A outer s H vs Q E hr h => ?_)
  · obtain ⟨a, t, rfl, _⟩ := h
    rfl
  · have nd := scST.nd
    refine ⟨_, pss_one (ps_ret (pe_slice sl_tupA (pv 0) (po_some pe_int) (po_some (pe_op op_add pe_int (pe_kdget2 D (pe_glob (v := .ref (He.ga K "_SORTS_TOLD")) (by rfl) Y.gSORTSTOLD rfl) (pe_ix ix_tup (pv 0) pe_int (fun _ _ => rfl)) pe_int ⟨rfl, rfl, rfl, rfl⟩))))), ?_⟩
    obtain ⟨a, t, rfl, ha, rt, k⟩ := h
    obtain ⟨us, h1, h2⟩ := ha.view
    have lk := h2.len
    obtain ⟨p1, p2, p3⟩ := rt.pos
    have eD : He.dicW K (He.ga K "_SORTS_TOLD") = some (He.keysIn w.params kSORTSTOLD) := by
      have e : tabs.map (fun t => He.dicW K (t.1 K)) = tabs.map fun t => some (He.keysIn w.params t.2) := congrArg (fun z : He.AlT => z.2) Y.t
      exact (List.cons.inj (List.cons.inj e).2).1
    rcases rt.st with ⟨es, m, l0⟩ | ⟨es, no⟩
    · obtain ⟨u, eu, ru⟩ := He.valsB_ok Y.x3 m
      refine ⟨_, rfl, _, rfl, rfl, _, rfl, a, _, 0, _, rfl, rfl, h1, atI_0 _ _, t.hd, some u, .int (t.ss.length : Int), rfl, eu, ru, ?_⟩
      refine ⟨_, _, rfl, rfl, _, rfl, a, _, rfl, h1, fun hh => absurd ⟨hh.1, trivial⟩ (sIx_1 _ _), fun _ p hp => ?_⟩
      have ec : cutV (V.str t.hd :: (t.ss.map V.str ++ us.map V.ref)) (some 1) (some ((1 + t.ss.length : Nat) : Int)) = t.srt.map V.str := by
        rw [cutV_1 _ _ _ (by rw [List.length_append, List.length_map]; omega), es, List.take_append_of_le_length (by rw [List.length_map]; omega), List.take_of_length_le (by rw [List.length_map]; omega)]
      rw [show (1 : Int) + (t.ss.length : Int) = ((1 + t.ss.length : Nat) : Int) by omega, ec]
      exact k p _ (same_upd hp) upd_same
    · refine ⟨_, rfl, _, rfl, rfl, _, rfl, a, _, 0, _, rfl, rfl, h1, atI_0 _ _, t.hd, none, .int 0, rfl, dicW_no eD no, rfl, ?_⟩
      refine ⟨_, _, rfl, rfl, _, rfl, a, _, rfl, h1, fun hh => absurd ⟨hh.1, trivial⟩ (sIx_1 _ _), fun _ p hp => ?_⟩
      have ec : cutV (V.str t.hd :: (t.ss.map V.str ++ us.map V.ref)) (some 1) (some ((1 + 0 : Nat) : Int)) = t.srt.map V.str := by
        rw [cutV_1 _ _ _ (Nat.zero_le _), es]
        rfl
      rw [show (1 : Int) + (0 : Int) = ((1 + 0 : Nat) : Int) by omega, ec]
      exact k p _ (same_upd hp) upd_same
end
end K24

namespace K24
open PySem PySem.Spec PyProof.Rows L2 Ow
/-! ### all parts, by the stack -/
def Tm.pre : Tm → List Tm
  | .leaf w ss => [.leaf w ss]
  | .one w t => .one w t :: t.pre
  | .two w s t => .two w s t :: (s.pre ++ t.pre)
theorem pre_kids (t : Tm) : t.pre = t :: t.kids.flatMap Tm.pre := by
  cases t <;> simp [Tm.pre, Tm.kids]
theorem pre_len : ∀ t : Tm, t.pre.length = t.sz
  | .leaf _ _ => rfl
  | .one _ t => by simp only [Tm.pre, Tm.sz, List.length_cons, pre_len t]; omega
  | .two _ s t => by simp only [Tm.pre, Tm.sz, List.length_cons, List.length_append, pre_len s, pre_len t]; omega
theorem Rt.kids : ∀ {t : Tm}, Rt t → ∀ u ∈ t.kids, Rt u
  | .leaf _ _, _, u, hu => absurd hu List.not_mem_nil
  | .one _ t, h, u, hu => by rw [List.mem_singleton.mp hu]; exact h.2
  | .two _ s t, h, u, hu => by
    rcases List.mem_cons.mp hu with z | z
    · rw [z]; exact h.2.1
    · rw [List.mem_singleton.mp z]; exact h.2.2
theorem Rt.pre : ∀ {t : Tm}, Rt t → ∀ u ∈ t.pre, Rt u
  | .leaf _ _, h, u, hu => by rw [List.mem_singleton.mp hu]; exact h
  | .one _ t, h, u, hu => by
    rcases List.mem_cons.mp hu with z | z
    · rw [z]; exact h
    · exact h.2.pre u z
  | .two _ s t, h, u, hu => by
    rcases List.mem_cons.mp hu with z | z
    · rw [z]; exact h
    · rcases List.mem_append.mp z with z | z
      · exact h.2.1.pre u z
      · exact h.2.2.pre u z
/-- paths and parts -/
abbrev PaT : Type := List Nat × Tm
def paV (p : List Nat) : List V := p.map fun n : Nat => V.int (n : Int)
def ppre : List Nat → Tm → List PaT
  | p, .leaf w ss => [(p, .leaf w ss)]
  | p, .one w t => (p, .one w t) :: ppre (p ++ [0]) t
  | p, .two w s t => (p, .two w s t) :: (ppre (p ++ [0]) s ++ ppre (p ++ [1]) t)
def pkids (p : List Nat) : Tm → List PaT
  | .leaf _ _ => []
  | .one _ t => [(p ++ [0], t)]
  | .two _ s t => [(p ++ [0], s), (p ++ [1], t)]
theorem ppre_kids (p : List Nat) (t : Tm) : ppre p t = (p, t) :: (pkids p t).flatMap fun x => ppre x.1 x.2 := by
  cases t <;> simp [ppre, pkids]
theorem pkids_snd (p : List Nat) (t : Tm) : (pkids p t).map (·.2) = t.kids := by cases t <;> rfl
theorem pkids_at {p : List Nat} {t : Tm} {i : Nat} {k : Tm} (h : t.kids[i]? = some k) : (pkids p t)[i]? = some (p ++ [i], k) := by
  cases t with
  | leaf w ss => cases h
  | one w t =>
    cases i with
    | zero => cases h; rfl
    | succ i => cases h
  | two w s t =>
    cases i with
    | zero => cases h; rfl
    | succ i =>
      cases i with
      | zero => cases h; rfl
      | succ i => cases h
theorem ppre_snd : ∀ (t : Tm) (p : List Nat), (ppre p t).map (·.2) = t.pre
  | .leaf w ss, p => rfl
  | .one w t, p => by
    show .one w t :: (ppre (p ++ [0]) t).map (·.2) = _
    rw [ppre_snd t]
    rfl
  | .two w s t, p => by
    show .two w s t :: (ppre (p ++ [0]) s ++ ppre (p ++ [1]) t).map (·.2) = _
    rw [List.map_append, ppre_snd s, ppre_snd t]
    rfl
theorem ppre_len (p : List Nat) (t : Tm) : (ppre p t).length = t.sz := by rw [← pre_len, ← ppre_snd t p, List.length_map]
/-- at r stands the pair of a path and a term -/
def Pr (K : PySem.W.Frag) (H : Hp) (r : Addr) (x : PaT) : Prop := ∃ q u : Addr, SqT K H r [.ref q, .ref u] ∧ SqT K H q (paV x.1) ∧ TmAt K H u x.2
inductive Prs (K : PySem.W.Frag) (H : Hp) : List Addr → List PaT → Prop
  | nil : Prs K H [] []
  | cons {a : Addr} {t : PaT} {as : List Addr} {ts : List PaT} : Pr K H a t → Prs K H as ts → Prs K H (a :: as) (t :: ts)
section
variable {K : PySem.W.Frag} {H H' : Hp}
theorem Pr.same (s : Same H H') {r : Addr} {t : PaT} (h : Pr K H r t) : Pr K H' r t := let ⟨q, u, a, b, d⟩ := h; ⟨q, u, sqt_same s a, sqt_same s b, d.same s⟩
theorem Pr.put {D : Addr} {l : List V} {o : HO} (e : H D = some (.lst l)) {r : Addr} {t : PaT} (h : Pr K H r t) : Pr K (upd H D o) r t := let ⟨q, u, a, b, d⟩ := h; ⟨q, u, sqt_put e a, sqt_put e b, d.put e⟩
theorem Prs.same (s : Same H H') : ∀ {as : List Addr} {ts : List PaT}, Prs K H as ts → Prs K H' as ts
  | _, _, .nil => .nil
  | _, _, .cons h g => .cons (h.same s) (g.same s)
theorem Prs.put {D : Addr} {l : List V} {o : HO} (e : H D = some (.lst l)) : ∀ {as : List Addr} {ts : List PaT}, Prs K H as ts → Prs K (upd H D o) as ts
  | _, _, .nil => .nil
  | _, _, .cons h g => .cons (h.put e) (g.put e)
theorem Prs.len : ∀ {as : List Addr} {ts : List PaT}, Prs K H as ts → as.length = ts.length
  | _, _, .nil => rfl
  | _, _, .cons _ g => congrArg Nat.succ g.len
theorem Prs.app : ∀ {as bs : List Addr} {ts us : List PaT}, Prs K H as ts → Prs K H bs us → Prs K H (as ++ bs) (ts ++ us)
  | _, _, _, _, .nil, g => g
  | _, _, _, _, .cons h r, g => .cons h (r.app g)
theorem Prs.rev : ∀ {as : List Addr} {ts : List PaT}, Prs K H as ts → Prs K H as.reverse ts.reverse
  | _, _, .nil => .nil
  | _, _, .cons h r => by rw [List.reverse_cons, List.reverse_cons]; exact r.rev.app (.cons h .nil)
theorem Prs.get : ∀ {as : List Addr} {ts : List PaT}, Prs K H as ts → ∀ {i : Nat} {a : Addr}, as[i]? = some a → ∃ t, ts[i]? = some t ∧ Pr K H a t
  | _, _, .nil, i, a, e => by cases e
  | _, _, .cons h r, 0, a, e => ⟨_, rfl, (Option.some.inj e) ▸ h⟩
  | _, _, .cons h r, i + 1, a, e => r.get e
theorem Prs.uncons {a : Addr} {as : List Addr} {ts : List PaT} (h : Prs K H (a :: as) ts) : ∃ t us, ts = t :: us ∧ Pr K H a t ∧ Prs K H as us := by
  cases h with
  | cons h r => exact ⟨_, _, rfl, h, r⟩
theorem Prs.unnil {ts : List PaT} (h : Prs K H [] ts) : ts = [] := by
  cases h
  rfl
/-- the last one -/
theorem Prs.last {as : List Addr} {a : Addr} : ∀ {ts : List PaT}, Prs K H (as ++ [a]) ts → ∃ us t, ts = us ++ [t] ∧ Prs K H as us ∧ Pr K H a t := by
  induction as with
  | nil =>
    intro ts h
    obtain ⟨t, us, e, h1, h2⟩ := h.uncons
    exact ⟨[], t, by rw [e, h2.unnil]; rfl, .nil, h1⟩
  | cons b as ih =>
    intro ts h
    obtain ⟨t, us, e, h1, h2⟩ := Prs.uncons (as := as ++ [a]) h
    obtain ⟨vs, u, e2, r1, r2⟩ := ih h2
    exact ⟨t :: vs, u, by rw [e, e2]; rfl, .cons h1 r1, r2⟩
end
/-! ### is not None, of None; an and whose first is false -/
def rNotN : R2 := fun x y H Q => x = .non ∧ y = .non ∧ Q (.bl false) H
theorem op_notN {X : Cx} : OpR X (compareOp .IsNot) rNotN := by
  intro pins s σ H x y v u Q I rx ry h
  obtain ⟨rfl, rfl, q⟩ := h
  cases (show v = Value.none from rx)
  cases (show u = Value.none from ry)
  exact wpAny_isNot_self rfl ⟨.bl false, H, I, rfl, q⟩
def tAndF (tA : TT) : TT := fun σ H Q => tA σ H fun c H1 => c = false ∧ Q false H1
theorem pw_andF {X : Cx} {a b : Expr} {rest : List Expr} {pos : Pos} {tA : TT} (ha : PT X a tA) : PW X (.BoolOp .And (a :: b :: rest) pos) (tAndF tA) := by
  refine ⟨fun wh pins s σ H Q I h => ?_⟩
  refine isTrue_and (thn (ha.run pins s σ H _ I h) fun c s1 ⟨H1, I1, e, q1⟩ => ?_)
  subst e
  exact ⟨H1, I1, q1⟩
abbrev NBe : List Str := ["path", "part", "number", "below"]
theorem scBe : FnScope NBe ["path", "part"] (defScope sBelow) := ⟨rfl, rfl, rfl, by decide +kernel, rfl, by decide +kernel, by decide +kernel⟩
def spBe (K : PySem.W.Frag) : Sp := fun vs H Q _ => ∃ (q a : Addr) (p : List Nat) (t : Tm), vs = [.ref q, .ref a] ∧ SqT K H q (paV p) ∧ p.length ≤ 900 ∧ TmAt K H a t ∧ Rt t ∧ ∀ (L : Addr) (rs : List Addr) (H' : Hp), Same H H' → H L = none → H' L = some (.lst (rs.map V.ref)) → Prs K H' rs (pkids p t) → Q (.ref L) H'
abbrev NPC : List Str := ["frame", "value", "found", "waiting", "path", "part"]
theorem scPC : FnScope NPC ["frame", "value"] (defScope sPartsChecked) := ⟨rfl, rfl, rfl, by decide +kernel, rfl, by decide +kernel, by decide +kernel⟩
def spPC (K : PySem.W.Frag) : Sp := fun vs H Q _ => ∃ (a : Addr) (t : Tm), vs = [.non, .ref a] ∧ TmAt K H a t ∧ Rt t ∧ t.sz ≤ 400 ∧ ∀ (L : Addr) (rs : List Addr) (H' : Hp), Same H H' → H L = none → H' L = some (.lst (rs.map V.ref)) → Prs K H' rs (ppre [] t) → Q (.ref L) H'
abbrev NPO : List Str := ["term"]
theorem scPO : FnScope NPO ["term"] (defScope sPartsOf) := ⟨rfl, rfl, rfl, by decide +kernel, rfl, by decide +kernel, by decide +kernel⟩
def spPO (K : PySem.W.Frag) : Sp := fun vs H Q _ => ∃ (a : Addr) (t : Tm), vs = [.ref a] ∧ TmAt K H a t ∧ Rt t ∧ t.sz ≤ 400 ∧ ∀ (L : Addr) (rs : List Addr) (H' : Hp), Same H H' → H L = none → H' L = some (.lst (rs.map V.ref)) → Prs K H' rs (ppre [] t) → Q (.ref L) H'
section
variable {P : Program} {w : World} {K : PySem.W.Frag} {mg : Str → Option Value} {base : Heap} {f : Addr} {fd : FuncData}
theorem ok_be (F : FnP K "_below" sBelow f fd) (Y : Fx w K mg) : FnOk P w K mg base CX0 2 f fd ["path", "part"] (spBe K) := by
  obtain ⟨d1, F1⟩ := Y.dPartsBelow
  have b1 := FunD.bindsN (ps := ["term"]) F1 fun _ _ _ _ _ _ us hl => match us, hl with | [_], _ => rfl
  have G1 : FnOk P w K mg base CX0 1 _ d1 ["term"] (spPB K) := ok_pb F1 Y
  refine okD F scBe (fun vs H Q E h => ?_) (fun cdv A outer s H vs Q E hr h => ?_)
  · obtain ⟨q, a, pp, t, rfl, _⟩ := h
    rfl
  · have nd := scBe.nd
    refine ⟨_, pss_one (ps_ret (pe_lc (own := [("number", 2), ("below", 3)]) (g := gTup K 2 (gCons (gName 2) (gCons (gName 3) gNil))) (tt := tYes) (te := tTup (tCons (tOp (rCatA K) (tVar 0) (tTup (tCons (tVar 2) tNil))) (tCons (tVar 3) tNil))) rfl nd
      (pi_enumA (by rfl) Y.bEnumerate (pa_cons (pe_call G1 hr (by rfl) Y.gPartsBelow F1.kp b1 .nil pass0 (pa_cons (pv 1) pa_nil)) pa_nil)) (blkOk_by (N := NBe) (sc := defScope sBelow) (by decide +kernel))
      (fun _ _ _ _ _ => pg_tup rfl (pgs_cons (pg_name (i := 2) nd rfl (Or.inl rfl)) (pgs_cons (pg_name (i := 3) nd rfl (Or.inl rfl)) pgs_nil))) (fun _ _ _ _ _ => pts_nil)
      (fun _ _ _ _ _ => pe_tup (pa_cons (pe_op op_catA (pv 0) (pe_tup (pa_cons (pv 2) pa_nil))) (pa_cons (pv 3) pa_nil))))), ?_⟩
    obtain ⟨q, a, pp, t, rfl, hq, lx, ha, rt, k⟩ := h
    have lpv : (paV pp).length = pp.length := by unfold paV; rw [List.length_map]
    refine ⟨_, rfl, a, t, rfl, ha, rt, fun p us H1 s1 hp hk => ?_⟩
    refine ⟨p, us.map V.ref, rfl, .inr (SqT.of hp), fun J GG wk gk D hD => lc_it wk (fun i G => ∃ rs : List Addr, G D = some (.lst (rs.map V.ref)) ∧ Prs K G rs ((pkids pp t).take i) ∧ Same H1 G) ⟨[], upd_same, .nil, same_upd hD⟩ (fun i G _ ⟨_, _, _, z⟩ => gk G z) ?_ ?_⟩
    · rintro i v G G' hi ⟨rs, e, hP, sm⟩ ⟨T, x, y, rfl, hT, rfl, ex, ey⟩
      cases ex
      obtain ⟨u, eu, rfl⟩ : ∃ u, us[i]? = some u ∧ y = V.ref u := by
        replace ey : (us.map V.ref)[i]? = some y := ey
        rw [List.getElem?_map] at ey
        cases z : us[i]? with
        | none => rw [z] at ey; cases ey
        | some u => rw [z] at ey; exact ⟨u, rfl, (Option.some.inj ey).symm⟩
      obtain ⟨kd, ek, hkd⟩ := hk.get eu
      have li := (List.getElem?_eq_some_iff.mp ek).1
      have ekp := pkids_at (p := pp) ek
      have l2 := rt.pos.2.1
      have lr := hP.len
      rw [List.length_take] at lr
      have sT := same_upd (o := .tup [V.int (i : Int), V.ref u]) hT
      refine ⟨T, _, rfl, SqT.of upd_same, rfl, _, _, rfl, _, _, rfl, rfl, rfl, _, rfl, _, rfl, szl (by show 1 ≤ 1000; decide), fun T2 hT2 => ?_⟩
      have sT2 := same_upd (o := .tup [V.int (i : Int)]) hT2
      refine ⟨q, T2, paV pp, [.int (i : Int)], rfl, rfl, sqt_same (s1.trans (sm.trans (sT.trans sT2))) hq, SqT.of upd_same, szl (by show (paV pp).length + 1 ≤ 1000; omega), fun hx => ?_, fun hx h0 => absurd h0 (List.cons_ne_nil _ _), fun hx _ => ?_⟩
      · refine ⟨_, rfl, szl (by show 2 ≤ 1000; decide), fun T3 hT3 => ?_⟩
        have sT3 := same_upd (o := .tup [V.ref T2, V.ref u]) hT3
        have s9 := sT.trans (sT2.trans sT3)
        have e9 := s9 _ _ e
        refine ⟨_, e9, ?_, rs ++ [T3], ?_, ?_, same_put hD (sm.trans s9)⟩
        · rw [List.length_map]
          exact small1000 (by omega)
        · rw [upd_same, List.map_append]
          rfl
        · rw [List.take_add_one, ekp]
          have p0 : pp = [] := by cases pp with
            | nil => rfl
            | cons x l => cases hx
          refine Prs.put e9 ((hP.same s9).app (.cons ⟨T2, u, SqT.of upd_same, ?_, hkd.same (sm.trans s9)⟩ .nil))
          rw [p0]
          exact sqt_same sT3 (show SqT K _ T2 [V.int (i : Int)] from SqT.of upd_same)
      · intro T4 hT4
        have sT4 := same_upd (o := .tup (paV pp ++ [V.int (i : Int)])) hT4
        refine ⟨_, rfl, szl (by show 2 ≤ 1000; decide), fun T3 hT3 => ?_⟩
        have sT3 := same_upd (o := .tup [V.ref T4, V.ref u]) hT3
        have s9 := sT.trans (sT2.trans (sT4.trans sT3))
        have e9 := s9 _ _ e
        refine ⟨_, e9, ?_, rs ++ [T3], ?_, ?_, same_put hD (sm.trans s9)⟩
        · rw [List.length_map]
          exact small1000 (by omega)
        · rw [upd_same, List.map_append]
          rfl
        · rw [List.take_add_one, ekp]
          refine Prs.put e9 ((hP.same s9).app (.cons ⟨T4, u, SqT.of upd_same, ?_, hkd.same (sm.trans s9)⟩ .nil))
          rw [show paV (pp ++ [i]) = paV pp ++ [V.int (i : Int)] by unfold paV; rw [List.map_append]; rfl]
          exact sqt_same sT3 (SqT.of upd_same)
    · rintro G ⟨rs, e, hP, sm⟩
      have lk := hk.len
      have lpk : (pkids pp t).length = t.kids.length := by rw [← pkids_snd pp t, List.length_map]
      rw [List.length_map, List.take_of_length_le (by omega)] at hP
      have hD0 : H D = none := by
        cases z : H D with
        | none => rfl
        | some u => exact absurd (s1 _ _ z) (by rw [hD]; intro q; cases q)
      exact k D rs G (s1.trans sm) hD0 e hP
end
end K24

namespace K24
open PySem PySem.Spec PyProof.Rows L2 Ow
theorem none_same {H G : Hp} (s : Same H G) {D : Addr} (hD : G D = none) : H D = none := by
  cases z : H D with
  | none => rfl
  | some u => exact absurd (s _ _ z) (by rw [hD]; intro q; cases q)
def lenAt (σ : L2.St) (i : Nat) (G : Hp) : Nat := match σ[i]? with
  | some (some (V.ref b)) => (match G b with
    | some (.lst zs) => zs.length
    | _ => 0)
  | _ => 0
section
variable {P : Program} {w : World} {K : PySem.W.Frag} {mg : Str → Option Value} {base : Heap} {f : Addr} {fd : FuncData}
theorem ok_pc (F : FnP K "_parts_checked" sPartsChecked f fd) (Y : Fx w K mg) : FnOk P w K mg base CX0 3 f fd ["frame", "value"] (spPC K) := by
  obtain ⟨d1, F1⟩ := Y.dBelow
  have b1 := FunD.bindsN (ps := ["path", "part"]) F1 fun _ _ _ _ _ _ us hl => match us, hl with | [_, _], _ => rfl
  have G1 : FnOk P w K mg base CX0 2 _ d1 ["path", "part"] (spBe K) := ok_be F1 Y
  refine okD F scPC (fun vs H Q E h => ?_) (fun cdv A outer s H vs Q E hr h => ?_)
  · obtain ⟨a, t, rfl, _⟩ := h
    rfl
  · have nd := scPC.nd
    refine ⟨_, pss_cons (ps_set (i := 2) nd rfl (Or.inl rfl) (pe_lst pa_nil))
      (pss_cons (ps_set (i := 3) nd rfl (Or.inl rfl) (pe_lst (pa_cons (pe_tup (pa_cons (pe_tup pa_nil) (pa_cons (pv 1) pa_nil))) pa_nil)))
      (pss_cons (ps_while PassesOwn.never (pt_truth (pv 3) (by intro _; rfl))
        (pss_cons (ps_asg (pe_bm0 PySem.F.plainAttrs_list PySem.F.slot_list_pop PySem.F.type_list_pop mt_pop (pv 3)) (pg_tup rfl (pgs_cons (pg_name (i := 4) nd rfl (Or.inl rfl)) (pgs_cons (pg_name (i := 5) nd rfl (Or.inl rfl)) pgs_nil))))
        (pss_cons (ps_ifN (pw_andF (pt_cmpR op_notN (pv 0) pe_non (nomark _))).pt pss_nil)
        (pss_cons (ps_expr (pe_bm PySem.F.plainAttrs_list PySem.F.slot_list_append PySem.F.type_list_append mt_append (pv 2) (pa_cons (pe_tup (pa_cons (pv 4) (pa_cons (pv 5) pa_nil))) pa_nil)))
        (pss_one (ps_expr (pe_bm PySem.F.plainAttrs_list PySem.F.slot_list_extend PySem.F.type_list_extend mt_extend (pv 3) (pa_cons (pe_rev (pe_call G1 hr (by rfl) Y.gBelow F1.kp b1 .nil pass0 (pa_cons (pv 4) (pa_cons (pv 5) pa_nil))) (pe_un un_neg pe_int)) pa_nil))))))))
      (pss_one (ps_ret (pv 2))))), ?_⟩
    obtain ⟨a, t, rfl, ha, rt, z4, k⟩ := h
    refine ⟨szl (by show 0 ≤ 1000; decide), fun Fd hF => ?_⟩
    have s0 := same_upd (o := .lst []) hF
    refine ⟨szl (by show 0 ≤ 1000; decide), fun T0 hT0 => ?_⟩
    have s1 := same_upd (o := .tup []) hT0
    refine ⟨_, rfl, szl (by show 2 ≤ 1000; decide), fun T1 hT1 => ?_⟩
    have s2 := same_upd (o := .tup [V.ref T0, V.ref a]) hT1
    refine ⟨szl (by show 1 ≤ 1000; decide), fun Wt hW => ?_⟩
    have s3 := same_upd (o := .lst [V.ref T1]) hW
    have e3F := s3 _ _ (s2 _ _ (s1 _ _ (upd_same : upd H Fd (.lst []) Fd = _)))
    have e3W := (upd_same : upd (upd (upd (upd H Fd (.lst [])) T0 (.tup [])) T1 (.tup [V.ref T0, V.ref a])) Wt (.lst [V.ref T1]) Wt = _)
    have q3 : SqT K (upd (upd (upd (upd H Fd (.lst [])) T0 (.tup [])) T1 (.tup [V.ref T0, V.ref a])) Wt (.lst [V.ref T1])) T1 [.ref T0, .ref a] := sqt_same s3 (SqT.of upd_same)
    have q4 : SqT K (upd (upd (upd (upd H Fd (.lst [])) T0 (.tup [])) T1 (.tup [V.ref T0, V.ref a])) Wt (.lst [V.ref T1])) T0 [] := sqt_same (s2.trans s3) (SqT.of upd_same)
    have s9 := s0.trans (s1.trans (s2.trans s3))
    have hW0 : H Wt = none := none_same (s0.trans (s1.trans s2)) hW
    have nFW : Fd ≠ Wt := fun q => by
      subst q
      have z := (s1.trans s2) _ _ (upd_same : upd H Fd (.lst []) Fd = _)
      rw [hW] at z
      cases z
    have ha9 := ha.same s9
    obtain ⟨G0, eG⟩ : ∃ Z, Z = upd (upd (upd (upd H Fd (.lst [])) T0 (.tup [])) T1 (.tup [V.ref T0, V.ref a])) Wt (.lst [V.ref T1]) := ⟨_, rfl⟩
    dsimp only [gName]
    change tSeq (tWhile _ _) _ _ [some .non, some (.ref a), some (.ref Fd), some (.ref Wt), none, none] (upd (upd (upd (upd H Fd (.lst [])) T0 (.tup [])) T1 (.tup [V.ref T0, V.ref a])) Wt (.lst [V.ref T1]))
    rw [← eG] at e3F e3W q3 q4 s9 ha9 ⊢
    clear eG s0 s1 s2 s3 hW hT1 hT0
    refine while_by (fun σ G => ∃ (rs ws : List Addr) (ts us : List PaT) (v4 v5 : Option V), σ = [some .non, some (.ref a), some (.ref Fd), some (.ref Wt), v4, v5] ∧ G Fd = some (.lst (rs.map V.ref)) ∧ G Wt = some (.lst (ws.map V.ref)) ∧ Prs K G rs ts ∧ Prs K G ws us ∧ (∀ x ∈ us, Rt x.2 ∧ x.1.length ≤ rs.length) ∧ ts ++ us.reverse.flatMap (fun x => ppre x.1 x.2) = ppre [] t ∧ Same H G)
      (fun σ G => t.sz - lenAt σ 2 G) ⟨[], [T1], [], [([], t)], none, none, rfl, e3F, e3W, .nil, .cons ⟨T0, a, q3, q4, ha9⟩ .nil, fun u hu => by rw [List.mem_singleton.mp hu]; exact ⟨rt, Nat.le_refl _⟩, by simp, s9⟩ ?_ ?_
    · rintro σ G ⟨rs, ws, ts, us, v4, v5, rfl, eF, eW, P1, P2, hR, hsum, sm⟩
      have l1 := P1.len
      have l2 := P2.len
      have lsum := congrArg List.length hsum
      rw [List.length_append, ppre_len] at lsum
      refine ⟨_, rfl, !(ws.map V.ref).isEmpty, .inl ⟨_, SqL.of eW, rfl⟩, ?_⟩
      rcases List.eq_nil_or_concat ws with rfl | ⟨ws', r, rfl⟩
      · refine iteF ?_
        rw [List.length_eq_zero_iff.mp l2.symm] at hsum
        have e : ts = ppre [] t := by rw [← hsum]; simp
        subst e
        exact ⟨_, rfl, k Fd rs G sm hF eF P1⟩
      · rw [List.concat_eq_append] at *
        have ne : (!((ws' ++ [r]).map V.ref).isEmpty) = true := by simp
        rw [ne]
        refine iteT ?_
        obtain ⟨us', ⟨pu, u⟩, rfl, P3, q, ua, h1, h2, h4⟩ := P2.last
        obtain ⟨hRu, lpu⟩ := hR (pu, u) (List.mem_append_right _ List.mem_cons_self)
        replace hRu : Rt u := hRu
        replace lpu : pu.length ≤ rs.length := lpu
        have hsum2 : (ts ++ [(pu, u)]) ++ (us' ++ (pkids pu u).reverse).reverse.flatMap (fun x => ppre x.1 x.2) = ppre [] t := by
          rw [← hsum]
          simp only [List.reverse_append, List.reverse_reverse, List.reverse_cons, List.reverse_nil, List.nil_append, List.flatMap_append, List.append_assoc, List.singleton_append, List.flatMap_cons, List.cons_append]
          rw [ppre_kids pu u]
          simp
        have lsum2 := congrArg List.length hsum2
        rw [List.length_append, List.length_append, ppre_len] at lsum2
        have ll2 := P3.len
        have mk : ∀ v ∈ pkids pu u, Rt v.2 ∧ v.1.length ≤ rs.length + 1 := fun v hv => by
          refine ⟨hRu.kids v.2 (by rw [← pkids_snd pu u]; exact List.mem_map_of_mem hv), ?_⟩
          have q : v.1.length = pu.length + 1 := by
            cases u with
            | leaf w ss => cases hv
            | one w t => rw [List.mem_singleton.mp hv]; simp
            | two w s t =>
              rcases List.mem_cons.mp hv with z | z
              · rw [z]; simp
              · rw [List.mem_singleton.mp z]; simp
          omega
        have hku : ∀ v ∈ us' ++ (pkids pu u).reverse, Rt v.2 ∧ v.1.length ≤ rs.length + 1 := fun v hv => by
          rcases List.mem_append.mp hv with z | z
          · have q := hR v (List.mem_append_left _ z)
            exact ⟨q.1, Nat.le_succ_of_le q.2⟩
          · exact mk v (List.mem_reverse.mp z)
        have pos_len : ∀ l : List PaT, l.length ≤ (l.flatMap fun x => ppre x.1 x.2).length := fun l => by
          induction l with
          | nil => exact Nat.le_refl _
          | cons x l ih =>
            rw [List.flatMap_cons, List.length_append, List.length_cons, ppre_len]
            have : 1 ≤ x.2.sz := by cases x.2 <;> simp only [Tm.sz] <;> omega
            omega
        have lu := pos_len (us' ++ (pkids pu u).reverse).reverse
        rw [List.length_reverse, List.length_append, List.length_reverse] at lu
        simp only [List.length_cons, List.length_nil] at lsum2
        have l9 : rs.length ≤ 399 := by omega
        refine ⟨_, rfl, .inl ⟨rfl, _, SqL.of eW⟩, Wt, _, .ref r, rfl, rfl, eW, by rw [List.map_append, List.length_append, List.map_cons, List.map_nil, List.length_cons, List.length_nil, Nat.add_sub_cancel]; simp, ?_⟩
        rw [List.map_append, List.map_cons, List.map_nil, List.dropLast_concat]
        have smA := same_put (o := .lst (ws'.map V.ref)) hW0 sm
        have eFA : upd G Wt (.lst (ws'.map V.ref)) Fd = some (.lst (rs.map V.ref)) := (upd_ne nFW).trans eF
        have eWA : upd G Wt (.lst (ws'.map V.ref)) Wt = some (.lst (ws'.map V.ref)) := upd_same
        have P1A := P1.put (o := .lst (ws'.map V.ref)) eW
        have P3A := P3.put (o := .lst (ws'.map V.ref)) eW
        have h1A := sqt_put (o := .lst (ws'.map V.ref)) eW h1
        have h2A := sqt_put (o := .lst (ws'.map V.ref)) eW h2
        have h4A := h4.put (o := .lst (ws'.map V.ref)) eW
        generalize upd G Wt (.lst (ws'.map V.ref)) = GA at smA eFA eWA P1A P3A h1A h2A h4A ⊢
        refine ⟨r, _, rfl, h1A, rfl, _, _, rfl, _, _, rfl, rfl, ?_⟩
        dsimp only
        change tSeq _ _ _ [some .non, some (.ref a), some (.ref Fd), some (.ref Wt), some (.ref q), some (.ref ua)] GA
        refine ⟨_, rfl, rfl, rfl, _, rfl, rfl, rfl, ?_⟩
        change tSeq _ _ _ [some .non, some (.ref a), some (.ref Fd), some (.ref Wt), some (.ref q), some (.ref ua)] GA
        refine ⟨_, rfl, .inl ⟨rfl, _, SqL.of eFA⟩, _, rfl, _, rfl, szl (by show 2 ≤ 1000; decide), fun T hT => ?_⟩
        have sT := same_upd (o := .tup [V.ref q, V.ref ua]) hT
        have eFB := sT _ _ eFA
        refine ⟨Fd, _, _, rfl, rfl, eFB, by rw [List.length_map]; exact small1000 (by omega), ?_⟩
        have nm : rs.map V.ref ++ [V.ref T] = (rs ++ [T]).map V.ref := by rw [List.map_append]; rfl
        rw [nm]
        have prT : Pr K (upd GA T (.tup [V.ref q, V.ref ua])) T (pu, u) := ⟨q, ua, SqT.of upd_same, sqt_same sT h2A, h4A.same sT⟩
        have P1B := ((P1A.same sT).app (.cons prT .nil)).put (o := .lst ((rs ++ [T]).map V.ref)) eFB
        have P3B := (P3A.same sT).put (o := .lst ((rs ++ [T]).map V.ref)) eFB
        have h2B := sqt_put (o := .lst ((rs ++ [T]).map V.ref)) eFB (sqt_same sT h2A)
        have h4B := (h4A.same sT).put (o := .lst ((rs ++ [T]).map V.ref)) eFB
        have smB := same_put (o := .lst ((rs ++ [T]).map V.ref)) hF (smA.trans sT)
        have eFC : upd (upd GA T (.tup [V.ref q, V.ref ua])) Fd (.lst ((rs ++ [T]).map V.ref)) Fd = some (.lst ((rs ++ [T]).map V.ref)) := upd_same
        have eWC : upd (upd GA T (.tup [V.ref q, V.ref ua])) Fd (.lst ((rs ++ [T]).map V.ref)) Wt = some (.lst (ws'.map V.ref)) := (upd_ne nFW.symm).trans (sT _ _ eWA)
        generalize upd (upd GA T (.tup [V.ref q, V.ref ua])) Fd (.lst ((rs ++ [T]).map V.ref)) = GB at P1B P3B h2B h4B smB eFC eWC ⊢
        refine ⟨_, rfl, .inl ⟨rfl, _, SqL.of eWC⟩, _, rfl, _, rfl, q, ua, pu, u, rfl, h2B, by omega, h4B, hRu, fun L rs2 GC sC hL eL hP => ?_⟩
        refine ⟨_, rfl, rfl, L, _, rfl, .inl ⟨SqL.of eL, fun p hp => ?_⟩⟩
        have sp := same_upd (o := .lst (rs2.map V.ref).reverse) hp
        have eWD := sp _ _ (sC _ _ eWC)
        have lr2 := hP.len
        refine ⟨Wt, p, _, _, rfl, rfl, eWD, upd_same, szl (by rw [List.length_map, List.length_reverse, List.length_map]; omega), ?_⟩
        have nm2 : ws'.map V.ref ++ (rs2.map V.ref).reverse = (ws' ++ rs2.reverse).map V.ref := by rw [List.map_append, List.map_reverse]
        rw [nm2]
        have eFD := (upd_ne (o := HO.lst ((ws' ++ rs2.reverse).map V.ref)) nFW).trans (sp _ _ (sC _ _ eFC))
        have lr : (rs ++ [T]).length = rs.length + 1 := by rw [List.length_append]; rfl
        refine ⟨⟨rs ++ [T], ws' ++ rs2.reverse, ts ++ [(pu, u)], us' ++ (pkids pu u).reverse, _, _, rfl, eFD, upd_same, ?_, ?_, by rw [lr]; exact hku, hsum2, same_put hW0 (smB.trans (sC.trans sp))⟩, ?_⟩
        · exact (P1B.same (sC.trans sp)).put eWD
        · exact ((P3B.same (sC.trans sp)).app (hP.same sp).rev).put eWD
        · show t.sz - (match upd (upd GC p (.lst (rs2.map V.ref).reverse)) Wt (.lst ((ws' ++ rs2.reverse).map V.ref)) Fd with
            | some (HO.lst zs) => zs.length
            | _ => 0) < t.sz - (match G Fd with
            | some (HO.lst zs) => zs.length
            | _ => 0)
          rw [eFD, eF]
          dsimp only
          rw [List.length_map, List.length_map, lr]
          omega
    · rintro σ G Q1 Q2 hq ⟨v, e1, b, e2, z⟩
      exact ⟨v, e1, b, e2, hq _ _ z⟩
end
end K24

namespace K24
open PySem PySem.Spec PyProof.Rows L2 Ow
/-- at the addresses stand the paths -/
inductive Pas (K : PySem.W.Frag) (H : Hp) : List Addr → List (List Nat) → Prop
  | nil : Pas K H [] []
  | cons {a : Addr} {p : List Nat} {as : List Addr} {ps : List (List Nat)} : SqT K H a (paV p) → Pas K H as ps → Pas K H (a :: as) (p :: ps)
section
variable {K : PySem.W.Frag} {H H' : Hp}
theorem Pas.same (s : Same H H') : ∀ {as : List Addr} {ts : List (List Nat)}, Pas K H as ts → Pas K H' as ts
  | _, _, .nil => .nil
  | _, _, .cons h g => .cons (sqt_same s h) (g.same s)
theorem Pas.put {D : Addr} {l : List V} {o : HO} (e : H D = some (.lst l)) : ∀ {as : List Addr} {ts : List (List Nat)}, Pas K H as ts → Pas K (upd H D o) as ts
  | _, _, .nil => .nil
  | _, _, .cons h g => .cons (sqt_put e h) (g.put e)
theorem Pas.len : ∀ {as : List Addr} {ts : List (List Nat)}, Pas K H as ts → as.length = ts.length
  | _, _, .nil => rfl
  | _, _, .cons _ g => congrArg Nat.succ g.len
theorem Pas.app : ∀ {as bs : List Addr} {ts us : List (List Nat)}, Pas K H as ts → Pas K H bs us → Pas K H (as ++ bs) (ts ++ us)
  | _, _, _, _, .nil, g => g
  | _, _, _, _, .cons h r, g => .cons h (r.app g)
end
def patD (p : List Nat) : PyData := .tuple ((p.map fun n : Nat => (n : Int)).map PyData.int)
theorem paV_ints (p : List Nat) : paV p = (p.map fun n : Nat => (n : Int)).map V.int := by
  unfold paV
  rw [List.map_map]
  rfl
theorem dp_pat {K : PySem.W.Frag} {H : Hp} {a : Addr} {p : List Nat} (h : SqT K H a (paV p)) : Dp K H (.ref a) (patD p) := by
  rw [paV_ints] at h
  exact .tup h (dpa_ints _)
theorem dpa_pas {K : PySem.W.Frag} {H : Hp} : ∀ {as : List Addr} {ps : List (List Nat)}, Pas K H as ps → DpAll K H (as.map V.ref) (ps.map patD)
  | _, _, .nil => .nil
  | _, _, .cons h g => .cons (dp_pat h) (dpa_pas g)
theorem lay_pas : ∀ ps : List (List Nat), PyData.canLayAll0 (ps.map patD) = true
  | [] => by simp [PyData.canLayAll0]
  | p :: ps => by
    have e := lay_ints (p.map fun n : Nat => (n : Int))
    simp only [List.map_cons, PyData.canLayAll0, patD, PyData.canLay0, e, lay_pas ps, Bool.and_self]
theorem dep_pas : ∀ ps : List (List Nat), PyData.depthAll (ps.map patD) ≤ 1
  | [] => by simp [PyData.depthAll]
  | p :: ps => by
    have c := dep_pas ps
    simp only [List.map_cons, PyData.depthAll, patD, PyData.depth, dep_ints]
    omega
/-- two lists of the same paths compared -/
theorem ne_pas {K : PySem.W.Frag} {H : Hp} {a b : Addr} {as bs : List Addr} {ps : List (List Nat)} {Q : VK} (h1 : SqL K H a (as.map V.ref)) (h2 : SqL K H b (bs.map V.ref)) (g1 : Pas K H as ps) (g2 : Pas K H bs ps) (k : Q (.bl false) H) : rNeD K (.ref a) (.ref b) H Q := by
  have c : (PyData.list (ps.map patD)).canLay0 = true := by simpa [PyData.canLay0] using lay_pas ps
  have s : SeqAt.shaped (.list (ps.map patD)) = true := shp_of c (by
    have := dep_pas ps
    simp only [PyData.depth]
    omega)
  exact ⟨.list (ps.map patD), .list (ps.map patD), .lst h1 (dpa_pas g1), .lst h2 (dpa_pas g2), s, s, by rw [SeqAt.eqv_refl _ c]; exact k⟩
abbrev NPs : List Str := ["term", "path", "_"]
theorem scPs : FnScope NPs ["term"] (defScope sPaths) := ⟨rfl, rfl, rfl, by decide +kernel, rfl, by decide +kernel, by decide +kernel⟩
def spPs (K : PySem.W.Frag) : Sp := fun vs H Q _ => ∃ (a : Addr) (t : Tm), vs = [.ref a] ∧ TmAt K H a t ∧ Rt t ∧ t.sz ≤ 400 ∧ ∀ (L : Addr) (qs : List Addr) (H' : Hp), Same H H' → H L = none → H' L = some (.lst (qs.map V.ref)) → Pas K H' qs ((ppre [] t).map (·.1)) → Q (.ref L) H'
section
variable {P : Program} {w : World} {K : PySem.W.Frag} {mg : Str → Option Value} {base : Heap} {f : Addr} {fd : FuncData}
theorem ok_po (F : FnP K "parts_of" sPartsOf f fd) (Y : Fx w K mg) : FnOk P w K mg base CX0 4 f fd ["term"] (spPO K) := by
  obtain ⟨d1, F1⟩ := Y.dPartsChecked
  have b1 := FunD.bindsN (ps := ["frame", "value"]) F1 fun _ _ _ _ _ _ us hl => match us, hl with | [_, _], _ => rfl
  have G1 : FnOk P w K mg base CX0 3 _ d1 ["frame", "value"] (spPC K) := ok_pc F1 Y
  refine okD F scPO (fun vs H Q E h => ?_) (fun cdv A outer s H vs Q E hr h => ?_)
  · obtain ⟨a, t, rfl, _⟩ := h
    rfl
  · have nd := scPO.nd
    refine ⟨_, pss_one (ps_ret (pe_call G1 hr (by rfl) Y.gPartsChecked F1.kp b1 .nil pass0 (pa_cons pe_non (pa_cons (pv 0) pa_nil)))), ?_⟩
    obtain ⟨a, t, rfl, ha, rt, z4, k⟩ := h
    exact ⟨_, rfl, a, t, rfl, ha, rt, z4, k⟩
theorem ok_ps (F : FnP K "paths" sPaths f fd) (Y : Fx w K mg) : FnOk P w K mg base CX0 5 f fd ["term"] (spPs K) := by
  obtain ⟨d1, F1⟩ := Y.dPartsOf
  have b1 := FunD.bindsN (ps := ["term"]) F1 fun _ _ _ _ _ _ us hl => match us, hl with | [_], _ => rfl
  have G1 : FnOk P w K mg base CX0 4 _ d1 ["term"] (spPO K) := ok_po F1 Y
  refine okD F scPs (fun vs H Q E h => ?_) (fun cdv A outer s H vs Q E hr h => ?_)
  · obtain ⟨a, t, rfl, _⟩ := h
    rfl
  · have nd := scPs.nd
    refine ⟨_, pss_one (ps_ret (pe_lc (own := [("path", 1), ("_", 2)]) (g := gTup K 2 (gCons (gName 1) (gCons (gName 2) gNil))) (tt := tYes) (te := tVar 1) rfl nd
      (pi_list (pe_call G1 hr (by rfl) Y.gPartsOf F1.kp b1 .nil pass0 (pa_cons (pv 0) pa_nil))) (blkOk_by (N := NPs) (sc := defScope sPaths) (by decide +kernel))
      (fun _ _ _ _ _ => pg_tup rfl (pgs_cons (pg_name (i := 1) nd rfl (Or.inl rfl)) (pgs_cons (pg_name (i := 2) nd rfl (Or.inl rfl)) pgs_nil))) (fun _ _ _ _ _ => pts_nil)
      (fun _ _ _ _ _ => pv 1))), ?_⟩
    obtain ⟨a, t, rfl, ha, rt, z4, k⟩ := h
    refine ⟨_, rfl, a, t, rfl, ha, rt, z4, fun L rs H1 s1 hL eL hP => ⟨L, rfl, ⟨_, SqL.of eL⟩, fun D hD => ?_⟩⟩
    have lP := hP.len
    rw [ppre_len] at lP
    refine lc_list (K := K) (a := L) (xs := rs.map V.ref) (fun i G => ∃ qs : List Addr, G D = some (.lst (qs.map V.ref)) ∧ Pas K G qs (((ppre [] t).take i).map (·.1)) ∧ Same H1 G) ⟨[], upd_same, .nil, same_upd hD⟩ (fun i G _ ⟨_, _, _, p⟩ => p.seq (SqL.of eL)) ?_ ?_
    · rintro i v G hi ⟨qs, e, hq, sm⟩
      obtain ⟨r, er, rfl⟩ := ref_at hi
      obtain ⟨⟨p, u⟩, eu, q, ua, h1, h2, h4⟩ := hP.get er
      have li := (List.getElem?_eq_some_iff.mp eu).1
      rw [ppre_len] at li
      have lq := hq.len
      rw [List.length_map, List.length_take] at lq
      refine ⟨r, _, rfl, sqt_same sm h1, rfl, _, _, rfl, _, _, rfl, rfl, rfl, _, rfl, ?_⟩
      refine ⟨_, e, ?_, qs ++ [q], ?_, ?_, same_put hD sm⟩
      · rw [List.length_map]
        exact small1000 (by omega)
      · rw [upd_same, List.map_append]
        rfl
      · rw [List.take_add_one, eu, List.map_append]
        exact (hq.app (.cons (sqt_same sm h2) .nil)).put e
    · rintro G ⟨qs, e, hq, sm⟩
      rw [List.length_map, hP.len, List.take_length] at hq
      exact k D qs G (s1.trans sm) (none_same s1 hD) e hq
end
end K24

namespace K24
open PySem PySem.Spec PyProof.Rows L2 Ow
/-! ### the law's own looks at terms -/
abbrev LW : List Str := ["letter", "same", "other", "none", "all"]
abbrev LW4 : List Str := ["same", "other", "none", "all"]
theorem Rt.lw : ∀ {t : Tm}, Rt t → (t.hd ∈ LW ∧ t.kids = []) ∨ (t.hd ∉ LW ∧ t.ss = [])
  | .leaf w ss, h => by
    refine .inl ⟨?_, rfl⟩
    show w ∈ LW
    rcases h with ⟨rfl, _⟩ | ⟨rfl, _⟩ | ⟨rfl, _⟩ | ⟨rfl, _⟩ | ⟨rfl, _⟩ <;> decide +kernel
  | .one w t, h => by
    refine .inr ⟨?_, rfl⟩
    show w ∉ LW
    rcases h.1 with rfl | rfl | rfl | rfl <;> decide +kernel
  | .two w s t, h => by
    refine .inr ⟨?_, rfl⟩
    show w ∉ LW
    rcases h.1 with rfl | rfl | rfl <;> decide +kernel
theorem Rt.lw4 : ∀ {t : Tm}, Rt t → (t.hd ∈ LW4 ∧ t.srt = t.ss ∧ t.kids = [] ∧ t.hd ≠ "letter") ∨ (t.hd ∉ LW4 ∧ t.srt = [] ∧ (t.hd = "letter" ∨ t.ss = []))
  | .leaf w ss, h => by
    rcases h with ⟨rfl, _⟩ | ⟨rfl, _⟩ | ⟨rfl, _⟩ | ⟨rfl, _⟩ | ⟨rfl, _⟩
    · exact .inr ⟨show ("letter" : Str) ∉ LW4 by decide +kernel, rfl, .inl rfl⟩
    · exact .inl ⟨show ("same" : Str) ∈ LW4 by decide +kernel, rfl, rfl, show ("same" : Str) ≠ "letter" by decide +kernel⟩
    · exact .inl ⟨show ("other" : Str) ∈ LW4 by decide +kernel, rfl, rfl, show ("other" : Str) ≠ "letter" by decide +kernel⟩
    · exact .inl ⟨show ("none" : Str) ∈ LW4 by decide +kernel, rfl, rfl, show ("none" : Str) ≠ "letter" by decide +kernel⟩
    · exact .inl ⟨show ("all" : Str) ∈ LW4 by decide +kernel, rfl, rfl, show ("all" : Str) ≠ "letter" by decide +kernel⟩
  | .one w t, h => by
    refine .inr ⟨?_, rfl, .inr rfl⟩
    show w ∉ LW4
    rcases h.1 with rfl | rfl | rfl | rfl <;> decide +kernel
  | .two w s t, h => by
    refine .inr ⟨?_, rfl, .inr rfl⟩
    show w ∉ LW4
    rcases h.1 with rfl | rfl | rfl <;> decide +kernel
theorem fl_strs (ws : List Str) : (ws.map V.str).all flatV = true := by
  rw [List.all_map]
  exact List.all_eq_true.mpr fun _ _ => rfl
theorem cutV_tl (x : V) (xs : List V) : cutV (x :: xs) (some 1) none = xs := by
  have e1 : HT.sIx (x :: xs).length 0 (some 1) = 1 := by
    unfold HT.sIx
    simp
  unfold cutV
  rw [e1, HT.sIx_none]
  show (xs.take _) = xs
  rw [List.length_cons, Nat.add_sub_cancel, List.take_length]
theorem scLP : FnScope ["_law_term_here"] ["_law_term_here"] (defScope sLawParts) := ⟨rfl, rfl, rfl, by decide +kernel, rfl, by decide +kernel, by decide +kernel⟩
theorem ppre_app : ∀ (t : Tm) (p q : List Nat), ppre (p ++ q) t = (ppre q t).map fun x => (p ++ x.1, x.2)
  | .leaf w ss, p, q => rfl
  | .one w t, p, q => by
    show (p ++ q, Tm.one w t) :: ppre (p ++ q ++ [0]) t = _
    rw [List.append_assoc, ppre_app t]
    rfl
  | .two w s t, p, q => by
    show (p ++ q, Tm.two w s t) :: (ppre (p ++ q ++ [0]) s ++ ppre (p ++ q ++ [1]) t) = _
    rw [List.append_assoc, List.append_assoc, ppre_app s, ppre_app t, ← List.map_append]
    rfl
theorem ppre_cons (t : Tm) (i : Nat) : ppre [i] t = (ppre [] t).map fun x => (i :: x.1, x.2) := ppre_app t [i] []
abbrev NLA : List Str := ["_law_term_here", "_law_found", "_law_number", "_law_piece", "_law_path", "_law_part"]
theorem scLA : FnScope NLA ["_law_term_here"] (defScope sLawAllPaths) := ⟨rfl, rfl, rfl, by decide +kernel, rfl, by decide +kernel, by decide +kernel⟩
def spLA (K : PySem.W.Frag) (N : Nat) : Sp := fun vs H Q _ => ∃ (a : Addr) (t : Tm), vs = [.ref a] ∧ TmAt K H a t ∧ Rt t ∧ t.sz ≤ N ∧ ∀ (L : Addr) (rs : List Addr) (H' : Hp), Same H H' → H L = none → H' L = some (.lst (rs.map V.ref)) → Prs K H' rs (ppre [] t) → Q (.ref L) H'
theorem kids_szP {t k : Tm} (h : k ∈ t.kids) : k.sz < t.sz := by
  cases t with
  | leaf w ss => cases h
  | one w u => rw [List.mem_singleton.mp h]; simp only [Tm.sz]; omega
  | two w s u =>
    rcases List.mem_cons.mp h with z | z
    · rw [z]; simp only [Tm.sz]; omega
    · rw [List.mem_singleton.mp z]; simp only [Tm.sz]; omega
theorem ppre_depth : ∀ (t : Tm) (q : List Nat) (x : PaT), x ∈ ppre q t → x.1.length + 1 ≤ q.length + t.sz
  | .leaf w ss, q, x, h => by
    rw [List.mem_singleton.mp h]
    simp only [Tm.sz]
    omega
  | .one w t, q, x, h => by
    rcases List.mem_cons.mp h with z | z
    · rw [z]; simp only [Tm.sz]; omega
    · have := ppre_depth t (q ++ [0]) x z
      rw [List.length_append, List.length_singleton] at this
      simp only [Tm.sz]
      omega
  | .two w s t, q, x, h => by
    rcases List.mem_cons.mp h with z | z
    · rw [z]; simp only [Tm.sz]; omega
    · rcases List.mem_append.mp z with z | z
      · have := ppre_depth s (q ++ [0]) x z
        rw [List.length_append, List.length_singleton] at this
        simp only [Tm.sz]
        omega
      · have := ppre_depth t (q ++ [1]) x z
        rw [List.length_append, List.length_singleton] at this
        simp only [Tm.sz]
        omega
section
variable {P : Program} {w : World} {K : PySem.W.Frag} {mg : Str → Option Value} {base : Heap} {f : Addr} {fd : FuncData}
theorem ok_lp (F : FnP K "_law_parts" sLawParts f fd) (Y : Fx w K mg) : FnOk P w K mg base CX0 1 f fd ["_law_term_here"] (spPB K) := by
  refine okD F scLP (fun vs H Q E h => ?_) (fun cdv A outer s H vs Q E hr h => ?_)
  · obtain ⟨a, t, rfl, _⟩ := h
    rfl
  · have nd := scLP.nd
    refine ⟨_, pss_one (ps_ret (pe_ifExp (pt_cmpR op_in_seq (pe_ix ix_tup (pv 0) pe_int (fun _ _ => rfl)) (pe_lst (pa_cons pe_str (pa_cons pe_str (pa_cons pe_str (pa_cons pe_str (pa_cons pe_str pa_nil)))))) (by rfl)) (pe_tup pa_nil) (pe_slice sl_tupA (pv 0) (po_some pe_int) po_none))), ?_⟩
    obtain ⟨a, t, rfl, ha, rt, k⟩ := h
    obtain ⟨us, hv, hk⟩ := ha.view
    have lk := hk.len
    refine ⟨_, rfl, a, _, 0, _, rfl, rfl, hv, atI_0 _ _, szl (by show 5 ≤ 1000; decide), fun l0 hl0 => ?_⟩
    have s0 := same_upd (o := .lst (LW.map V.str)) hl0
    refine ⟨l0, _, rfl, .inl (SqL.of upd_same), rfl, fl_strs LW, _, rfl, ?_⟩
    rw [if_neg Bool.false_ne_true, show inV (V.str t.hd) [V.str "letter", V.str "same", V.str "other", V.str "none", V.str "all"] = decide (t.hd ∈ LW) from inV_strs t.hd LW]
    refine ite2 (fun hc => ?_) (fun hc => ?_)
    · have hm : t.hd ∈ LW := of_decide_eq_true hc
      have e : t.kids = [] := by
        rcases rt.lw with ⟨_, z⟩ | ⟨z, _⟩
        · exact z
        · exact absurd hm z
      refine ⟨szl (by show 0 ≤ 1000; decide), fun p hp => k p [] _ (s0.trans (same_upd hp)) upd_same ?_⟩
      rw [e]
      exact .nil
    · have hm : t.hd ∉ LW := fun z => hc (decide_eq_true z)
      have e : t.ss = [] := by
        rcases rt.lw with ⟨z, _⟩ | ⟨_, z⟩
        · exact absurd z hm
        · exact z
      refine ⟨_, rfl, _, rfl, a, _, rfl, sqt_same s0 hv, fun hh => absurd ⟨hh.1, trivial⟩ (sIx_1 _ _), fun _ p hp => ?_⟩
      rw [cutV_tl, e, List.map_nil, List.nil_append]
      exact k p us _ (s0.trans (same_upd hp)) upd_same (hk.same (s0.trans (same_upd hp)))
theorem la_step {N k : Nat} (F : FnP K "_law_all_paths" sLawAllPaths (He.ga K "_law_all_paths") fd) (Y : Fx w K mg) (G0 : FnOk P w K mg base CX0 k (He.ga K "_law_all_paths") fd ["_law_term_here"] (spLA K N)) (hk : 1 ≤ k) (hN : N ≤ 400) :
    FnOk P w K mg base CX0 (k + 1) (He.ga K "_law_all_paths") fd ["_law_term_here"] (spLA K (N + 1)) := by
  obtain ⟨d1, F1⟩ := Y.dLawParts
  have b0 := FunD.bindsN (ps := ["_law_term_here"]) F fun _ _ _ _ _ _ us hl => match us, hl with | [_], _ => rfl
  have b1 := FunD.bindsN (ps := ["_law_term_here"]) F1 fun _ _ _ _ _ _ us hl => match us, hl with | [_], _ => rfl
  have G1 : FnOk P w K mg base CX0 1 _ d1 ["_law_term_here"] (spPB K) := ok_lp F1 Y
  refine okD F scLA (fun vs H Q E h => ?_) (fun cdv A outer s H vs Q E hr h => ?_)
  · obtain ⟨a, t, rfl, _⟩ := h
    rfl
  · have nd := scLA.nd
    have hr1 : Room 1 _ := hr.mono hk
    refine ⟨_, pss_cons (ps_set (i := 1) nd rfl (Or.inl rfl) (pe_lst (pa_cons (pe_tup (pa_cons (pe_tup pa_nil) (pa_cons (pv 0) pa_nil))) pa_nil)))
      (pss_cons (ps_for PassesOwn.never rfl (pi_enumA (by rfl) Y.bEnumerate (pa_cons (pe_call G1 hr1 (by rfl) Y.gLawParts F1.kp b1 .nil pass0 (pa_cons (pv 0) pa_nil)) pa_nil)) (pg_tup rfl (pgs_cons (pg_name (i := 2) nd rfl (Or.inr rfl)) (pgs_cons (pg_name (i := 3) nd rfl (Or.inl rfl)) pgs_nil)))
        (pss_one (ps_set (i := 1) nd rfl (Or.inl rfl) (pe_op op_cat (pv 1) (pe_lc (own := [("_law_path", 4), ("_law_part", 5)]) (g := gTup K 2 (gCons (gName 4) (gCons (gName 5) gNil))) (tt := tYes) (te := tTup (tCons (tOp (rCatA K) (tTup (tCons (tVar 2) tNil)) (tVar 4)) (tCons (tVar 5) tNil))) rfl nd
          (pi_list (pe_call G0 hr (by rfl) Y.gLawAllPaths F.kp b0 .nil pass0 (pa_cons (pv 3) pa_nil))) (blkOk_by (N := NLA) (sc := defScope sLawAllPaths) (by decide +kernel))
          (fun _ _ _ _ _ => pg_tup rfl (pgs_cons (pg_name (i := 4) nd rfl (Or.inl rfl)) (pgs_cons (pg_name (i := 5) nd rfl (Or.inl rfl)) pgs_nil))) (fun _ _ _ _ _ => pts_nil)
          (fun _ _ _ _ _ => pe_tup (pa_cons (pe_op op_catA (pe_tup (pa_cons (pv 2) pa_nil)) (pv 4)) (pa_cons (pv 5) pa_nil))))))))
      (pss_one (ps_ret (pv 1)))), ?_⟩
    obtain ⟨a, t, rfl, ha, rt, zN, k⟩ := h
    refine ⟨szl (by show 0 ≤ 1000; decide), fun E0 hE0 => ?_⟩
    have sE := same_upd (o := .tup []) hE0
    refine ⟨_, rfl, szl (by show 2 ≤ 1000; decide), fun T0 hT0 => ?_⟩
    have sT := same_upd (o := .tup [V.ref E0, V.ref a]) hT0
    refine ⟨szl (by show 1 ≤ 1000; decide), fun D0 hD0 => ?_⟩
    have sD := same_upd (o := .lst [V.ref T0]) hD0
    have s0 := sE.trans (sT.trans sD)
    have e0 := (upd_same : upd (upd (upd H E0 (.tup [])) T0 (.tup [V.ref E0, V.ref a])) D0 (.lst [V.ref T0]) D0 = _)
    have ha0 := ha.same s0
    have pr0 : Prs K (upd (upd (upd H E0 (.tup [])) T0 (.tup [V.ref E0, V.ref a])) D0 (.lst [V.ref T0])) [T0] [([], t)] := .cons ⟨E0, a, sqt_same sD (SqT.of upd_same), sqt_same (sT.trans sD) (SqT.of upd_same), ha0⟩ .nil
    have hD00 : H D0 = none := none_same (sE.trans sT) hD0
    dsimp only [gName]
    change tSeq _ _ _ [some (.ref a), some (.ref D0), none, none, none, none] (upd (upd (upd H E0 (.tup [])) T0 (.tup [V.ref E0, V.ref a])) D0 (.lst [V.ref T0]))
    generalize upd (upd (upd H E0 (.tup [])) T0 (.tup [V.ref E0, V.ref a])) D0 (.lst [V.ref T0]) = G0 at e0 ha0 pr0 s0 ⊢
    clear hD0 sD hT0 sT hE0 sE
    refine ⟨_, rfl, a, t, rfl, ha0, rt, fun p us H1 s1 hp hk => ?_⟩
    refine ⟨p, us.map V.ref, rfl, .inr (SqT.of hp), fun J GG wk gk => ?_⟩
    have lk := hk.len
    have lpk : (pkids [] t).length = t.kids.length := by rw [← pkids_snd [] t, List.length_map]
    have tot : ((pkids [] t).flatMap fun x => ppre x.1 x.2).length + 1 = t.sz := by rw [← ppre_len [] t, ppre_kids [] t, List.length_cons]
    refine for_it wk (fun i σ G => ∃ (D : Addr) (ws : List Addr) (v2 v3 : Option V), σ = [some (.ref a), some (.ref D), v2, v3, none, none] ∧ H D = none ∧ G D = some (.lst (ws.map V.ref)) ∧ Prs K G ws (([], t) :: ((pkids [] t).take i).flatMap fun x => ppre x.1 x.2) ∧ Same H1 G)
      ⟨D0, [T0], none, none, rfl, hD00, s1 _ _ e0, pr0.same s1, Same.refl _⟩ (fun i σ G _ ⟨_, _, _, _, _, _, _, _, q⟩ => gk G q) ?_ ?_
    · rintro i v σ G G' hi ⟨D, ws, v2, v3, rfl, hD, eD, hT, sm⟩ ⟨T, x, y, rfl, hTn, rfl, ex, ey⟩
      cases ex
      obtain ⟨b, eb, rfl⟩ := ref_at (show (us.map V.ref)[i]? = some y from ey)
      obtain ⟨kd, ek, hkd⟩ := hk.get eb
      have hkm := List.mem_of_getElem? ek
      have zk := kids_szP hkm
      have ekp := pkids_at (p := []) ek
      have sTn := same_upd (o := .tup [V.int (i : Int), V.ref b]) hTn
      refine ⟨T, _, rfl, SqT.of upd_same, rfl, _, _, rfl, _, _, rfl, rfl, ?_⟩
      dsimp only
      change tAsg _ _ _ [some (.ref a), some (.ref D), some (.int (i : Int)), some (.ref b), none, none] (upd G T (.tup [V.int (i : Int), V.ref b]))
      refine ⟨_, rfl, _, rfl, b, kd, rfl, hkd.same (sm.trans sTn), rt.kids kd hkm, by omega, fun L rs2 G2 s2 hL2 eL2 hP2 => ⟨L, rfl, ⟨_, SqL.of eL2⟩, fun D2 hD2 => ?_⟩⟩
      have smA := sm.trans (sTn.trans s2)
      have lP2 := hP2.len
      rw [ppre_len] at lP2
      have zi : ((i : Int)) = ((i : Nat) : Int) := rfl
      refine lc_list (K := K) (a := L) (xs := rs2.map V.ref) (fun j G => ∃ ws2 : List Addr, G D2 = some (.lst (ws2.map V.ref)) ∧ Prs K G ws2 (((ppre [] kd).take j).map fun x => (i :: x.1, x.2)) ∧ Same G2 G) ⟨[], upd_same, .nil, same_upd hD2⟩ (fun j G _ ⟨_, _, _, q⟩ => q.seq (SqL.of eL2)) ?_ ?_
      · rintro j v G3 hj ⟨ws2, e2, hq, sm2⟩
        obtain ⟨r, er, rfl⟩ := ref_at hj
        obtain ⟨⟨pp, u⟩, eu, q, ua, h1, h2, h4⟩ := hP2.get er
        replace h2 : SqT K G2 q (paV pp) := h2
        have lj := (List.getElem?_eq_some_iff.mp eu).1
        rw [ppre_len] at lj
        have lpp := ppre_depth kd [] (pp, u) (List.mem_of_getElem? eu)
        replace lpp : pp.length + 1 ≤ 0 + kd.sz := lpp
        have lpv : (paV pp).length = pp.length := by unfold paV; rw [List.length_map]
        have lq := hq.len
        rw [List.length_map, List.length_take] at lq
        refine ⟨r, _, rfl, sqt_same sm2 h1, rfl, _, _, rfl, _, _, rfl, rfl, rfl, _, rfl, szl (by show 1 ≤ 1000; decide), fun T2 hT2 => ?_⟩
        have sT2 := same_upd (o := .tup [V.int (i : Int)]) hT2
        refine ⟨_, rfl, T2, q, [.int (i : Int)], paV pp, rfl, rfl, SqT.of upd_same, sqt_same (sm2.trans sT2) h2, szl (by show 1 + (paV pp).length ≤ 1000; omega), fun hx => absurd hx (List.cons_ne_nil _ _), fun _ h0 => ?_, fun _ _ => ?_⟩
        · refine ⟨_, rfl, szl (by show 2 ≤ 1000; decide), fun T3 hT3 => ?_⟩
          have sT3 := same_upd (o := .tup [V.ref T2, V.ref ua]) hT3
          have s9 := sT2.trans sT3
          have e9 := s9 _ _ e2
          refine ⟨_, e9, ?_, ws2 ++ [T3], ?_, ?_, same_put hD2 (sm2.trans s9)⟩
          · rw [List.length_map]
            exact small1000 (by omega)
          · rw [upd_same, List.map_append]
            rfl
          · rw [List.take_add_one, eu, List.map_append]
            have p0 : pp = [] := by cases pp with
              | nil => rfl
              | cons x l => cases h0
            refine Prs.put e9 ((hq.same s9).app (.cons ⟨T2, ua, SqT.of upd_same, ?_, h4.same (sm2.trans s9)⟩ .nil))
            rw [p0]
            exact sqt_same sT3 (show SqT K _ T2 [V.int (i : Int)] from SqT.of upd_same)
        · intro T4 hT4
          have sT4 := same_upd (o := .tup ([V.int (i : Int)] ++ paV pp)) hT4
          refine ⟨_, rfl, szl (by show 2 ≤ 1000; decide), fun T3 hT3 => ?_⟩
          have sT3 := same_upd (o := .tup [V.ref T4, V.ref ua]) hT3
          have s9 := sT2.trans (sT4.trans sT3)
          have e9 := s9 _ _ e2
          refine ⟨_, e9, ?_, ws2 ++ [T3], ?_, ?_, same_put hD2 (sm2.trans s9)⟩
          · rw [List.length_map]
            exact small1000 (by omega)
          · rw [upd_same, List.map_append]
            rfl
          · rw [List.take_add_one, eu, List.map_append]
            exact Prs.put e9 ((hq.same s9).app (.cons ⟨T4, ua, SqT.of upd_same, sqt_same sT3 (show SqT K _ T4 (paV (i :: pp)) from SqT.of upd_same), h4.same (sm2.trans s9)⟩ .nil))
      · rintro G3 ⟨ws2, e2, hq, sm2⟩
        rw [List.length_map, hP2.len, List.take_length, ← ppre_cons] at hq
        have l1 := hT.len
        have l2 := hq.len
        have pl : ((pkids [] t).take (i + 1)).flatMap (fun x => ppre x.1 x.2) = ((pkids [] t).take i).flatMap (fun x => ppre x.1 x.2) ++ ppre [i] kd := by
          rw [List.take_add_one, ekp, List.flatMap_append]
          simp
        have tl : (((pkids [] t).take (i + 1)).flatMap fun x => ppre x.1 x.2).length ≤ ((pkids [] t).flatMap fun x => ppre x.1 x.2).length := by
          conv => rhs; rw [← List.take_append_drop (i + 1) (pkids [] t)]
          rw [List.flatMap_append, List.length_append]
          exact Nat.le_add_right _ _
        rw [pl, List.length_append] at tl
        rw [List.length_cons] at l1
        have smB := smA.trans sm2
        refine ⟨D, D2, _, _, rfl, rfl, sm2 _ _ (s2 _ _ (sTn _ _ eD)), e2, szl (by rw [List.length_map, List.length_map]; omega), fun D3 hD3 => ?_⟩
        have s3 := same_upd (o := .lst (ws.map V.ref ++ ws2.map V.ref)) hD3
        refine ⟨D3, ws ++ ws2, _, _, rfl, none_same (s0.trans (s1.trans smB)) hD3, by rw [upd_same, List.map_append], ?_, smB.trans s3⟩
        rw [pl]
        exact (hT.same (sTn.trans (s2.trans (sm2.trans s3)))).app (hq.same s3)
    · rintro σ G ⟨D, ws, v2, v3, rfl, hD, eD, hT, sm⟩
      rw [List.length_map, List.take_of_length_le (by omega), ← ppre_kids] at hT
      exact ⟨_, rfl, k D ws G (s0.trans (s1.trans sm)) hD eD hT⟩
theorem la_none {fd : FuncData} : FnOk P w K mg base CX0 1 (He.ga K "_law_all_paths") fd ["_law_term_here"] (spLA K 0) := by
  refine ⟨fun vs H Q E h => ?_, fun A outer s H args us vs Q E hr e0 bt r h => ?_⟩
  · obtain ⟨_, t, _, _, _, z, _⟩ := h
    have : 1 ≤ t.sz := by cases t <;> simp only [Tm.sz] <;> omega
    omega
  · obtain ⟨_, t, _, _, _, z, _⟩ := h
    have : 1 ≤ t.sz := by cases t <;> simp only [Tm.sz] <;> omega
    omega
theorem ok_la (F : FnP K "_law_all_paths" sLawAllPaths (He.ga K "_law_all_paths") fd) (Y : Fx w K mg) : ∀ N, N ≤ 400 → FnOk P w K mg base CX0 (N + 1) (He.ga K "_law_all_paths") fd ["_law_term_here"] (spLA K N)
  | 0, _ => la_none
  | N + 1, h => la_step F Y (ok_la F Y N (by omega)) (by omega) (by omega)
end
end K24

namespace K24
open PySem PySem.Spec PyProof.Rows L2 Ow
/-! ### the numbers of parts; the part at a path -/
def numB : V → Nat → Bool
  | .int i, n => decide (0 ≤ i) && decide (i < (n : Int))
  | _, _ => false
/-- what may stand in a path -/
inductive Elt (K : PySem.W.Frag) (H : Hp) : V → Prop
  | int (i : Int) : Elt K H (.int i)
  | bl (b : Bool) : Elt K H (.bl b)
  | non : Elt K H .non
  | str (s : Str) : Elt K H (.str s)
  | tup {a : Addr} {xs : List V} (h : SqT K H a xs) : Elt K H (.ref a)
theorem Elt.same {K : PySem.W.Frag} {H H' : Hp} {x : V} (s : Same H H') : Elt K H x → Elt K H' x
  | .int i => .int i
  | .bl b => .bl b
  | .non => .non
  | .str x => .str x
  | .tup h => .tup (sqt_same s h)
theorem sqt_ty {K : PySem.W.Frag} {H : Hp} {a : Addr} {xs : List V} (h : SqT K H a xs) : TyX K H (.ref a) (.type "tuple") := by
  rcases h with (h | ⟨o, h⟩) | ⟨o, its, n, h, c, _⟩
  · exact .base (.tup h)
  · exact .fTuple h
  · exact .kTuple h c
/-- its type, and what isinstance tells of it -/
theorem Elt.ty {K : PySem.W.Frag} {H : Hp} {x : V} : Elt K H x → ∃ (T : String) (i b : Bool), TyX K H x (.type T) ∧ kitB T "int" = some i ∧ kitB T "bool" = some b ∧ ((i = true ∧ b = false ∧ ∃ j, x = .int j) ∨ ((i = false ∨ b = true) ∧ ∀ n, numB x n = false))
  | .int j => ⟨"int", true, false, .base (.int j), by decide +kernel, by decide +kernel, .inl ⟨rfl, rfl, j, rfl⟩⟩
  | .bl b => ⟨"bool", true, true, .base (.bl b), by decide +kernel, by decide +kernel, .inr ⟨.inr rfl, fun _ => rfl⟩⟩
  | .non => ⟨"NoneType", false, false, .base .non, by decide +kernel, by decide +kernel, .inr ⟨.inl rfl, fun _ => rfl⟩⟩
  | .str s => ⟨"str", false, false, .base (.str s), by decide +kernel, by decide +kernel, .inr ⟨.inl rfl, fun _ => rfl⟩⟩
  | .tup h => ⟨"tuple", false, false, sqt_ty h, by decide +kernel, by decide +kernel, .inr ⟨.inl rfl, fun _ => rfl⟩⟩
abbrev NNB : List Str := ["value", "limit"]
theorem scNB : FnScope NNB ["value", "limit"] (defScope sIsNumberBelow) := ⟨rfl, rfl, rfl, by decide +kernel, rfl, by decide +kernel, by decide +kernel⟩
def spNB (K : PySem.W.Frag) : Sp := fun vs H Q _ => ∃ (x : V) (n : Nat), vs = [x, .int (n : Int)] ∧ Elt K H x ∧ Q (.bl (numB x n)) H
section
variable {P : Program} {w : World} {K : PySem.W.Frag} {mg : Str → Option Value} {base : Heap} {f : Addr} {fd : FuncData}
theorem ok_nb (F : FnP K "is_number_below" sIsNumberBelow f fd) (Y : Fx w K mg) : FnOk P w K mg base CX0 1 f fd ["value", "limit"] (spNB K) := by
  refine okD F scNB (fun vs H Q E h => ?_) (fun cdv A outer s H vs Q E hr h => ?_)
  · obtain ⟨x, n, rfl, _⟩ := h
    rfl
  · refine ⟨_, pss_one (ps_ret (pe_and (pe_callB call_isi (by rfl) Y.bIsinstance boot_isinstance (pa_cons (pv 0) (pa_cons (pe_bltn (v := .ty "int") (u := .type "int") (by rfl) Y.bInt (by decide +kernel) rfl) pa_nil)))
      (pe_and (pe_not (pe_callB call_isi (by rfl) Y.bIsinstance boot_isinstance (pa_cons (pv 0) (pa_cons (pe_bltn (v := .ty "bool") (u := .type "bool") (by rfl) Y.bBool (by decide +kernel) rfl) pa_nil))))
      (pe_one (pe_chain op_le op_lt pe_int (pv 0) (pv 1)))))), ?_⟩
    obtain ⟨x, n, rfl, hx, k⟩ := h
    obtain ⟨T, i, b, ht, ei, eb, hc⟩ := hx.ty
    refine ⟨_, rfl, _, _, _, _, i, rfl, .ty _, ht, kit_ty ei, ?_⟩
    refine ⟨_, rfl, ite2 (fun hi => ?_) (fun hi => ?_)⟩
    · refine ⟨_, rfl, _, _, _, _, b, rfl, .ty _, ht, kit_ty eb, _, rfl, _, rfl, ite2 (fun hb => ?_) (fun hb => ?_)⟩
      · rcases hc with ⟨_, rfl, j, rfl⟩ | ⟨z, z2⟩
        · refine ⟨_, rfl, _, _, rfl, rfl, _, rfl, ite2 (fun h0 => ⟨_, rfl, _, _, rfl, rfl, ?_⟩) (fun h0 => ?_)⟩
          · rw [show numB (V.int j) n = (decide (0 ≤ j) && decide (j < (n : Int))) from rfl, h0, Bool.true_and] at k
            exact k
          · rw [show numB (V.int j) n = (decide (0 ≤ j) && decide (j < (n : Int))) from rfl, Bool.eq_false_iff.mpr h0, Bool.false_and] at k
            exact k
        · exfalso
          rcases z with z | z
          · rw [z] at hi; cases hi
          · rw [z] at hb; cases hb
      · rcases hc with ⟨_, rfl, _⟩ | ⟨_, z⟩
        · exact absurd rfl hb
        · rw [z n] at k
          exact k
    · rcases hc with ⟨z, _⟩ | ⟨_, z⟩
      · exact absurd z hi
      · rw [z n] at k
        exact k
/-! the part at a path -/
def Tm.at : Tm → List Nat → Option Tm
  | t, [] => some t
  | t, i :: p => match t.kids[i]? with
    | some k => k.at p
    | none => none
end
end K24

namespace K24
open PySem PySem.Spec PyProof.Rows L2 Ow
theorem at_take {t : Tm} {p : List Nat} : ∀ {u : Tm}, t.at p = some u → ∀ i, ∃ v, t.at (p.take i) = some v ∧ v.at (p.drop i) = some u := by
  induction p generalizing t with
  | nil =>
    intro u h i
    rw [List.take_nil, List.drop_nil]
    cases h
    exact ⟨_, rfl, rfl⟩
  | cons j p ih =>
    intro u h i
    cases i with
    | zero => exact ⟨t, rfl, h⟩
    | succ i =>
      unfold Tm.at at h
      cases e : t.kids[j]? with
      | none => rw [e] at h; cases h
      | some k =>
        rw [e] at h
        obtain ⟨v, h1, h2⟩ := ih (t := k) h i
        refine ⟨v, ?_, h2⟩
        rw [List.take_succ_cons]
        unfold Tm.at
        rw [e]
        exact h1
theorem at_snoc {t : Tm} {p : List Nat} : ∀ {u : Tm} {j : Nat} {k : Tm}, t.at p = some u → u.kids[j]? = some k → t.at (p ++ [j]) = some k := by
  induction p generalizing t with
  | nil =>
    intro u j k h e
    cases h
    show (match t.kids[j]? with | some k => k.at [] | none => none) = some k
    rw [e]
    rfl
  | cons i p ih =>
    intro u j k h e
    rw [List.cons_append]
    unfold Tm.at at h ⊢
    cases z : t.kids[i]? with
    | none => rw [z] at h; cases h
    | some v =>
      rw [z] at h
      exact ih (t := v) h e
/-- the next number is that of a part -/
theorem at_next {t u : Tm} {p : List Nat} (h : t.at p = some u) {i j : Nat} (e : p[i]? = some j) : ∃ v k, t.at (p.take i) = some v ∧ v.kids[j]? = some k ∧ t.at (p.take (i + 1)) = some k ∧ k.at (p.drop (i + 1)) = some u := by
  obtain ⟨v, h1, h2⟩ := at_take h i
  have dr : p.drop i = j :: p.drop (i + 1) := by
    have l := (List.getElem?_eq_some_iff.mp e)
    obtain ⟨l1, l2⟩ := l
    rw [List.drop_eq_getElem_cons l1, l2]
  rw [dr] at h2
  unfold Tm.at at h2
  cases z : v.kids[j]? with
  | none => rw [z] at h2; cases h2
  | some k =>
    rw [z] at h2
    refine ⟨v, k, h1, z, ?_, h2⟩
    rw [List.take_add_one, e]
    exact at_snoc h1 z
theorem Rt.at {t : Tm} {p : List Nat} : ∀ {u : Tm}, Rt t → t.at p = some u → Rt u := by
  induction p generalizing t with
  | nil => intro u h e; cases e; exact h
  | cons i p ih =>
    intro u h e
    unfold Tm.at at e
    cases z : t.kids[i]? with
    | none => rw [z] at e; cases e
    | some k =>
      rw [z] at e
      exact ih (h.kids k (List.mem_of_getElem? z)) e
theorem at_len {t : Tm} {p : List Nat} : ∀ {u : Tm}, t.at p = some u → p.length + u.sz ≤ t.sz := by
  induction p generalizing t with
  | nil => intro u e; cases e; simp
  | cons i p ih =>
    intro u e
    unfold Tm.at at e
    cases z : t.kids[i]? with
    | none => rw [z] at e; cases e
    | some k =>
      rw [z] at e
      have := ih (t := k) e
      have := kids_szP (List.mem_of_getElem? z)
      rw [List.length_cons]
      omega
theorem paV_at {p : List Nat} {i : Nat} {v : V} (h : (paV p)[i]? = some v) : ∃ j, p[i]? = some j ∧ v = .int (j : Int) := by
  unfold paV at h
  rw [List.getElem?_map] at h
  cases e : p[i]? with
  | none => rw [e] at h; cases h
  | some j => rw [e] at h; exact ⟨j, rfl, (Option.some.inj h).symm⟩
theorem Tms.at {K : PySem.W.Frag} {H : Hp} {as : List Addr} {ts : List Tm} (h : Tms K H as ts) {i : Nat} {t : Tm} (e : ts[i]? = some t) : ∃ a, as[i]? = some a ∧ TmAt K H a t := by
  have l := (List.getElem?_eq_some_iff.mp e).1
  rw [← h.len] at l
  have ea : as[i]? = some as[i] := List.getElem?_eq_getElem l
  obtain ⟨u, e2, g⟩ := h.get ea
  rw [e] at e2
  cases e2
  exact ⟨_, ea, g⟩
theorem num_yes {j n : Nat} (h : j < n) : (!numB (V.int (j : Int)) n) = false := by
  have h1 : (0 : Int) ≤ (j : Int) := by omega
  have h2 : (j : Int) < (n : Int) := by omega
  show (!(decide ((0 : Int) ≤ (j : Int)) && decide ((j : Int) < (n : Int)))) = false
  rw [decide_eq_true h1, decide_eq_true h2]
  rfl
abbrev NPA : List Str := ["term", "path", "part", "number", "below"]
theorem scPA : FnScope NPA ["term", "path"] (defScope sPartAt) := ⟨rfl, rfl, rfl, by decide +kernel, rfl, by decide +kernel, by decide +kernel⟩
def spPA (K : PySem.W.Frag) : Sp := fun vs H Q _ => ∃ (a q : Addr) (t u : Tm) (p : List Nat), vs = [.ref a, .ref q] ∧ TmAt K H a t ∧ Rt t ∧ SqT K H q (paV p) ∧ t.at p = some u ∧ ∀ (b : Addr) (H' : Hp), Same H H' → TmAt K H' b u → Q (.ref b) H'
section
variable {P : Program} {w : World} {K : PySem.W.Frag} {mg : Str → Option Value} {base : Heap} {f : Addr} {fd : FuncData}
theorem ok_pa (F : FnP K "part_at" sPartAt f fd) (Y : Fx w K mg) : FnOk P w K mg base CX0 2 f fd ["term", "path"] (spPA K) := by
  obtain ⟨d1, F1⟩ := Y.dPartsBelow
  obtain ⟨d2, F2⟩ := Y.dIsNumberBelow
  have b1 := FunD.bindsN (ps := ["term"]) F1 fun _ _ _ _ _ _ us hl => match us, hl with | [_], _ => rfl
  have b2 := FunD.bindsN (ps := ["value", "limit"]) F2 fun _ _ _ _ _ _ us hl => match us, hl with | [_, _], _ => rfl
  have G1 : FnOk P w K mg base CX0 1 _ d1 ["term"] (spPB K) := ok_pb F1 Y
  have G2 : FnOk P w K mg base CX0 1 _ d2 ["value", "limit"] (spNB K) := ok_nb F2 Y
  refine okD F scPA (fun vs H Q E h => ?_) (fun cdv A outer s H vs Q E hr h => ?_)
  · obtain ⟨a, q, t, u, p, rfl, _⟩ := h
    rfl
  · have nd := scPA.nd
    refine ⟨_, pss_cons (ps_set (i := 2) nd rfl (Or.inl rfl) (pv 0))
      (pss_cons (ps_for PassesOwn.never rfl (pi_tup (pv 1)) (pg_name (i := 3) nd rfl (Or.inl rfl))
        (pss_cons (ps_set (i := 4) nd rfl (Or.inl rfl) (pe_call G1 hr (by rfl) Y.gPartsBelow F1.kp b1 .nil pass0 (pa_cons (pv 2) pa_nil)))
        (pss_cons (ps_ifN (pt_not (pt_val (pe_call G2 hr (by rfl) Y.gIsNumberBelow F2.kp b2 .nil pass0 (pa_cons (pv 3) (pa_cons (pe_callB call_len_seq (by rfl) Y.bLen PySem.boot_len (pa_cons (pv 4) pa_nil)) pa_nil))))) pss_nil)
        (pss_one (ps_set (i := 2) nd rfl (Or.inl rfl) (pe_ix ix_tup (pv 4) (pv 3) (fun _ _ => rfl)))))))
      (pss_one (ps_ret (pv 2)))), ?_⟩
    obtain ⟨a, q, t, u, p, rfl, ha, rt, hq, hu, k⟩ := h
    refine ⟨_, rfl, ?_⟩
    dsimp only [gName]
    refine ⟨_, rfl, q, rfl, ⟨_, hq⟩, for_it (walk_tup (K := K) (a := q) (xs := paV p)) (fun i σ G => ∃ (b : Addr) (v : Tm) (v3 v4 : Option V), σ = [some (.ref a), some (.ref q), some (.ref b), v3, v4] ∧ TmAt K G b v ∧ t.at (p.take i) = some v ∧ Same H G)
      ⟨a, t, none, none, rfl, ha, rfl, Same.refl _⟩ (fun i σ G _ ⟨_, _, _, _, _, _, _, z⟩ => sqt_same z hq) ?_ ?_⟩
    · rintro i x σ G G' hi ⟨b, v, v3, v4, rfl, hb, hv, sm⟩ ⟨rfl, hx⟩
      obtain ⟨j, ej, rfl⟩ := paV_at hx
      obtain ⟨v', kd, e1, e2, e3, _⟩ := at_next hu ej
      rw [hv] at e1
      cases e1
      dsimp only [gName]
      refine ⟨_, rfl, b, v, rfl, hb, Rt.at rt hv, fun L us H1 s1 hL hk => ?_⟩
      have lk := hk.len
      obtain ⟨kb, eb, hkb⟩ := hk.at e2
      have lj := (List.getElem?_eq_some_iff.mp e2).1
      dsimp only [gName]
      refine ⟨_, rfl, _, rfl, L, us.map V.ref, rfl, .inr (SqT.of hL), .int (j : Int), (us.map V.ref).length, rfl, .int _, _, rfl, num_yes (by rw [List.length_map]; omega), ?_⟩
      refine ⟨_, rfl, _, rfl, L, us.map V.ref, (j : Int), V.ref kb, rfl, rfl, SqT.of hL, atI_nat (by rw [List.getElem?_map, eb]; rfl), ?_⟩
      exact ⟨kb, kd, _, _, rfl, hkb, e3, sm.trans s1⟩
    · rintro σ G ⟨b, v, v3, v4, rfl, hb, hv, sm⟩
      have lp : (paV p).length = p.length := by unfold paV; rw [List.length_map]
      rw [lp, List.take_length, hu] at hv
      cases hv
      exact ⟨_, rfl, k b G sm hb⟩
end
end K24

namespace K24
open PySem PySem.Spec PyProof.Rows L2 Ow
/-! ### the error of a path -/
theorem oexB_ok {K : PySem.W.Frag} {C : Addr} (q : oexB K C = true) : ∃ nm qn N bs bm sn sub ab col dd k0 k1 k2 k3 k5, K.lookup C = some (excClassObj nm qn C N bs bm true sn sub ab col dd k0 k1 k2 k3 k5 "ValueError.__new__") ∧ PySem.HandSPX.refsVE bm = true := by
  unfold oexB at q
  split at q
  · rename_i dd cd sl ho
    split at q
    · rename_i C' bm k0 k1 k2 k3 n k5 hm hs
      simp only [Bool.and_eq_true, beq_iff_eq, Bool.not_eq_true'] at q
      obtain ⟨⟨⟨⟨rfl, rfl⟩, hdel⟩, hdi⟩, ht⟩ := q
      obtain ⟨nm, bs, mro, ns, qn, hd, sn, sub, ab, col, del⟩ := cd
      dsimp only at hm hdel hdi
      subst hm hdel hdi
      have hsl : sl = #[k0, k1, k2, k3, some (.builtin "ValueError.__new__"), k5] := by
        obtain ⟨l⟩ := sl
        simp only at hs
        rw [hs]
      subst hsl
      exact ⟨nm, qn, ns, bs, bm, sn, sub, ab, col, dd, k0, k1, k2, k3, k5, ho, ht⟩
    · cases q
  · cases q
structure BT (K : PySem.W.Frag) : Prop where
  ox : OexC K (CBadTerm K)
  iC : PySem.W.findIn K (.ref (CBadTerm K)) "__init__" = some (some (.ref (He.ma K (CBadTerm K) "__init__")))
  tI : PySem.W.typeIn K (.ref (He.ma K (CBadTerm K) "__init__")) = some (.type "function")
  no : PySem.W.findIn K (.ref (CBadTerm K)) "path" = some none
  xf : XfC K (CBadTerm K)
  te : PySem.W.exmOne K (.ref (CBadTerm K)) (.ref (CBadTerm K)) = some true
theorem Fx.bt {w : World} {K : PySem.W.Frag} {mg : Str → Option Value} (Y : Fx w K mg) : BT K := by
  have h := Y.x1
  unfold btB at h
  obtain ⟨h1, h⟩ := an h
  obtain ⟨h2, h⟩ := an h
  obtain ⟨h3, h⟩ := an h
  obtain ⟨h4, h⟩ := an h
  obtain ⟨h5, h⟩ := an h
  obtain ⟨h6, h⟩ := an h
  obtain ⟨h7, h⟩ := an h
  obtain ⟨h8, h⟩ := an h
  obtain ⟨h9, h⟩ := an h
  obtain ⟨h10, h⟩ := an h
  obtain ⟨h11, h12⟩ := an h
  exact ⟨⟨oexB_ok h1, He.eqO_ok h2, of_decide_eq_true h3, of_decide_eq_true h4, h5⟩, He.eqO_ok h6, of_decide_eq_true h7, He.eqO_ok h8, ⟨He.eqO_ok h9, He.eqO_ok h10, of_decide_eq_true h3, h11⟩, of_decide_eq_true h12⟩
abbrev NBI : List Str := ["self", "path"]
theorem scBI : FnScope NBI ["self", "path"] (defScope sBadTerm_Init) := ⟨rfl, rfl, rfl, by decide +kernel, rfl, by decide +kernel, by decide +kernel⟩
def spBI (K : PySem.W.Frag) : Sp := fun vs H Q _ => ∃ (a q : Addr) (zs : List V), vs = [.ref a, .ref q] ∧ H a = some (exo a (CBadTerm K) none) ∧ SqT K H q zs ∧ ∀ dx, H dx = none → dx ≠ a → Q .non (upd (upd H dx (exd dx [("path", .ref q)])) a (exo a (CBadTerm K) (some dx)))
section
variable {P : Program} {w : World} {K : PySem.W.Frag} {mg : Str → Option Value} {base : Heap} {f : Addr} {fd : FuncData}
theorem ok_bi (F : FnM K "__init__" "BadTerm.__init__" sBadTerm_Init f fd) (Y : Fx w K mg) : FnOk P w K mg base CX0 1 f fd ["self", "path"] (spBI K) := by
  refine okD F scBI (fun vs H Q E h => ?_) (fun cdv A outer s H vs Q E hr h => ?_)
  · obtain ⟨a, q, zs, rfl, _⟩ := h
    rfl
  · refine ⟨_, pss_one (ps_ost (pv 0) (pe_callTy call_tuple_of (by rfl) Y.bTuple (by decide +kernel) (pa_cons (pv 1) pa_nil))), ?_⟩
    obtain ⟨a, q, zs, rfl, ha, hq, k⟩ := h
    exact ⟨_, rfl, q, zs, rfl, .inr ⟨hq, _, rfl, a, CBadTerm K, rfl, Y.bt.ox, Y.bt.no, .inl ⟨ha, fun dx h1 h2 => k dx h1 h2⟩⟩⟩
def spPX (K : PySem.W.Frag) : Sp := fun vs H _ E => ∃ (a q : Addr) (t u : Tm) (p : List Nat) (z : V) (rest : List V), vs = [.ref a, .ref q] ∧ TmAt K H a t ∧ Rt t ∧ SqT K H q (paV p ++ z :: rest) ∧ t.at p = some u ∧ Elt K H z ∧ numB z u.kids.length = false ∧
  ∀ (d : Addr) (H' : Hp), Same H H' → H d = none → H' d = some (.xd [("path", .ref q)]) → E (.ref (CBadTerm K)) (some d) H'
theorem ok_px (F : FnP K "part_at" sPartAt f fd) (Y : Fx w K mg) : FnOk P w K mg base (L2.CX P w) 3 f fd ["term", "path"] (spPX K) := by
  obtain ⟨d1, F1⟩ := Y.dPartsBelow
  obtain ⟨d2, F2⟩ := Y.dIsNumberBelow
  obtain ⟨d3, F3⟩ := Y.dBadTerm_Init
  have b1 := FunD.bindsN (ps := ["term"]) F1 fun _ _ _ _ _ _ us hl => match us, hl with | [_], _ => rfl
  have b2 := FunD.bindsN (ps := ["value", "limit"]) F2 fun _ _ _ _ _ _ us hl => match us, hl with | [_, _], _ => rfl
  have b3 := FunD.bindsN (ps := ["self", "path"]) F3 fun _ _ _ _ _ _ us hl => match us, hl with | [_, _], _ => rfl
  have G1 : FnOk P w K mg base CX0 1 _ d1 ["term"] (spPB K) := ok_pb F1 Y
  have G2 : FnOk P w K mg base CX0 1 _ d2 ["value", "limit"] (spNB K) := ok_nb F2 Y
  have G3 : FnOk P w K mg base CX0 1 _ d3 ["self", "path"] (spBI K) := ok_bi F3 Y
  refine F.ok scPA (fun vs H Q E h => ?_) (fun cdv A outer s H vs Q E hr h => ?_)
  · obtain ⟨a, q, t, u, p, z, rest, rfl, _⟩ := h
    rfl
  · have nd := scPA.nd
    have hr1 : Room 1 _ := hr.mono (by decide)
    refine ⟨_, pss_cons (ps_set (i := 2) nd rfl (Or.inl rfl) (pv 0))
      (pss_cons (ps_for (passes_of rfl) rfl (pi_tup (pv 1)) (pg_name (i := 3) nd rfl (Or.inl rfl))
        (pss_cons (ps_set (i := 4) nd rfl (Or.inl rfl) (pe_call G1 hr1 (by rfl) Y.gPartsBelow F1.kp b1 .nil pass0 (pa_cons (pv 2) pa_nil)))
        (pss_cons (ps_if (pt_not (pt_val (pe_call G2 hr1 (by rfl) Y.gIsNumberBelow F2.kp b2 .nil pass0 (pa_cons (pv 3) (pa_cons (pe_callB call_len_seq (by rfl) Y.bLen PySem.boot_len (pa_cons (pv 4) pa_nil)) pa_nil)))))
          (pss_one (ps_raise rfl (takes_of rfl rfl rfl rfl) (pmk_oex Y.bt.ox Y.bt.iC Y.bt.tI G3 hr b3 .nil pass0 (by rfl) Y.gBadTerm (pa_cons (pv 1) pa_nil)))) pss_nil)
        (pss_one (ps_set (i := 2) nd rfl (Or.inl rfl) (pe_ix ix_tup (pv 4) (pv 3) (fun _ _ => rfl)))))))
      (pss_one (ps_ret (pv 2)))), ?_⟩
    obtain ⟨a, q, t, u, p, z, rest, rfl, ha, rt, hq, hu, hz, nz, k⟩ := h
    have lp : (paV p).length = p.length := by unfold paV; rw [List.length_map]
    refine ⟨_, rfl, ?_⟩
    dsimp only [gName]
    refine ⟨_, rfl, q, rfl, ⟨_, hq⟩, for_it (walk_tup (K := K) (a := q) (xs := paV p ++ z :: rest)) (fun i σ G => ∃ (b : Addr) (v : Tm) (v3 v4 : Option V), σ = [some (.ref a), some (.ref q), some (.ref b), v3, v4] ∧ i ≤ p.length ∧ TmAt K G b v ∧ t.at (p.take i) = some v ∧ Same H G)
      ⟨a, t, none, none, rfl, Nat.zero_le _, ha, rfl, Same.refl _⟩ (fun i σ G _ ⟨_, _, _, _, _, _, _, _, z⟩ => sqt_same z hq) ?_ ?_⟩
    · rintro i x σ G G' hi ⟨b, v, v3, v4, rfl, li, hb, hv, sm⟩ ⟨rfl, hx⟩
      dsimp only [gName]
      refine ⟨_, rfl, b, v, rfl, hb, Rt.at rt hv, fun L us H1 s1 hL hk => ?_⟩
      have lk := hk.len
      dsimp only [gName]
      by_cases c : i < p.length
      · rw [List.getElem?_append_left (by omega)] at hx
        obtain ⟨j, ej, rfl⟩ := paV_at hx
        obtain ⟨v', kd, e1, e2, e3, _⟩ := at_next hu ej
        rw [hv] at e1
        cases e1
        obtain ⟨kb, eb, hkb⟩ := hk.at e2
        have lj := (List.getElem?_eq_some_iff.mp e2).1
        refine ⟨_, rfl, _, rfl, L, us.map V.ref, rfl, .inr (SqT.of hL), .int (j : Int), (us.map V.ref).length, rfl, .int _, _, rfl, ?_⟩
        have ny := num_yes (j := j) (n := (us.map V.ref).length) (by rw [List.length_map]; omega)
        refine ite2 (fun hc => absurd (hc.symm.trans ny) (by decide)) (fun _ => ?_)
        refine ⟨_, rfl, _, rfl, L, us.map V.ref, (j : Int), V.ref kb, rfl, rfl, SqT.of hL, atI_nat (by rw [List.getElem?_map, eb]; rfl), ?_⟩
        exact ⟨kb, kd, _, _, rfl, c, hkb, e3, sm.trans s1⟩
      · have ei : i = p.length := by omega
        subst ei
        rw [List.take_length, hu] at hv
        cases hv
        rw [List.getElem?_append_right (by omega), lp, Nat.sub_self] at hx
        cases hx
        refine ⟨_, rfl, _, rfl, L, us.map V.ref, rfl, .inr (SqT.of hL), z, (us.map V.ref).length, rfl, hz.same (sm.trans s1), _, rfl, ?_⟩
        have nz2 : (!numB z (us.map V.ref).length) = true := by rw [List.length_map, lk, nz]; rfl
        refine ite2 (fun _ => ?_) (fun hc => absurd nz2 hc)
        have s9 := sm.trans s1
        refine ⟨_, rfl, (by show 1 ≤ 1000; decide), fun e he => ⟨e, q, _, rfl, upd_same, sqt_same (same_upd he) (sqt_same s9 hq), fun dx h1 h2 => ?_⟩⟩
        have hd1 : H1 dx = none := (upd_ne h2).symm.trans h1
        refine ⟨rfl, dx, _, upd_same, (upd_ne h2).trans upd_same, hd1, k dx _ (fun b o eb => ?_) (none_same s9 hd1) upd_same⟩
        have e1 := s9 _ _ eb
        have n1 := ne_of_none e1 he
        have n2 := ne_of_none e1 hd1
        rw [upd_ne n2, del_ne n1, upd_ne n1, upd_ne n2, upd_ne n1]
        exact e1
    · rintro σ G ⟨b, v, v3, v4, rfl, li, _⟩
      rw [List.length_append, List.length_cons] at li
      omega
end
end K24

namespace K24
open PySem PySem.Spec PyProof.Rows L2 Ow
/-! ### a part put in another one's place -/
def Tm.setk : Tm → Nat → Tm → Tm
  | .leaf w ss, _, _ => .leaf w ss
  | .one w _, _, m => .one w m
  | .two w _ t, 0, m => .two w m t
  | .two w s _, _ + 1, m => .two w s m
def Tm.put : Tm → List Nat → Tm → Tm
  | _, [], s => s
  | t, i :: p, s => match t.kids[i]? with
    | some k => t.setk i (k.put p s)
    | none => t
theorem put_cons {t k : Tm} {i : Nat} {p : List Nat} {s : Tm} (h : t.kids[i]? = some k) : t.put (i :: p) s = t.setk i (k.put p s) := by
  show (match t.kids[i]? with | some k => t.setk i (k.put p s) | none => t) = _
  rw [h]
theorem kid_ss {t k : Tm} {i : Nat} (h : t.kids[i]? = some k) : t.ss = [] := by
  cases t with
  | leaf w ss => cases h
  | one w u => rfl
  | two w s u => rfl
theorem setk_same {t k : Tm} {i : Nat} (h : t.kids[i]? = some k) : t.setk i k = t := by
  cases t with
  | leaf w ss => cases h
  | one w u =>
    cases i with
    | zero => cases h; rfl
    | succ i => cases h
  | two w s u =>
    cases i with
    | zero => cases h; rfl
    | succ i =>
      cases i with
      | zero => cases h; rfl
      | succ i => cases h
/-- putting what stands there changes nothing -/
theorem put_same {t : Tm} {p : List Nat} : ∀ {u : Tm}, t.at p = some u → t.put p u = t := by
  induction p generalizing t with
  | nil => intro u h; cases h; rfl
  | cons i p ih =>
    intro u h
    unfold Tm.at at h
    cases z : t.kids[i]? with
    | none => rw [z] at h; cases h
    | some k =>
      rw [z] at h
      rw [put_cons z, ih h, setk_same z]
theorem setk_rt {t k m : Tm} {i : Nat} (rt : Rt t) (h : t.kids[i]? = some k) (rm : Rt m) : Rt (t.setk i m) := by
  cases t with
  | leaf w ss => cases h
  | one w u => exact ⟨rt.1, rm⟩
  | two w s u =>
    cases i with
    | zero => exact ⟨rt.1, rm, rt.2.2⟩
    | succ i => exact ⟨rt.1, rt.2.1, rm⟩
theorem put_rt {t : Tm} {p : List Nat} {s : Tm} (rs : Rt s) : ∀ {u : Tm}, Rt t → t.at p = some u → Rt (t.put p s) := by
  induction p generalizing t with
  | nil => intro u _ _; exact rs
  | cons i p ih =>
    intro u rt h
    unfold Tm.at at h
    cases z : t.kids[i]? with
    | none => rw [z] at h; cases h
    | some k =>
      rw [z] at h
      rw [put_cons z]
      exact setk_rt rt z (ih (rt.kids k (List.mem_of_getElem? z)) h)
theorem setk_sz {t k m : Tm} {i : Nat} (h : t.kids[i]? = some k) : (t.setk i m).sz + k.sz = t.sz + m.sz := by
  cases t with
  | leaf w ss => cases h
  | one w u =>
    cases i with
    | zero => cases h; simp only [Tm.setk, Tm.sz]; omega
    | succ i => cases h
  | two w s u =>
    cases i with
    | zero => cases h; simp only [Tm.setk, Tm.sz]; omega
    | succ i =>
      cases i with
      | zero => cases h; simp only [Tm.setk, Tm.sz]; omega
      | succ i => cases h
theorem put_sz {t : Tm} {p : List Nat} {s : Tm} : ∀ {u : Tm}, t.at p = some u → (t.put p s).sz + u.sz = t.sz + s.sz := by
  induction p generalizing t with
  | nil => intro u h; cases h; show s.sz + t.sz = t.sz + s.sz; omega
  | cons i p ih =>
    intro u h
    unfold Tm.at at h
    cases z : t.kids[i]? with
    | none => rw [z] at h; cases h
    | some k =>
      rw [z] at h
      rw [put_cons z]
      have a := setk_sz (m := k.put p s) z
      have b := ih h
      omega
theorem cutV_drop (xs : List V) (n : Nat) : cutV xs (some (n : Int)) none = xs.drop n := by
  unfold cutV
  rw [HT.sIx_none, HT.sIx_nat]
  by_cases h : n ≤ xs.length
  · rw [Nat.min_eq_left h, List.take_of_length_le (by rw [List.length_drop]; exact Nat.le_refl _)]
  · rw [Nat.min_eq_right (by omega), List.drop_length, List.take_nil, List.drop_of_length_le (by omega)]
section
variable {K : PySem.W.Frag} {H : Hp} {a b T : Addr} {ys zs xs : List V} {Q : VK} {lo hi : Option Int}
/-- two tuples put together, of any lengths -/
theorem cat_any (h1 : SqT K H a ys) (h2 : SqT K H b zs) (l : ys.length + zs.length ≤ 1000) (k : ∀ (T : Addr) (H' : Hp), Same H H' → SqT K H' T (ys ++ zs) → Q (.ref T) H') : rCatA K (.ref a) (.ref b) H Q :=
  ⟨a, b, ys, zs, rfl, rfl, h1, h2, szl l, fun e => k b H (Same.refl _) (by rw [e]; exact h2), fun _ e => k a H (Same.refl _) (by rw [e, List.append_nil]; exact h1), fun _ _ T hT => k T _ (same_upd hT) (SqT.of upd_same)⟩
/-- a tuple cut -/
theorem slice_any (h : SqT K H a xs) (k : ∀ (T : Addr) (H' : Hp), Same H H' → SqT K H' T (cutV xs lo hi) → Q (.ref T) H') : rSlA K (.ref a) lo hi H Q :=
  ⟨a, xs, rfl, h, fun e => k a H (Same.refl _) (by rw [show cutV xs lo hi = xs by unfold cutV; rw [e.1, e.2]; simp]; exact h), fun _ p hp => k p _ (same_upd hp) (SqT.of upd_same)⟩
/-- a term with another part -/
theorem tm_set {t k m : Tm} {i : Nat} {us : List Addr} {c : Addr} (e : t.kids[i]? = some k) (hk : Tms K H us t.kids) (hm : TmAt K H c m) (hT : SqT K H T ((V.str t.hd :: us.map V.ref).take (i + 1) ++ [V.ref c] ++ (V.str t.hd :: us.map V.ref).drop (i + 2))) : TmAt K H T (t.setk i m) := by
  cases t with
  | leaf w ss => cases e
  | one w u =>
    cases i with
    | zero =>
      cases hk with
      | cons h1 h2 =>
        cases h2
        exact ⟨c, hT, hm⟩
    | succ i => cases e
  | two w s u =>
    cases hk with
    | cons h1 h2 =>
      cases h2 with
      | cons h2 h3 =>
        cases h3
        cases i with
        | zero => exact ⟨c, _, hT, hm, h2⟩
        | succ i =>
          cases i with
          | zero => exact ⟨_, c, hT, h1, hm⟩
          | succ i => cases e
end
/-- a statement that is never left by its end: what follows wants no rules -/
theorem pss_stop {X : Cx} {st : Stmt} {rest : List Stmt} {t : TS} (h1 : PS X st t) : PSs X (st :: rest) (fun D σ H => t { D with nx := fun _ _ => False } σ H) := by
  refine ⟨fun pins s σ H D I h => ?_⟩
  refine wpAny_execs_cons (thn (h1.run pins s σ H _ I h) fun f s1 q => ?_)
  cases f with
  | next => obtain ⟨σ', H', I', q⟩ := q; exact False.elim q
  | ret v => exact q
  | brk => exact q
  | cont => exact q
abbrev NWP : List Str := ["term", "path", "part", "made", "depth", "above", "at"]
theorem scWP : FnScope NWP ["term", "path", "part"] (defScope sWithPart) := ⟨rfl, rfl, rfl, by decide +kernel, rfl, by decide +kernel, by decide +kernel⟩
def spWP (K : PySem.W.Frag) : Sp := fun vs H Q _ => ∃ (a q c : Addr) (t u s : Tm) (p : List Nat), vs = [.ref a, .ref q, .ref c] ∧ TmAt K H a t ∧ Rt t ∧ SqT K H q (paV p) ∧ p.length ≤ 900 ∧ t.at p = some u ∧ TmAt K H c s ∧ ∀ (b : Addr) (H' : Hp), Same H H' → TmAt K H' b (t.put p s) → Q (.ref b) H'
section
variable {P : Program} {w : World} {K : PySem.W.Frag} {mg : Str → Option Value} {base : Heap} {f : Addr} {fd : FuncData}
theorem ok_wp (F : FnP K "with_part" sWithPart f fd) (Y : Fx w K mg) : FnOk P w K mg base CX0 3 f fd ["term", "path", "part"] (spWP K) := by
  obtain ⟨d1, F1⟩ := Y.dPartAt
  have b1 := FunD.bindsN (ps := ["term", "path"]) F1 fun _ _ _ _ _ _ us hl => match us, hl with | [_, _], _ => rfl
  have G1 : FnOk P w K mg base CX0 2 _ d1 ["term", "path"] (spPA K) := ok_pa F1 Y
  refine okD F scWP (fun vs H Q E h => ?_) (fun cdv A outer s H vs Q E hr h => ?_)
  · obtain ⟨a, q, c, t, u, s, p, rfl, _⟩ := h
    rfl
  · have nd := scWP.nd
    refine ⟨_, pss_cons (ps_expr (pe_call G1 hr (by rfl) Y.gPartAt F1.kp b1 .nil pass0 (pa_cons (pv 0) (pa_cons (pv 1) pa_nil))))
      (pss_cons (ps_set (i := 3) nd rfl (Or.inl rfl) (pv 2))
      (pss_cons (ps_for PassesOwn.never rfl (pi_revR (by rfl) Y.bReversed (prg_1 (by rfl) Y.bRange (pe_callB call_len_seq (by rfl) Y.bLen PySem.boot_len (pa_cons (pv 1) pa_nil)))) (pg_name (i := 4) nd rfl (Or.inl rfl))
        (pss_cons (ps_set (i := 5) nd rfl (Or.inl rfl) (pe_call G1 hr (by rfl) Y.gPartAt F1.kp b1 .nil pass0 (pa_cons (pv 0) (pa_cons (pe_slice sl_tupA (pv 1) po_none (po_some (pv 4))) pa_nil))))
        (pss_cons (ps_set (i := 6) nd rfl (Or.inl rfl) (pe_op op_add (pe_ix ix_tup (pv 1) (pv 4) (fun _ _ => rfl)) pe_int))
        (pss_one (ps_set (i := 3) nd rfl (Or.inl rfl) (pe_op op_catA (pe_op op_catA (pe_slice sl_tupA (pv 5) po_none (po_some (pv 6))) (pe_tup (pa_cons (pv 3) pa_nil))) (pe_slice sl_tupA (pv 5) (po_some (pe_op op_add (pv 6) pe_int)) po_none)))))))
      (pss_one (ps_ret (pv 3))))), ?_⟩
    obtain ⟨a, q, c, t, u, s, p, rfl, ha, rt, hq, l9, hu, hc, k⟩ := h
    have lp : (paV p).length = p.length := by unfold paV; rw [List.length_map]
    refine ⟨_, rfl, _, rfl, a, q, t, u, p, rfl, ha, rt, hq, hu, fun b0 H0 s0 _ => ?_⟩
    refine ⟨_, rfl, ?_⟩
    dsimp only [gName]
    refine ⟨_, rfl, q, paV p, rfl, .inr (sqt_same s0 hq), ?_⟩
    have hn : (((paV p).length : Int) - 0).toNat = p.length := by omega
    refine ⟨_, rfl, by decide, by decide, by omega, by omega, ?_⟩
    rw [hn]
    refine for_it walk_rangeC (fun i σ G => ∃ (m : Addr) (v : Tm) (v4 v5 v6 : Option V), σ = [some (.ref a), some (.ref q), some (.ref c), some (.ref m), v4, v5, v6] ∧ t.at (p.take (p.length - i)) = some v ∧ TmAt K G m (v.put (p.drop (p.length - i)) s) ∧ Same H G)
      ⟨c, u, none, none, none, rfl, by rw [Nat.sub_zero, List.take_length]; exact hu, by rw [Nat.sub_zero, List.drop_length]; exact hc.same s0, s0⟩ (fun _ _ _ _ _ => trivial) ?_ ?_
    · rintro i x σ G G' hi ⟨m, v, v4, v5, v6, rfl, hv, hm, sm⟩ hy
      obtain ⟨rfl, ex0⟩ := hy
      obtain ⟨d, ed⟩ : ∃ d : Nat, p.length - i = d + 1 := ⟨p.length - i - 1, by omega⟩
      have ex : (0 : Int) + ((p.length : Nat) : Int) - 1 + ((i : Nat) : Int) * -1 = (d : Int) := by omega
      have ex1 : x = V.int (d : Int) := ex0.trans (congrArg V.int ex)
      clear ex0 ex
      subst ex1
      rw [ed] at hv hm
      have ld : d < p.length := by omega
      obtain ⟨v', kd, e1, e2, e3, _⟩ := at_next hu (List.getElem?_eq_getElem ld)
      rw [hv] at e3
      cases e3
      dsimp only [gName]
      change tSeq _ _ _ [some (.ref a), some (.ref q), some (.ref c), some (.ref m), some (.int (d : Int)), v5, v6] G'
      refine ⟨_, rfl, _, rfl, _, rfl, _, rfl, slice_any (sqt_same sm hq) fun T1 H1 s1 h1 => ?_⟩
      rw [cutV_take, show (paV p).take d = paV (p.take d) by unfold paV; rw [List.map_take]] at h1
      have sm1 := sm.trans s1
      refine ⟨a, T1, t, v', p.take d, rfl, ha.same sm1, rt, h1, e1, fun b H2 s2 hb => ?_⟩
      have sm2 := sm1.trans s2
      obtain ⟨us, hv2, hk⟩ := hb.view
      rw [kid_ss e2, List.map_nil, List.nil_append] at hv2
      dsimp only [gName]
      change tSeq _ _ _ [some (.ref a), some (.ref q), some (.ref c), some (.ref m), some (.int (d : Int)), some (.ref b), v6] H2
      refine ⟨_, rfl, _, rfl, q, paV p, (d : Int), .int ((p[d] : Nat) : Int), rfl, rfl, sqt_same sm2 hq, atI_nat (by unfold paV; rw [List.getElem?_map, List.getElem?_eq_getElem ld]; rfl), _, _, rfl, rfl, ?_⟩
      dsimp only [gName]
      change tAsg _ _ _ [some (.ref a), some (.ref q), some (.ref c), some (.ref m), some (.int (d : Int)), some (.ref b), some (.int (((p[d] : Nat) : Int) + 1))] H2
      rw [show (((p[d] : Nat) : Int) + 1) = ((p[d] + 1 : Nat) : Int) by omega]
      refine ⟨_, rfl, _, rfl, _, rfl, slice_any hv2 fun T2 H3 s3 h3 => ?_⟩
      rw [cutV_take] at h3
      refine ⟨_, rfl, szl (by show 1 ≤ 1000; decide), fun T3 hT3 => ?_⟩
      have sT3 := same_upd (o := .tup [V.ref m]) hT3
      have l3 := hk.len
      have lk := rt.at e1
      have lk2 := lk.pos.2.1
      refine cat_any (sqt_same sT3 h3) (SqT.of upd_same) (by rw [List.length_take, List.length_cons, List.length_map]; show _ + 1 ≤ 1000; omega) fun T4 H4 s4 h4 => ?_
      have s34 := s3.trans (sT3.trans s4)
      refine ⟨_, rfl, _, rfl, _, _, rfl, rfl, _, rfl, ?_⟩
      dsimp only [tNoPart]
      refine slice_any (sqt_same s34 hv2) fun T5 H5 s5 h5 => ?_
      rw [show ((p[d] + 1 : Nat) : Int) + 1 = ((p[d] + 2 : Nat) : Int) by omega] at h5
      rw [cutV_drop] at h5
      refine cat_any (sqt_same s5 h4) h5 (by simp only [List.length_append, List.length_take, List.length_drop, List.length_cons, List.length_map, List.length_nil]; omega) fun T6 H6 s6 h6 => ?_
      have s9 := (s34.trans s5).trans s6
      have sB := sm1.trans (s2.trans s9)
      refine ⟨T6, v', _, _, _, rfl, ?_, ?_, sB⟩
      · rw [show p.length - (i + 1) = d by omega]
        exact e1
      · rw [show p.length - (i + 1) = d by omega, List.drop_eq_getElem_cons ld, put_cons e2]
        exact tm_set e2 (hk.same s9) (hm.same (s1.trans (s2.trans s9))) h6
    · rintro σ G ⟨m, v, v4, v5, v6, rfl, hv, hm, sm⟩
      rw [Nat.sub_self] at hv hm
      cases hv
      exact ⟨_, rfl, k m G sm hm⟩
end
end K24

namespace K24
open PySem PySem.Spec PyProof.Rows L2 Ow
def spWX (K : PySem.W.Frag) : Sp := fun vs H _ E => ∃ (a q c : Addr) (t u : Tm) (p : List Nat) (z : V) (rest : List V), vs = [.ref a, .ref q, .ref c] ∧ TmAt K H a t ∧ Rt t ∧ SqT K H q (paV p ++ z :: rest) ∧ t.at p = some u ∧ Elt K H z ∧ numB z u.kids.length = false ∧
  ∀ (d : Addr) (H' : Hp), Same H H' → H d = none → H' d = some (.xd [("path", .ref q)]) → E (.ref (CBadTerm K)) (some d) H'
abbrev NLP : List Str := ["_law_term_here", "_law_path", "_law_part", "_law_at"]
theorem scLPu : FnScope NLP ["_law_term_here", "_law_path", "_law_part"] (defScope sLawPut) := ⟨rfl, rfl, rfl, by decide +kernel, rfl, by decide +kernel, by decide +kernel⟩
def spLP (K : PySem.W.Frag) (N : Nat) : Sp := fun vs H Q _ => ∃ (a q c : Addr) (t u s : Tm) (p : List Nat), vs = [.ref a, .ref q, .ref c] ∧ TmAt K H a t ∧ Rt t ∧ SqT K H q (paV p) ∧ p.length < N ∧ p.length ≤ 900 ∧ t.at p = some u ∧ TmAt K H c s ∧ ∀ (b : Addr) (H' : Hp), Same H H' → TmAt K H' b (t.put p s) → Q (.ref b) H'
section
variable {P : Program} {w : World} {K : PySem.W.Frag} {mg : Str → Option Value} {base : Heap} {f : Addr} {fd : FuncData}
theorem ok_wx (F : FnP K "with_part" sWithPart f fd) (Y : Fx w K mg) : FnOk P w K mg base (L2.CX P w) 4 f fd ["term", "path", "part"] (spWX K) := by
  obtain ⟨d1, F1⟩ := Y.dPartAt
  have b1 := FunD.bindsN (ps := ["term", "path"]) F1 fun _ _ _ _ _ _ us hl => match us, hl with | [_, _], _ => rfl
  have G1 : FnOk P w K mg base (L2.CX P w) 3 _ d1 ["term", "path"] (spPX K) := ok_px F1 Y
  refine F.ok scWP (fun vs H Q E h => ?_) (fun cdv A outer s H vs Q E hr h => ?_)
  · obtain ⟨a, q, c, t, u, p, z, rest, rfl, _⟩ := h
    rfl
  · have nd := scWP.nd
    refine ⟨_, pss_stop (ps_expr (pe_callS G1 hr (by rfl) Y.gPartAt F1.kp b1 (fun σ => passAt (takes_of rfl rfl rfl rfl) σ) (pa_cons (pv 0) (pa_cons (pv 1) pa_nil)))), ?_⟩
    obtain ⟨a, q, c, t, u, p, z, rest, rfl, ha, rt, hq, hu, hz, nz, k⟩ := h
    exact ⟨_, rfl, _, rfl, a, q, t, u, p, z, rest, rfl, ha, rt, hq, hu, hz, nz, k⟩
theorem lp_step {N k : Nat} (F : FnP K "_law_put" sLawPut (He.ga K "_law_put") fd) (Y : Fx w K mg) (G0 : FnOk P w K mg base CX0 k (He.ga K "_law_put") fd ["_law_term_here", "_law_path", "_law_part"] (spLP K N)) :
    FnOk P w K mg base CX0 (k + 1) (He.ga K "_law_put") fd ["_law_term_here", "_law_path", "_law_part"] (spLP K (N + 1)) := by
  have b0 := FunD.bindsN (ps := ["_law_term_here", "_law_path", "_law_part"]) F fun _ _ _ _ _ _ us hl => match us, hl with | [_, _, _], _ => rfl
  refine okD F scLPu (fun vs H Q E h => ?_) (fun cdv A outer s H vs Q E hr h => ?_)
  · obtain ⟨a, q, c, t, u, s, p, rfl, _⟩ := h
    rfl
  · have nd := scLPu.nd
    have hu64 := hu64_of hr
    refine ⟨_, pss_cons (ps_if (pt_cmpR (op_eqD hu64) (pv 1) (pe_tup pa_nil) (nomark _)) (pss_one (ps_ret (pv 2))) pss_nil)
      (pss_cons (ps_set (i := 3) nd rfl (Or.inl rfl) (pe_op op_add (pe_ix ix_tup (pv 1) pe_int (fun _ _ => rfl)) pe_int))
      (pss_one (ps_ret (pe_op op_catA (pe_op op_catA (pe_slice sl_tupA (pv 0) po_none (po_some (pv 3))) (pe_tup (pa_cons (pe_call G0 hr (by rfl) Y.gLawPut F.kp b0 .nil pass0 (pa_cons (pe_ix ix_tup (pv 0) (pv 3) (fun _ _ => rfl)) (pa_cons (pe_slice sl_tupA (pv 1) (po_some pe_int) po_none) (pa_cons (pv 2) pa_nil)))) pa_nil)))
        (pe_slice sl_tupA (pv 0) (po_some (pe_op op_add (pv 3) pe_int)) po_none))))), ?_⟩
    obtain ⟨a, q, c, t, u, s, p, rfl, ha, rt, hq, lN, l9, hu, hc, k⟩ := h
    have lp : (paV p).length = p.length := by unfold paV; rw [List.length_map]
    refine ⟨_, rfl, szl (by show 0 ≤ 1000; decide), fun T0 hT0 => ?_⟩
    have s0 := same_upd (o := .tup []) hT0
    have shp0 : SeqAt.shaped (PyData.tuple []) = true := shp_tint []
    refine ⟨patD p, .tuple [], dp_pat (sqt_same s0 hq), .tup (SqT.of upd_same) .nil, shp_tint _, shp0, _, rfl, ?_⟩
    rw [show PyData.eqv (patD p) (.tuple []) = decide ((p.map fun n : Nat => (n : Int)) = []) from eqv_ints _ []]
    cases p with
    | nil =>
      cases hu
      refine iteT ?_
      exact ⟨_, rfl, k c _ s0 (hc.same s0)⟩
    | cons j p =>
      refine iteF ?_
      unfold Tm.at at hu
      cases e2 : t.kids[j]? with
      | none => rw [e2] at hu; cases hu
      | some kd =>
        rw [e2] at hu
        replace hu : kd.at p = some u := hu
        rw [List.length_cons] at lN l9
        obtain ⟨us, hv, hk⟩ := ha.view
        rw [kid_ss e2, List.map_nil, List.nil_append] at hv
        obtain ⟨kb, eb, hkb⟩ := hk.at e2
        have lus := (List.getElem?_eq_some_iff.mp eb).1
        have l3 := hk.len
        have lk2 := rt.pos.2.1
        refine ⟨_, rfl, q, paV (j :: p), (0 : Int), .int (j : Int), rfl, rfl, sqt_same s0 hq, (show atI (V.int (j : Int) :: paV p) 0 = some (V.int (j : Int)) from atI_0 _ _), _, _, rfl, rfl, ?_⟩
        dsimp only [gName]
        change tRet _ _ [some (.ref a), some (.ref q), some (.ref c), some (.int ((j : Int) + 1))] _
        rw [show ((j : Int) + 1) = ((j + 1 : Nat) : Int) by omega]
        refine ⟨_, rfl, _, rfl, _, rfl, slice_any (sqt_same s0 hv) fun T2 H3 s3 h3 => ?_⟩
        rw [cutV_take] at h3
        have s03 := s0.trans s3
        refine ⟨_, rfl, _, rfl, a, _, ((j + 1 : Nat) : Int), .ref kb, rfl, rfl, sqt_same s03 hv, atI_nat (by rw [List.getElem?_cons_succ, List.getElem?_map, eb]; rfl), _, rfl, _, rfl, ?_⟩
        dsimp only [tNoPart]
        refine slice_any (sqt_same s03 hq) fun T3 H4 s4 h4 => ?_
        replace h4 : SqT K H4 T3 (paV p) := by
          have z := cutV_tl (V.int (j : Int)) (paV p)
          rw [← z]
          exact h4
        have s04 := s03.trans s4
        refine ⟨_, rfl, kb, T3, c, kd, u, s, p, rfl, hkb.same s04, rt.kids kd (List.mem_of_getElem? e2), h4, by omega, by omega, hu, hc.same s04, fun m H5 s5 hm => ?_⟩
        refine ⟨szl (by show 1 ≤ 1000; decide), fun T4 hT4 => ?_⟩
        have sT4 := same_upd (o := .tup [V.ref m]) hT4
        refine cat_any (sqt_same (s4.trans (s5.trans sT4)) h3) (SqT.of upd_same) (by rw [List.length_take, List.length_cons, List.length_map]; show _ + 1 ≤ 1000; omega) fun T5 H6 s6 h6 => ?_
        have s06 := s04.trans (s5.trans (sT4.trans s6))
        refine ⟨_, rfl, _, rfl, _, _, rfl, rfl, _, rfl, ?_⟩
        dsimp only [tNoPart]
        refine slice_any (sqt_same s06 hv) fun T6 H7 s7 h7 => ?_
        rw [show ((j + 1 : Nat) : Int) + 1 = ((j + 2 : Nat) : Int) by omega, cutV_drop] at h7
        refine cat_any (sqt_same s7 h6) h7 (by simp only [List.length_append, List.length_take, List.length_drop, List.length_cons, List.length_map, List.length_nil]; omega) fun T7 H8 s8 h8 => ?_
        refine k T7 H8 (s06.trans (s7.trans s8)) ?_
        rw [put_cons e2]
        exact tm_set e2 (hk.same (s06.trans (s7.trans s8))) (hm.same (sT4.trans (s6.trans (s7.trans s8)))) h8
theorem lp_none {fd : FuncData} : FnOk P w K mg base CX0 1 (He.ga K "_law_put") fd ["_law_term_here", "_law_path", "_law_part"] (spLP K 0) := by
  refine ⟨fun vs H Q E h => ?_, fun A outer s H args us vs Q E hr e0 bt r h => ?_⟩
  · obtain ⟨_, _, _, _, _, _, p, _, _, _, _, z, _⟩ := h
    omega
  · obtain ⟨_, _, _, _, _, _, p, _, _, _, _, z, _⟩ := h
    omega
theorem ok_lpu (F : FnP K "_law_put" sLawPut (He.ga K "_law_put") fd) (Y : Fx w K mg) : ∀ N, FnOk P w K mg base CX0 (N + 1) (He.ga K "_law_put") fd ["_law_term_here", "_law_path", "_law_part"] (spLP K N)
  | 0 => lp_none
  | N + 1 => lp_step F Y (ok_lpu F Y N)
end
end K24

namespace K24
open PySem PySem.Spec PyProof.Rows L2 Ow
/-! ### repr; defs that are called where nothing is being shown -/
def rRepr (K : PySem.W.Frag) : List V → Hp → VK → Prop := fun xs H Q => ∃ (x : V) (d : PyData), xs = [x] ∧ Dp K H x d ∧ (∃ a, x = .ref a) ∧ d.showable = true ∧ d.hasDict = false ∧ d.depth ≤ 64 ∧ d.shown.length ≤ sizeLine ∧ Q (.str d.shown) H
theorem call_repr {X : Cx} (hg : X.A.guards = some []) (hu : X.A.units + 66 < cLine) : CallR X (.builtin "repr") (rRepr X.K) := by
  intro pins s σ H xs us Q I r ⟨x, d, e, hd, ⟨a, ea⟩, h1, h2, h3, h4, q⟩
  subst e
  subst ea
  obtain ⟨u1, rfl, r1⟩ := vals1 r
  obtain ⟨as, rd⟩ := Dp.reads I d (.ref a) u1 hd r1
  obtain rfl : u1 = Value.ref a := r1
  exact repr_of_reads' rd h1 (fun z => absurd (h2.symm.trans z) (by simp)) hg (by omega) (fun _ _ z => z) (fun h' u tk hk => ⟨.str d.shown, H, I.kept (t' := tk) hk, ⟨u, rfl⟩, q⟩) h4
structure FnG (P : Program) (w : World) (K : PySem.W.Frag) (mg : Str → Option Value) (base : Heap) (k : Nat) (f : Addr) (fd : FuncData) (ps : List Str) (sp : Sp) : Prop where
  len : ∀ vs H Q E, sp vs H Q E → vs.length = ps.length
  run : ∀ (A : Around) (outer : List Env) (s : Shared) (H : Hp) (args : Args) (us : List Value) (vs : List V) (Q : VK) (E : XK), A.guards = some [] → Room k A → Env0 P w K mg base A outer s H → BindsTo s fd args (ps.zip us) → Vals vs us → sp vs H Q E →
    codeAny (model P w) A (.call (.ref f) args) (CR CX0 outer P w H s Q E) s
section
variable {P : Program} {w : World} {K : PySem.W.Frag} {mg : Str → Option Value} {base : Heap}
theorem okG {x qual : Str} {params : Arguments} {body : List Stmt} {scope : Scope} {dvs : List V} {kws : List (Str × V)} {f : Addr} {fd : FuncData} {N ps : List Str} {k : Nat} {sp : Sp} (F : FunD K x qual params body scope dvs kws f fd) (S : FnScope N ps scope) (len : ∀ vs H Q E, sp vs H Q E → vs.length = ps.length)
    (hb : ∀ (cdv : Value) (A : Around) (outer : List Env) (s : Shared) (H : Hp) (vs : List V) (Q : VK) (E : XK), A.guards = some [] → Room k (A.deeper (envOfC qual scope s.heap.objs.size f cdv)) → sp vs H Q E →
      ∃ t, PSs (cxOf CX0 P w K mg base N qual scope f cdv A outer s H E).nox body t ∧ t { nx := fun _ H' => Q .non H', rt := Q } (start N vs) H) : FnG P w K mg base (k + 1) f fd ps sp := by
  obtain ⟨oc, od, dV, kV, doc, pm, an, cdv, ct, osl, rfl, lk, hcd, _, _⟩ := F.ex
  refine ⟨len, fun A outer s H args us vs Q E hg hr e0 bt r hsp => ?_⟩
  have KX : K.In s.heap := e0.mod.kin.keeps fun b o e => (e0.bs b o e).1
  have kinds : ∀ y ∈ ps.zip us, scope.names.lookup y.1 = some .local ∨ (scope.names.lookup y.1 = some .cell ∧ ((cellsFrom (s.heap.objs.size + 1) scope.names []).lookup y.1).isSome = true) := fun y hy =>
    (S.par y.1 (List.of_mem_zip (show (y.1, y.2) ∈ ps.zip us from hy)).1).elim .inl fun q => .inr ⟨q, PySem.W.cellsFrom_some _ _ _ (.inl q)⟩
  refine codeAny_call_function hr.depth (KX _ _ lk) rfl S.co S.gen rfl (PySem.W.codeRec_of KX hcd) (bt _ _ _ _ (wpAny_newFunctionEnv_cells S.kind kinds fun env he s1 z => ?_))
  subst he
  refine ⟨(e0.mod.nolimit.keeps fun b o e => (e0.bs b o e).1).keeps z.toInCall.keep, codeAny_func ?_⟩
  obtain ⟨t, ht, hq⟩ := hb cdv A outer s H vs Q E hg (hr.deeper _) hsp
  refine wpAny_mono (ht.nox.run [] s1 (start N vs) H _ (inv_start S hr.hd e0 (len _ _ _ _ hsp) r z) hq) (fun fl s' hs => ?_) fun _ _ hs => hs
  cases fl with
  | ret u => exact let ⟨v, _, H', J, rv, q⟩ := hs; ⟨v, H', J.os, J.bare, J.base, J.hok, rv, q⟩
  | next => exact let ⟨_, H', J, q⟩ := hs; ⟨V.non, H', J.os, J.bare, J.base, J.hok, rfl, q⟩
  | brk => exact let ⟨_, _, _, q⟩ := hs; False.elim q
  | cont => exact let ⟨_, _, _, q⟩ := hs; False.elim q
end

/-! ### refused paths -/
/-- data that may be shown -/
structure Shw (d : PyData) : Prop where
  s : d.showable = true
  k : d.hasDict = false
  p : d.depth ≤ 64
  l : d.shown.length ≤ sizeLine
abbrev NRf : List Str := ["_law_way", "_law_term_here", "_law_path", "error"]
theorem scRf : FnScope NRf ["_law_way", "_law_term_here", "_law_path"] (defScope sLawRefused) := ⟨rfl, rfl, rfl, by decide +kernel, rfl, by decide +kernel, by decide +kernel⟩
def spRf (K : PySem.W.Frag) : Sp := fun vs H Q _ => ∃ (way : Int) (a q : Addr) (t u : Tm) (p : List Nat) (z : V) (rest : List V) (d : PyData), vs = [.int way, .ref a, .ref q] ∧ TmAt K H a t ∧ Rt t ∧ SqT K H q (paV p ++ z :: rest) ∧ t.at p = some u ∧ Elt K H z ∧ numB z u.kids.length = false ∧
  Shw d ∧ (∀ H', Same H H' → Dp K H' (.ref q) d) ∧ ∀ H', Same H H' → Q (.bl true) H'
def tbRf (K : PySem.W.Frag) (W : WX) : TS := tIfS (tTest (tOp rEq (tVar 0) (tC (.int 0)))) (tDrop (tCallS (spPX K) (WE W) (tCons (tVar 1) (tCons (tVar 2) tNil)))) (tDrop (tCallS (spWX K) (WE W) (tCons (tVar 1) (tCons (tVar 2) (tCons (tVar 1) tNil)))))
def tsRf (K : PySem.W.Frag) (a : Addr) (cls : Value) (d : Option Addr) : TS := tRet (tOp rEq (tCB (rRepr K) (tCons (tXf a cls d (CBadTerm K) "path" (tVar 3)) tNil)) (tCB (rRepr K) (tCons (tVar 2) tNil)))
section
variable {P : Program} {w : World} {K : PySem.W.Frag} {mg : Str → Option Value} {base : Heap} {f : Addr} {fd : FuncData}
theorem ok_rf (F : FnP K "_law_refused" sLawRefused f fd) (Y : Fx w K mg) : FnG P w K mg base 5 f fd ["_law_way", "_law_term_here", "_law_path"] (spRf K) := by
  obtain ⟨d1, F1⟩ := Y.dPartAt
  obtain ⟨d2, F2⟩ := Y.dWithPart
  have b1 := FunD.bindsN (ps := ["term", "path"]) F1 fun _ _ _ _ _ _ us hl => match us, hl with | [_, _], _ => rfl
  have b2 := FunD.bindsN (ps := ["term", "path", "part"]) F2 fun _ _ _ _ _ _ us hl => match us, hl with | [_, _, _], _ => rfl
  have G1 : FnOk P w K mg base (L2.CX P w) 3 _ d1 ["term", "path"] (spPX K) := ok_px F1 Y
  have G2 : FnOk P w K mg base (L2.CX P w) 4 _ d2 ["term", "path", "part"] (spWX K) := ok_wx F2 Y
  refine okG F scRf (fun vs H Q E h => ?_) (fun cdv A outer s H vs Q E hgd hr h => ?_)
  · obtain ⟨way, a, q, t, u, p, z, rest, d, rfl, _⟩ := h
    rfl
  · have nd := scRf.nd
    have hr3 : Room 3 _ := hr.mono (by decide)
    have hu66 : (A.deeper (envOfC "_law_refused" (defScope sLawRefused) s.heap.objs.size f cdv)).units + 66 < cLine := by have := hr.un; omega
    refine ⟨_, pss_cons (ps_try_as (i := 3) (tb := tbRf K) (ts := tsRf K) (Wout := fun _ _ _ _ => False) rfl rfl nd rfl rfl ⟨rfl, by decide, Or.inl Y.gBadTerm⟩ takes0
        (fun W pn xe tk _ => pss_one (ps_if (pt_cmpR op_eq (pv 0) pe_int (nomark _))
          (pss_one (ps_expr (pe_callS G1 hr3 rfl Y.gPartAt F1.kp b1 (fun σ => passAt tk σ) (pa_cons (pv 1) (pa_cons (pv 2) pa_nil)))))
          (pss_one (ps_expr (pe_callS G2 hr rfl Y.gWithPart F2.kp b2 (fun σ => passAt tk σ) (pa_cons (pv 1) (pa_cons (pv 2) (pa_cons (pv 1) pa_nil))))))))
        (fun a oe cls d pn hz hf => pss_one (ps_ret (pe_cmpR op_eq (pe_callB (call_repr hgd hu66) (by rfl) Y.bRepr (by decide +kernel) (pa_cons (pe_xf Y.bt.xf Y.bt.no hz hf (pv 3)) pa_nil)) (pe_callB (call_repr hgd hu66) (by rfl) Y.bRepr (by decide +kernel) (pa_cons (pv 2) pa_nil)) (nomark _)))))
      (pss_one (ps_ret pe_bl)), ?_⟩
    obtain ⟨way, a, q, t, u, p, z, rest, d, rfl, ha, rt, hq, hu, hz, nz, hs, hd, k⟩ := h
    have key : ∀ (D : Ends) (dx : Addr) (H' : Hp), D.rt = Q → Same H H' → H' dx = some (.xd [("path", .ref q)]) → wAs K (.ref (CBadTerm K)) 3 (tsRf K) (fun _ _ _ _ => False) D (.ref (CBadTerm K)) (some dx) [some (.int way), some (.ref a), some (.ref q), none] H' := by
      intro D dx H' hD sm e
      refine ⟨true, Y.bt.te, fun _ a0 _ => ?_, fun q => Bool.noConfusion q⟩
      refine ⟨_, rfl, rfl, rfl, dx, _, _, rfl, e, rfl, _, d, rfl, hd H' sm, ⟨q, rfl⟩, hs.s, hs.k, hs.p, hs.l, ?_⟩
      refine ⟨_, rfl, _, d, rfl, hd H' sm, ⟨q, rfl⟩, hs.s, hs.k, hs.p, hs.l, ?_⟩
      refine ⟨rfl, ?_⟩
      dsimp only
      rw [hD, decide_eq_true rfl]
      exact k H' sm
    refine ⟨_, rfl, rfl, _, rfl, ite2 (fun _ => ?_) (fun _ => ?_)⟩
    · exact ⟨_, rfl, _, rfl, a, q, t, u, p, z, rest, rfl, ha, rt, hq, hu, hz, nz, fun dx H' sm _ e => key _ dx H' rfl sm e⟩
    · exact ⟨_, rfl, _, rfl, _, rfl, a, q, a, t, u, p, z, rest, rfl, ha, rt, hq, hu, hz, nz, fun dx H' sm _ e => key _ dx H' rfl sm e⟩
end
end K24

namespace K24
open PySem PySem.Spec PyProof.Rows L2 Ow
/-! ### terms as data -/
def dat : Tm → PyData
  | .leaf w ss => .tuple (.str w :: ss.map PyData.str)
  | .one w t => .tuple [.str w, dat t]
  | .two w s t => .tuple [.str w, dat s, dat t]
theorem dp_tm {K : PySem.W.Frag} {H : Hp} : ∀ {t : Tm} {a : Addr}, TmAt K H a t → Dp K H (.ref a) (dat t)
  | .leaf w ss, a, h => .tup h (.cons (.str w) (dpa_strs ss))
  | .one w t, a, ⟨b, h, g⟩ => .tup h (.cons (.str w) (.cons (dp_tm g) .nil))
  | .two w s t, a, ⟨b, c, h, g, g2⟩ => .tup h (.cons (.str w) (.cons (dp_tm g) (.cons (dp_tm g2) .nil)))
theorem dpa_tms {K : PySem.W.Frag} {H : Hp} : ∀ {as : List Addr} {ts : List Tm}, Tms K H as ts → DpAll K H (as.map V.ref) (ts.map dat)
  | _, _, .nil => .nil
  | _, _, .cons h g => .cons (dp_tm h) (dpa_tms g)
/-- what is asked of data that is compared or shown -/
structure Fine (d : PyData) (n : Nat) : Prop where
  lay : d.canLay0 = true
  dep : d.depth ≤ n
  sho : d.showable = true
  lv : d.leavesShort 13 = true
  wt : d.weight ≤ 40 * n
theorem str_lv {x : Str} (h : PyData.strOk x = true) : (PyData.str x).leavesShort 13 = true := by
  have e : ∀ c ∈ x.cps.toList, c < 0x110000 := fun c hc => by
    unfold PyData.strOk at h
    rw [Array.all_eq_true] at h
    obtain ⟨i, hi, e⟩ := List.getElem_of_mem hc
    have z := h i (by simpa using hi)
    rw [← e]
    simpa using z
  simp only [PyData.leavesShort, List.all_eq_true, decide_eq_true_eq]
  intro c hc
  have := e c hc
  omega
theorem Rt.hdWd : ∀ {t : Tm}, Rt t → Wd t.hd
  | .leaf w ss, h => by
    show Wd w
    rcases h with ⟨rfl, _⟩ | ⟨rfl, _⟩ | ⟨rfl, _⟩ | ⟨rfl, _⟩ | ⟨rfl, _⟩ <;> exact wd_of (by decide +kernel)
  | .one w t, h => by
    show Wd w
    rcases h.1 with rfl | rfl | rfl | rfl <;> exact wd_of (by decide +kernel)
  | .two w s t, h => by
    show Wd w
    rcases h.1 with rfl | rfl | rfl <;> exact wd_of (by decide +kernel)
theorem Rt.ssWd : ∀ {t : Tm}, Rt t → ∀ x ∈ t.ss, Wd x
  | .leaf w ss, h => by
    intro x hx
    rcases h with ⟨rfl, a, rfl, ha⟩ | ⟨rfl, a, rfl, ha⟩ | ⟨rfl, a, rfl, ha⟩ | ⟨rfl, a, b, rfl, ha, hb⟩ | ⟨rfl, a, b, rfl, ha, hb⟩
    · rw [List.mem_singleton.mp hx]; exact ha
    · rw [List.mem_singleton.mp hx]; exact ha
    · rw [List.mem_singleton.mp hx]; exact ha
    · rcases List.mem_cons.mp hx with z | z
      · rw [z]; exact ha
      · rw [List.mem_singleton.mp z]; exact hb
    · rcases List.mem_cons.mp hx with z | z
      · rw [z]; exact ha
      · rw [List.mem_singleton.mp z]; exact hb
  | .one w t, h => fun x hx => absurd hx List.not_mem_nil
  | .two w s t, h => fun x hx => absurd hx List.not_mem_nil
theorem fine_strs {xs : List Str} (h : ∀ x ∈ xs, Wd x) : PyData.canLayAll0 (xs.map PyData.str) = true ∧ PyData.depthAll (xs.map PyData.str) = 0 ∧ PyData.showableAll (xs.map PyData.str) = true ∧ PyData.leavesShortAll 13 (xs.map PyData.str) = true ∧ PyData.weightAll (xs.map PyData.str) ≤ 13 * xs.length := by
  induction xs with
  | nil => exact ⟨by simp [PyData.canLayAll0], by simp [PyData.depthAll], by simp [PyData.showableAll], by simp [PyData.leavesShortAll], by simp [PyData.weightAll]⟩
  | cons x xs ih =>
    obtain ⟨a, b, c, d, e⟩ := ih fun y hy => h y (List.mem_cons_of_mem _ hy)
    have hx := h x List.mem_cons_self
    have l := str_lv hx.lay
    have z : x.cps.size ≤ 12 := hx.hi
    refine ⟨?_, ?_, ?_, ?_, ?_⟩
    · simp [PyData.canLayAll0, PyData.canLay0, hx.lay, a]
    · simp [PyData.depthAll, PyData.depth, b]
    · simp [PyData.showableAll, PyData.showable, c]
    · rw [List.map_cons]
      simp only [PyData.leavesShortAll, Bool.and_eq_true]
      exact ⟨l, d⟩
    · rw [List.map_cons]
      simp only [PyData.weightAll, PyData.weight, List.length_cons]
      omega
theorem fine_tm : ∀ {t : Tm}, Rt t → Fine (dat t) t.sz
  | .leaf w ss, h => by
    have hw : Wd w := Rt.hdWd h
    have hs := Rt.ssWd h
    obtain ⟨a, b, c, d, e⟩ := fine_strs (xs := w :: ss) fun x hx => by
      rcases List.mem_cons.mp hx with z | z
      · rw [z]; exact hw
      · exact hs x z
    have l := (Rt.pos h).2.1
    have l2 : ss.length ≤ 2 := by
      have z : (Tm.leaf w ss).ss.length + (Tm.leaf w ss).kids.length ≤ 2 := l
      exact z
    rw [List.length_cons] at e
    refine ⟨?_, ?_, ?_, ?_, ?_⟩
    · simpa only [dat, PyData.canLay0, List.map_cons] using a
    · simp only [dat, PyData.depth]
      rw [show PyData.depthAll (PyData.str w :: List.map PyData.str ss) = 0 from b]
      exact Nat.le_refl _
    · simpa only [dat, PyData.showable, List.map_cons] using c
    · simpa only [dat, PyData.leavesShort, List.map_cons] using d
    · simp only [dat, PyData.weight]
      have z : PyData.weightAll (PyData.str w :: List.map PyData.str ss) ≤ 13 * (ss.length + 1) := e
      show _ ≤ 40 * 1
      omega
  | .one w t, h => by
    have hw : Wd w := Rt.hdWd h
    obtain ⟨a, b, c, d, e⟩ := fine_tm h.2
    have z : w.cps.size ≤ 12 := hw.hi
    refine ⟨?_, ?_, ?_, ?_, ?_⟩
    · simp [dat, PyData.canLay0, PyData.canLayAll0, hw.lay, a]
    · simp only [dat, PyData.depth, PyData.depthAll, Tm.sz]
      omega
    · simp [dat, PyData.showable, PyData.showableAll, c]
    · have l := str_lv hw.lay
      simp only [dat, PyData.leavesShort, PyData.leavesShortAll, Bool.and_eq_true] at l ⊢
      exact ⟨l, d, trivial⟩
    · simp only [dat, PyData.weight, PyData.weightAll, Tm.sz]
      omega
  | .two w s t, h => by
    have hw : Wd w := Rt.hdWd h
    obtain ⟨a, b, c, d, e⟩ := fine_tm h.2.1
    obtain ⟨a2, b2, c2, d2, e2⟩ := fine_tm h.2.2
    have z : w.cps.size ≤ 12 := hw.hi
    refine ⟨?_, ?_, ?_, ?_, ?_⟩
    · simp [dat, PyData.canLay0, PyData.canLayAll0, hw.lay, a, a2]
    · simp only [dat, PyData.depth, PyData.depthAll, Tm.sz]
      omega
    · simp [dat, PyData.showable, PyData.showableAll, c, c2]
    · have l := str_lv hw.lay
      simp only [dat, PyData.leavesShort, PyData.leavesShortAll, Bool.and_eq_true] at l ⊢
      exact ⟨l, d, d2, trivial⟩
    · simp only [dat, PyData.weight, PyData.weightAll, Tm.sz]
      omega
theorem Fine.shp {d : PyData} {n : Nat} (h : Fine d n) (l : n ≤ 64) : SeqAt.shaped d = true := shp_of h.lay (Nat.le_trans h.dep l)
theorem Fine.len {d : PyData} {n : Nat} (h : Fine d n) (l : n ≤ 400) : d.shown.length ≤ sizeLine := by
  have z := PyData.shown_le 13 (by decide) d h.lv
  have w := h.wt
  have e : sizeLine = 16777216 := by decide
  rw [e]
  omega
/-- two right terms compared -/
theorem ne_tm {K : PySem.W.Frag} {H : Hp} {a b : Addr} {t : Tm} {Q : VK} (rt : Rt t) (l : t.sz ≤ 64) (h1 : TmAt K H a t) (h2 : TmAt K H b t) (k : Q (.bl false) H) : rNeD K (.ref a) (.ref b) H Q :=
  ⟨dat t, dat t, dp_tm h1, dp_tm h2, (fine_tm rt).shp l, (fine_tm rt).shp l, by rw [SeqAt.eqv_refl _ (fine_tm rt).lay]; exact k⟩
/-- a list of right terms against [] -/
theorem lay_tms : ∀ {ts : List Tm}, (∀ t ∈ ts, Rt t) → PyData.canLayAll0 (ts.map dat) = true
  | [], _ => by simp [PyData.canLayAll0]
  | t :: ts, h => by simp [PyData.canLayAll0, (fine_tm (h t List.mem_cons_self)).lay, lay_tms fun u hu => h u (List.mem_cons_of_mem _ hu)]
theorem dep_tms {n : Nat} : ∀ {ts : List Tm}, (∀ t ∈ ts, Rt t ∧ t.sz ≤ n) → PyData.depthAll (ts.map dat) ≤ n
  | [], _ => by simp [PyData.depthAll]
  | t :: ts, h => by
    have a := (fine_tm (h t List.mem_cons_self).1).dep
    have b := (h t List.mem_cons_self).2
    have c := dep_tms fun u hu => h u (List.mem_cons_of_mem _ hu)
    simp only [List.map_cons, PyData.depthAll]
    omega
theorem shp_tms {n : Nat} {ts : List Tm} (h : ∀ t ∈ ts, Rt t ∧ t.sz ≤ n) (l : n ≤ 63) : SeqAt.shaped (.list (ts.map dat)) = true :=
  shp_of (by simpa [PyData.canLay0] using lay_tms fun t ht => (h t ht).1) (by
    have := dep_tms h
    simp only [PyData.depth]
    omega)
theorem cmp_nil {ts : List Tm} : PyData.eqv (.list (ts.map dat)) (.list []) = ts.isEmpty := by
  cases ts <;> simp [PyData.eqv, PyData.eqvAll]
theorem ne_tms {K : PySem.W.Frag} {H : Hp} {a b : Addr} {as : List Addr} {ts : List Tm} {n : Nat} {Q : VK} (h : ∀ t ∈ ts, Rt t ∧ t.sz ≤ n) (l : n ≤ 63) (h1 : SqL K H a (as.map V.ref)) (h2 : Tms K H as ts) (h3 : SqL K H b []) (k : Q (.bl (!ts.isEmpty)) H) : rNeD K (.ref a) (.ref b) H Q :=
  ⟨.list (ts.map dat), .list [], .lst h1 (dpa_tms h2), .lst h3 .nil, shp_tms h l, shp_nil, by rw [cmp_nil]; exact k⟩
theorem eq_tms {K : PySem.W.Frag} {H : Hp} {a b : Addr} {as : List Addr} {ts : List Tm} {n : Nat} {Q : VK} (h : ∀ t ∈ ts, Rt t ∧ t.sz ≤ n) (l : n ≤ 63) (h1 : SqL K H a (as.map V.ref)) (h2 : Tms K H as ts) (h3 : SqL K H b []) (k : Q (.bl ts.isEmpty) H) : rEqD K (.ref a) (.ref b) H Q :=
  ⟨.list (ts.map dat), .list [], .lst h1 (dpa_tms h2), .lst h3 .nil, shp_tms h l, shp_nil, by rw [cmp_nil]; exact k⟩
/-- two lists of words compared -/
theorem ne_ws {K : PySem.W.Frag} {H : Hp} {a b : Addr} {xs : List Str} {Q : VK} (hn : ∀ x ∈ xs, Wd x) (h1 : SqL K H a (xs.map V.str)) (h2 : SqL K H b (xs.map V.str)) (k : Q (.bl false) H) : rNeD K (.ref a) (.ref b) H Q := by
  have z := fine_strs hn
  have c : (PyData.list (xs.map PyData.str)).canLay0 = true := by simpa [PyData.canLay0] using z.1
  have s : SeqAt.shaped (.list (xs.map PyData.str)) = true := shp_of c (by simp only [PyData.depth, z.2.1]; omega)
  exact ⟨.list (xs.map PyData.str), .list (xs.map PyData.str), .lst h1 (dpa_strs xs), .lst h2 (dpa_strs xs), s, s, by rw [SeqAt.eqv_refl _ c]; exact k⟩
end K24

namespace K24
open PySem PySem.Spec PyProof.Rows L2 Ow
/-! ### refused paths as data; what a draw leaves -/
structure OkE (d : PyData) : Prop where
  s : d.showable = true
  k : d.hasDict = false
  p : d.depth ≤ 1
  v : d.leavesShort 13 = true
  w : d.weight ≤ 100
theorem oks : ∀ {ds : List PyData}, (∀ d ∈ ds, OkE d) → PyData.showableAll ds = true ∧ PyData.hasDictAll ds = false ∧ PyData.depthAll ds ≤ 1 + 1 ∧ PyData.leavesShortAll 13 ds = true ∧ PyData.weightAll ds ≤ 101 * ds.length + 1
  | [], _ => ⟨by simp [PyData.showableAll], by simp [PyData.hasDictAll], by simp [PyData.depthAll], by simp [PyData.leavesShortAll], by simp [PyData.weightAll]⟩
  | d :: ds, h => by
    obtain ⟨a, b, c, e, f⟩ := oks fun x hx => h x (List.mem_cons_of_mem _ hx)
    obtain ⟨a2, b2, c2, e2, f2⟩ := h d List.mem_cons_self
    refine ⟨by simp [PyData.showableAll, a, a2], by simp [PyData.hasDictAll, b, b2], ?_, ?_, ?_⟩
    · simp only [PyData.depthAll]
      omega
    · simp only [PyData.leavesShortAll, Bool.and_eq_true]
      exact ⟨e2, e⟩
    · simp only [PyData.weightAll, List.length_cons]
      omega
theorem path_shw {ds : List PyData} (h : ∀ d ∈ ds, OkE d) (l : ds.length ≤ 60) : Shw (.tuple ds) := by
  obtain ⟨a, b, c, e, f⟩ := oks h
  refine ⟨by simpa [PyData.showable] using a, by simpa [PyData.hasDict] using b, ?_, ?_⟩
  · simp only [PyData.depth]
    omega
  · have z := PyData.shown_le 13 (by decide) (.tuple ds) (by simpa [PyData.leavesShort] using e)
    have w : (PyData.tuple ds).weight ≤ 10000 := by
      simp only [PyData.weight]
      omega
    have e : sizeLine = 16777216 := by decide
    omega
theorem int_short : ∀ n : Nat, n ≤ 400 → (PyData.shown (.int (n : Int))).length ≤ 13 := by decide +kernel
theorem neg_short : (PyData.shown (.int (-1))).length ≤ 13 := by decide +kernel
theorem int_shw : ∀ n : Nat, n ≤ 400 → n.log2 < 99 := by decide +kernel
theorem oke_nat {n : Nat} (h : n ≤ 400) : OkE (.int (n : Int)) := by
  have z := int_shw n h
  refine ⟨by simp [PyData.showable]; omega, by simp [PyData.hasDict], by simp [PyData.depth], ?_, by simp [PyData.weight]; split <;> omega⟩
  simp only [PyData.leavesShort, decide_eq_true_eq]
  exact int_short n h
theorem oke_neg : OkE (.int (-1)) := by
  have z : Nat.log2 1 < 99 := int_shw 1 (by omega)
  refine ⟨by simp [PyData.showable]; omega, by simp [PyData.hasDict], by simp [PyData.depth], ?_, by simp [PyData.weight]; omega⟩
  simp only [PyData.leavesShort, decide_eq_true_eq]
  exact neg_short
theorem oke_bl (b : Bool) : OkE (.bool b) := ⟨by simp [PyData.showable], by simp [PyData.hasDict], by simp [PyData.depth], by simp [PyData.leavesShort], by simp only [PyData.weight]; cases b <;> decide⟩
theorem oke_non : OkE .none := ⟨by simp [PyData.showable], by simp [PyData.hasDict], by simp [PyData.depth], by simp [PyData.leavesShort], by simp only [PyData.weight]; omega⟩
theorem oke_0 : OkE (.str "0") := by
  refine ⟨by simp [PyData.showable], by simp [PyData.hasDict], by simp [PyData.depth], ?_, ?_⟩
  · simp only [PyData.leavesShort]
    decide +kernel
  · simp only [PyData.weight]
    decide +kernel
theorem oke_t0 : OkE (.tuple [.int 0]) := by
  have h := oke_nat (n := 0) (by omega)
  refine ⟨?_, ?_, ?_, ?_, ?_⟩
  · simp [PyData.showable, PyData.showableAll]
  · simp [PyData.hasDict, PyData.hasDictAll]
  · simp [PyData.depth, PyData.depthAll]
  · simp only [PyData.leavesShort, PyData.leavesShortAll, Bool.and_true]
    exact h.v
  · simp [PyData.weight, PyData.weightAll]
section
variable {K : PySem.W.Frag} {H : Hp} {d c : Addr}
theorem sqt_hid {a : Addr} {xs : List V} (src : SrcAt H d c) (h : SqT K H a xs) : SqT K (hid d c H) a xs := by
  obtain ⟨ns, l, m, t, h1, _, h3⟩ := src
  rcases h with (h | ⟨o, h⟩) | h
  · exact .inl (.inl ((hid_at (fun e => by rw [e, h3] at h; cases h) (fun e => by rw [e, h1] at h; cases h)).trans h))
  · exact .inl (.inr ⟨o, (hid_at (fun e => by rw [e, h3] at h; cases h) (fun e => by rw [e, h1] at h; cases h)).trans h⟩)
  · exact .inr h
theorem TmAt.hid (src : SrcAt H d c) : ∀ {t : Tm} {a : Addr}, TmAt K H a t → TmAt K (hid d c H) a t
  | .leaf _ _, _, h => sqt_hid src h
  | .one _ _, _, ⟨b, h, g⟩ => ⟨b, sqt_hid src h, g.hid src⟩
  | .two _ _ _, _, ⟨b, c, h, g, g2⟩ => ⟨b, c, sqt_hid src h, g.hid src, g2.hid src⟩
theorem Prs.hid (src : SrcAt H d c) : ∀ {as : List Addr} {ts : List PaT}, Prs K H as ts → Prs K (hid d c H) as ts
  | _, _, .nil => .nil
  | _, _, .cons ⟨q, u, h1, h2, h3⟩ g => .cons ⟨q, u, sqt_hid src h1, sqt_hid src h2, h3.hid src⟩ (g.hid src)
end
theorem ppre_at : ∀ (t : Tm) (q : List Nat) (x : PaT), x ∈ ppre q t → ∃ p, x.1 = q ++ p ∧ t.at p = some x.2
  | .leaf w ss, q, x, h => by
    rw [List.mem_singleton.mp h]
    exact ⟨[], (List.append_nil q).symm, rfl⟩
  | .one w t, q, x, h => by
    rcases List.mem_cons.mp h with z | z
    · rw [z]
      exact ⟨[], (List.append_nil q).symm, rfl⟩
    · obtain ⟨p, e1, e2⟩ := ppre_at t (q ++ [0]) x z
      exact ⟨0 :: p, by rw [e1, List.append_assoc]; rfl, e2⟩
  | .two w s t, q, x, h => by
    rcases List.mem_cons.mp h with z | z
    · rw [z]
      exact ⟨[], (List.append_nil q).symm, rfl⟩
    · rcases List.mem_append.mp z with z | z
      · obtain ⟨p, e1, e2⟩ := ppre_at s (q ++ [0]) x z
        exact ⟨0 :: p, by rw [e1, List.append_assoc]; rfl, e2⟩
      · obtain ⟨p, e1, e2⟩ := ppre_at t (q ++ [1]) x z
        exact ⟨1 :: p, by rw [e1, List.append_assoc]; rfl, e2⟩
/-- no number of a part -/
structure Bad (K : PySem.W.Frag) (Z : Addr) (n : Nat) (v : V) (e : PyData) : Prop where
  el : ∀ H, SqT K H Z [.int 0] → Elt K H v
  no : numB v n = false
  dp : ∀ H, SqT K H Z [.int 0] → Dp K H v e
  ok : OkE e
theorem bad_at {K : PySem.W.Frag} {Z : Addr} {n i : Nat} {v : V} (hn : n ≤ 400) (h : ([.int (n : Int), .int (-1), .bl true, .bl false, .non, .str "0", .ref Z] : List V)[i]? = some v) : ∃ e, Bad K Z n v e := by
  match i, h with
  | 0, h =>
    cases h
    exact ⟨_, fun _ _ => .int _, by show (decide ((0 : Int) ≤ (n : Int)) && decide ((n : Int) < (n : Int))) = false; rw [decide_eq_false (Int.lt_irrefl _), Bool.and_false], fun _ _ => .int _, oke_nat hn⟩
  | 1, h => cases h; exact ⟨_, fun _ _ => .int _, rfl, fun _ _ => .int _, oke_neg⟩
  | 2, h => cases h; exact ⟨_, fun _ _ => .bl _, rfl, fun _ _ => .bl _, oke_bl true⟩
  | 3, h => cases h; exact ⟨_, fun _ _ => .bl _, rfl, fun _ _ => .bl _, oke_bl false⟩
  | 4, h => cases h; exact ⟨_, fun _ _ => .non, rfl, fun _ _ => .non, oke_non⟩
  | 5, h => cases h; exact ⟨_, fun _ _ => .str _, rfl, fun _ _ => .str _, oke_0⟩
  | 6, h => cases h; exact ⟨_, fun _ h => .tup h, rfl, fun _ h => .tup h (.cons (.int 0) .nil), oke_t0⟩
  | i + 7, h => cases h
theorem dpa_path {K : PySem.W.Frag} {H : Hp} (p : List Nat) {vs : List V} {ds : List PyData} (h : DpAll K H vs ds) : DpAll K H (paV p ++ vs) ((p.map fun n : Nat => PyData.int (n : Int)) ++ ds) := by
  induction p with
  | nil => exact h
  | cons n p ih => exact .cons (.int _) ih
theorem kids_le {u : Tm} (h : Rt u) : u.kids.length ≤ 2 := by
  have := h.pos.2.1
  omega
theorem at_small {t : Tm} {p : List Nat} : ∀ {u : Tm}, Rt t → t.at p = some u → ∀ n ∈ p, n ≤ 400 := by
  induction p generalizing t with
  | nil => intro u _ _ n hn; cases hn
  | cons i p ih =>
    intro u rt h n hn
    unfold Tm.at at h
    cases z : t.kids[i]? with
    | none => rw [z] at h; cases h
    | some k =>
      rw [z] at h
      rcases List.mem_cons.mp hn with e | e
      · rw [e]
        have := (List.getElem?_eq_some_iff.mp z).1
        have := kids_le rt
        omega
      · exact ih (rt.kids k (List.mem_of_getElem? z)) h n e
end K24

namespace K24
open PySem PySem.Spec PyProof.Rows L2 Ow
theorem pe_callG {X : Cx} {k : Nat} {f : Addr} {fd : FuncData} {ps : List Str} {sp : Sp} {x : Str} {p pos : Pos} {e : Expr} {es : List Expr} {t : TA} (F : FnG X.prog X.w X.K X.mg X.base k f fd ps sp) (hgd : X.A.guards = some []) (hr : Room k X.A) (hg : Gl X x) (hm : X.mg x = some (.ref f)) (hk : PySem.W.keepIn X.K (.ref f) = true)
    (hb : Binds X.K fd ps []) (ha : PA X (e :: es) t) (hdb : (x == ("__debug__" : Str)) = false := by decide) (he : starEach (e :: es) X.env = (false, eval e X.env) :: starEach es X.env := by rfl) (hpl : (backTo pos (starEach es X.env)).any (·.1) = false := by rfl) :
    PE X (.Call (.Name x p) (e :: es) [] pos) (fun σ H Q => t σ H fun vs H1 => sp vs H1 Q E0) := by
  refine ⟨fun pins s σ H Q I h => wpAny_Call_Name_kw (ld_glob I hg hm ?_ hdb)⟩
  refine PySem.W.callWith_K (h₀ := X.base) I.ok.mod.kin hk (thn (ha.run pos pins s σ H _ I h) fun us s1 ⟨vs, H1, I1, r, q⟩ => ⟨I1.kIn, ?_⟩) he hpl
  have ln : us.length = ps.length := by rw [← r.length]; exact F.len _ _ _ _ q
  have bt := hb s1 us I1.kIn (by rw [List.append_nil]; exact ln)
  rw [List.append_nil] at bt
  refine wpAny_call (codeAny_mono (F.run X.A X.stack s1 H1 ⟨us, []⟩ us vs Q E0 hgd hr I1.env0 bt r q) fun res s' z => ?_)
  cases res with
  | error er => exact False.elim z
  | ok fl =>
    cases fl with
    | ret u => exact I1.after z
    | next => exact False.elim z
    | brk => exact False.elim z
    | cont => exact False.elim z
theorem seq_any {a u : TS} {D : Ends} {σ : L2.St} {H : Hp} (I : L2.St → Hp → Prop) (hu : ∀ σ' H', I σ' H' → u D σ' H') (h : ∀ nx : L2.St → Hp → Prop, (∀ σ' H', I σ' H' → nx σ' H') → a { D with nx := nx } σ H) : tSeq a u D σ H := h _ hu
abbrev NLw : List Str := ["_law_script", "_law_source_here", "_law_lap", "_law_frame_here", "_law_term_here", "_law_other", "_law_due", "_law_printed", "_law_told", "_law_path", "_law_part", "_law_many", "_law_odd", "_law_deep"]
theorem scLw : FnScope NLw ["_law_script"] (defScope sLaw) := ⟨rfl, rfl, rfl, by decide +kernel, rfl, by decide +kernel, by decide +kernel⟩
def spLaw (K : PySem.W.Frag) : Sp := fun vs H Q _ => ∃ (a : Addr) (ns : List Int), vs = [.ref a] ∧ SqL K H a (ns.map V.int) ∧ ns.length ≤ 63 ∧ ∀ H', Q (.bl true) H'
abbrev lst14 (a d : Addr) (v2 v3 v4 v5 v6 v7 v8 v9 v10 v11 v12 v13 : Option V) : L2.St := [some (.ref a), some (.ref d), v2, v3, v4, v5, v6, v7, v8, v9, v10, v11, v12, v13]
def twoD (t s : Tm) : PyData := .list [dat t, dat s]
theorem two_fine {t s : Tm} (rt : Rt t) (rs : Rt s) (l1 : t.sz ≤ 30) (l2 : s.sz ≤ 30) : Shw (twoD t s) := by
  obtain ⟨a, b, c, d, e⟩ := fine_tm rt
  obtain ⟨a2, b2, c2, d2, e2⟩ := fine_tm rs
  have lay : (twoD t s).canLay0 = true := by simp [twoD, PyData.canLay0, PyData.canLayAll0, a, a2]
  refine ⟨?_, PyData.hasDict_of_canLay _ lay, ?_, ?_⟩
  · simp [twoD, PyData.showable, PyData.showableAll, c, c2]
  · simp only [twoD, PyData.depth, PyData.depthAll]
    omega
  · have lv : (twoD t s).leavesShort 13 = true := by
      simp only [twoD, PyData.leavesShort, PyData.leavesShortAll, Bool.and_eq_true]
      exact ⟨d, d2, trivial⟩
    have z := PyData.shown_le 13 (by decide) (twoD t s) lv
    have w : (twoD t s).weight ≤ 40 * 60 + 100 := by
      simp only [twoD, PyData.weight, PyData.weightAll]
      omega
    have e : sizeLine = 16777216 := by decide
    omega
section
variable {P : Program} {w : World} {K : PySem.W.Frag} {mg : Str → Option Value} {base : Heap} {f : Addr} {fd : FuncData}
theorem ok_law (F : FnP K "law" sLaw f fd) (Y : Fx w K mg) : FnG P w K mg base 43 f fd ["_law_script"] (spLaw K) := by
  obtain ⟨dS, FS⟩ := Y.dLawSource
  obtain ⟨dP, FP⟩ := Y.dLawPick
  obtain ⟨dFr, FFr⟩ := Y.dLawFrame
  obtain ⟨dTm, FTm⟩ := Y.dLawTerm
  obtain ⟨dSe, FSe⟩ := Y.dLawSomeEnds
  obtain ⟨dLA, FLA⟩ := Y.dLawAllPaths
  obtain ⟨dPs, FPs⟩ := Y.dPaths
  obtain ⟨dWP, FWP⟩ := Y.dWithPart
  obtain ⟨dPA, FPA⟩ := Y.dPartAt
  obtain ⟨dLP, FLP⟩ := Y.dLawPut
  obtain ⟨dPt, FPt⟩ := Y.dLawParts
  obtain ⟨dRf, FRf⟩ := Y.dLawRefused
  have bS := FunD.bindsN (ps := ["_law_script"]) FS fun _ _ _ _ _ _ us hl => match us, hl with | [_], _ => rfl
  have bP := FunD.bindsN (ps := ["_law_source_here", "_law_many"]) FP fun _ _ _ _ _ _ us hl => match us, hl with | [_, _], _ => rfl
  have bFr := FunD.bindsN (ps := ["_law_source_here", "_law_sorts", "_law_letters"]) FFr fun _ _ _ _ _ _ us hl => match us, hl with | [_, _, _], _ => rfl
  have bTm := FunD.bindsN (ps := PTm) FTm fun _ _ _ _ _ _ us hl => match us, hl with | [_, _, _, _, _], _ => rfl
  have bSe := FunD.bindsN (ps := ["_law_source_here", "_law_frame_here"]) FSe fun _ _ _ _ _ _ us hl => match us, hl with | [_, _], _ => rfl
  have bLA := FunD.bindsN (ps := ["_law_term_here"]) FLA fun _ _ _ _ _ _ us hl => match us, hl with | [_], _ => rfl
  have bPs := FunD.bindsN (ps := ["term"]) FPs fun _ _ _ _ _ _ us hl => match us, hl with | [_], _ => rfl
  have bWP := FunD.bindsN (ps := ["term", "path", "part"]) FWP fun _ _ _ _ _ _ us hl => match us, hl with | [_, _, _], _ => rfl
  have bPA := FunD.bindsN (ps := ["term", "path"]) FPA fun _ _ _ _ _ _ us hl => match us, hl with | [_, _], _ => rfl
  have bLP := FunD.bindsN (ps := ["_law_term_here", "_law_path", "_law_part"]) FLP fun _ _ _ _ _ _ us hl => match us, hl with | [_, _, _], _ => rfl
  have bPt := FunD.bindsN (ps := ["_law_term_here"]) FPt fun _ _ _ _ _ _ us hl => match us, hl with | [_], _ => rfl
  have bRf := FunD.bindsN (ps := ["_law_way", "_law_term_here", "_law_path"]) FRf fun _ _ _ _ _ _ us hl => match us, hl with | [_, _, _], _ => rfl
  have GS : FnOk P w K mg base CX0 1 _ dS ["_law_script"] (spSrc K) := ok_src FS Y.bl
  have GP : FnOk P w K mg base CX0 1 _ dP ["_law_source_here", "_law_many"] spPick := ok_pick FP Y.bl
  have GFr : FnOk P w K mg base CX0 6 _ dFr ["_law_source_here", "_law_sorts", "_law_letters"] (spFr K) := ok_fr FFr Y
  have GTm : FnOk P w K mg base CX0 32 _ dTm PTm (spTm K 10) := ok_tm FTm Y 10
  have GSe : FnOk P w K mg base CX0 2 _ dSe ["_law_source_here", "_law_frame_here"] (spSe K) := ok_se FSe Y
  have GLA : FnOk P w K mg base CX0 41 _ dLA ["_law_term_here"] (spLA K 40) := ok_la FLA Y 40 (by decide)
  have GPs : FnOk P w K mg base CX0 5 _ dPs ["term"] (spPs K) := ok_ps FPs Y
  have GWP : FnOk P w K mg base CX0 3 _ dWP ["term", "path", "part"] (spWP K) := ok_wp FWP Y
  have GPA : FnOk P w K mg base CX0 2 _ dPA ["term", "path"] (spPA K) := ok_pa FPA Y
  have GLP : FnOk P w K mg base CX0 41 _ dLP ["_law_term_here", "_law_path", "_law_part"] (spLP K 40) := ok_lpu FLP Y 40
  have GPt : FnOk P w K mg base CX0 1 _ dPt ["_law_term_here"] (spPB K) := ok_lp FPt Y
  have GRf : FnG P w K mg base 5 _ dRf ["_law_way", "_law_term_here", "_law_path"] (spRf K) := ok_rf FRf Y
  refine okG F scLw (fun vs H Q E h => ?_) (fun cdv A outer s H vs Q E hgd hr h => ?_)
  · obtain ⟨a, ns, rfl, _⟩ := h
    rfl
  · have nd := scLw.nd
    have hu := hu_of hr
    have hu64 := hu64_of hr
    have hu66 : (A.deeper (envOfC "law" (defScope sLaw) s.heap.objs.size f cdv)).units + 66 < cLine := by have := hr.un; omega
    have hr1 : Room 1 _ := hr.mono (by decide)
    have hr2 : Room 2 _ := hr.mono (by decide)
    have hr3 : Room 3 _ := hr.mono (by decide)
    have hr5 : Room 5 _ := hr.mono (by decide)
    have hr6 : Room 6 _ := hr.mono (by decide)
    have hr32 : Room 32 _ := hr.mono (by decide)
    have hr41 : Room 41 _ := hr.mono (by decide)
    refine ⟨_, pss_cons (ps_set (i := 1) nd rfl (Or.inl rfl) (pe_call GS hr1 (by rfl) Y.gLawSource FS.kp bS .nil pass0 (pa_cons (pv 0) pa_nil)))
      (pss_cons (ps_for PassesOwn.never rfl (pi_range1 (by rfl) Y.bRange (pa_cons pe_int pa_nil)) (pg_name (i := 2) nd rfl (Or.inl rfl))
        (pss_cons (ps_set (i := 3) nd rfl (Or.inl rfl) (pe_call GFr hr6 (by rfl) Y.gLawFrame FFr.kp bFr .nil pass0 (pa_cons (pv 1) (pa_cons (pe_op op_add pe_int (pe_call GP hr1 (by rfl) Y.gLawPick FP.kp bP .nil pass0 (pa_cons (pv 1) (pa_cons pe_int pa_nil))))
            (pa_cons (pe_op op_add pe_int (pe_call GP hr1 (by rfl) Y.gLawPick FP.kp bP .nil pass0 (pa_cons (pv 1) (pa_cons pe_int pa_nil)))) pa_nil)))))
        (pss_cons (ps_set (i := 4) nd rfl (Or.inl rfl) (pe_call GTm hr32 (by rfl) Y.gLawTerm FTm.kp bTm .nil pass0 (pa_cons (pv 1) (pa_cons (pv 3) (pa_cons (pe_call GSe hr2 (by rfl) Y.gLawSomeEnds FSe.kp bSe .nil pass0 (pa_cons (pv 1) (pa_cons (pv 3) pa_nil)))
            (pa_cons (pe_op op_add pe_int (pe_call GP hr1 (by rfl) Y.gLawPick FP.kp bP .nil pass0 (pa_cons (pv 1) (pa_cons pe_int pa_nil)))) (pa_cons pe_str pa_nil)))))))
        (pss_cons (ps_set (i := 5) nd rfl (Or.inl rfl) (pe_call GTm hr32 (by rfl) Y.gLawTerm FTm.kp bTm .nil pass0 (pa_cons (pv 1) (pa_cons (pv 3) (pa_cons (pe_call GSe hr2 (by rfl) Y.gLawSomeEnds FSe.kp bSe .nil pass0 (pa_cons (pv 1) (pa_cons (pv 3) pa_nil)))
            (pa_cons (pe_op op_add pe_int (pe_call GP hr1 (by rfl) Y.gLawPick FP.kp bP .nil pass0 (pa_cons (pv 1) (pa_cons pe_int pa_nil)))) (pa_cons pe_str pa_nil)))))))
        (pss_cons (ps_par (i := 6) (j := 7) (by rfl) nd rfl rfl (by decide) rfl rfl (pa_cons (pe_call GLA hr41 (by rfl) Y.gLawAllPaths FLA.kp bLA .nil pass0 (pa_cons (pv 4) pa_nil)) (pa_cons (pe_callB (call_repr hgd hu66) (by rfl) Y.bRepr (by decide +kernel) (pa_cons (pe_lst (pa_cons (pv 4) (pa_cons (pv 5) pa_nil))) pa_nil)) pa_nil)) (by rfl))
        (pss_cons (ps_set (i := 8) nd rfl (Or.inl rfl) (pe_call GPs hr5 (by rfl) Y.gPaths FPs.kp bPs .nil pass0 (pa_cons (pv 4) pa_nil)))
        (pss_cons (ps_if (pw_or (pt_cmpR (op_neD hu64) (pv 8) (pe_lc (own := [("_law_path", 9), ("_law_part", 10)]) (g := gTup K 2 (gCons (gName 9) (gCons (gName 10) gNil))) (tt := tYes) (te := tVar 9) rfl nd (pi_list (pv 6)) (blkOk_by (N := NLw) (sc := defScope sLaw) (by decide +kernel))
              (fun _ _ _ _ _ => pg_tup rfl (pgs_cons (pg_name (i := 9) nd rfl (Or.inl rfl)) (pgs_cons (pg_name (i := 10) nd rfl (Or.inl rfl)) pgs_nil))) (fun _ _ _ _ _ => pts_nil) (fun _ _ _ _ _ => pv 9)) (nomark _))
            (pw_or1 (pt_not (pt_val (pe_callB call_isi (by rfl) Y.bIsinstance boot_isinstance (pa_cons (pv 8) (pa_cons (pe_bltn (v := .ty "list") (u := .type "list") (by rfl) Y.bList (by decide +kernel) rfl) pa_nil))))))).pt (pss_one (ps_ret pe_bl)) pss_nil)
        (pss_cons (ps_expr (pe_bm PySem.F.plainAttrs_list PySem.F.slot_list_append PySem.F.type_list_append mt_append (pv 8) (pa_cons pe_non pa_nil)))
        (pss_cons (ps_for PassesOwn.never rfl (pi_list (pv 6)) (pg_tup rfl (pgs_cons (pg_name (i := 9) nd rfl (Or.inl rfl)) (pgs_cons (pg_name (i := 10) nd rfl (Or.inl rfl)) pgs_nil)))
          (pss_cons (ps_if (pt_cmpR (op_neD hu64) (pe_call GWP hr3 (by rfl) Y.gWithPart FWP.kp bWP .nil pass0 (pa_cons (pv 4) (pa_cons (pv 9) (pa_cons (pv 5) pa_nil)))) (pe_call GLP hr41 (by rfl) Y.gLawPut FLP.kp bLP .nil pass0 (pa_cons (pv 4) (pa_cons (pv 9) (pa_cons (pv 5) pa_nil)))) (nomark _)) (pss_one (ps_ret pe_bl)) pss_nil)
          (pss_cons (ps_if (pw_or (pt_cmpR (op_neD hu64) (pe_call GPA hr2 (by rfl) Y.gPartAt FPA.kp bPA .nil pass0 (pa_cons (pv 4) (pa_cons (pv 9) pa_nil))) (pv 10) (nomark _))
              (pw_or1 (pt_cmpR (op_neD hu64) (pe_call GWP hr3 (by rfl) Y.gWithPart FWP.kp bWP .nil pass0 (pa_cons (pv 4) (pa_cons (pv 9) (pa_cons (pv 10) pa_nil)))) (pv 4) (nomark _)))).pt (pss_one (ps_ret pe_bl)) pss_nil)
          (pss_cons (ps_set (i := 11) nd rfl (Or.inl rfl) (pe_callB call_len_seq (by rfl) Y.bLen PySem.boot_len (pa_cons (pe_call GPt hr1 (by rfl) Y.gLawParts FPt.kp bPt .nil pass0 (pa_cons (pv 10) pa_nil)) pa_nil)))
          (pss_one (ps_for PassesOwn.never rfl (pi_tup (pe_tup (pa_cons (pv 11) (pa_cons (pe_un un_neg pe_int) (pa_cons pe_bl (pa_cons pe_bl (pa_cons pe_non (pa_cons pe_str (pa_cons (pe_tup (pa_cons pe_int pa_nil)) pa_nil))))))))) (pg_name (i := 12) nd rfl (Or.inl rfl))
            (pss_cons (ps_if (pt_not (pt_val (pe_callG GRf hgd hr5 (by rfl) Y.gLawRefused FRf.kp bRf (pa_cons (pe_call GP hr1 (by rfl) Y.gLawPick FP.kp bP .nil pass0 (pa_cons (pv 1) (pa_cons pe_int pa_nil))) (pa_cons (pv 4) (pa_cons (pe_op op_catA (pv 9) (pe_tup (pa_cons (pv 12) pa_nil))) pa_nil)))))) (pss_one (ps_ret pe_bl)) pss_nil)
            (pss_cons (ps_set (i := 13) nd rfl (Or.inl rfl) (pe_op op_catA (pv 9) (pe_tup (pa_cons (pe_op op_sub (pv 11) pe_int) (pa_cons pe_int pa_nil)))))
            (pss_one (ps_if (pw_and (pt_cmpR op_gt (pv 11) pe_int (nomark _)) (pw_and1 (pt_not (pt_val (pe_callG GRf hgd hr5 (by rfl) Y.gLawRefused FRf.kp bRf (pa_cons (pe_call GP hr1 (by rfl) Y.gLawPick FP.kp bP .nil pass0 (pa_cons (pv 1) (pa_cons pe_int pa_nil))) (pa_cons (pv 4) (pa_cons (pv 13) pa_nil)))))))).pt (pss_one (ps_ret pe_bl)) pss_nil))))))))))
        (pss_one (ps_if (pw_or (pt_cmpR (op_neD hu64) (pe_call GPs hr5 (by rfl) Y.gPaths FPs.kp bPs .nil pass0 (pa_cons (pv 4) pa_nil)) (pe_lc (own := [("_law_path", 9), ("_law_part", 10)]) (g := gTup K 2 (gCons (gName 9) (gCons (gName 10) gNil))) (tt := tYes) (te := tVar 9) rfl nd (pi_list (pv 6)) (blkOk_by (N := NLw) (sc := defScope sLaw) (by decide +kernel))
              (fun _ _ _ _ _ => pg_tup rfl (pgs_cons (pg_name (i := 9) nd rfl (Or.inl rfl)) (pgs_cons (pg_name (i := 10) nd rfl (Or.inl rfl)) pgs_nil))) (fun _ _ _ _ _ => pts_nil) (fun _ _ _ _ _ => pv 9)) (nomark _))
            (pw_or1 (pt_cmpR op_ne (pe_callB (call_repr hgd hu66) (by rfl) Y.bRepr (by decide +kernel) (pa_cons (pe_lst (pa_cons (pv 4) (pa_cons (pv 5) pa_nil))) pa_nil)) (pv 7) (nomark _)))).pt (pss_one (ps_ret pe_bl)) pss_nil)))))))))))
      (pss_one (ps_ret pe_bl))), ?_⟩
    obtain ⟨a, ns, rfl, ha, ln, k⟩ := h
    refine ⟨_, rfl, a, ns, rfl, ha, ln, fun d c H1 s1 hd hc src => ?_⟩
    dsimp only [gName]
    refine ⟨3, rfl, by decide, by decide, for_range (lo := 0) (n := 3) (fun i σ G => (∃ v2 v3 v4 v5 v6 v7 v8 v9 v10 v11 v12 v13, σ = lst14 a d v2 v3 v4 v5 v6 v7 v8 v9 v10 v11 v12 v13) ∧ SrcAt G d c)
      ⟨⟨none, none, none, none, none, none, none, none, none, none, none, none, rfl⟩, src⟩ ?_ (fun σ G _ => k G)⟩
    clear src s1 H1 hd hc
    rintro i σ G hi ⟨⟨v2, v3, v4, v5, v6, v7, v8, v9, v10, v11, v12, v13, rfl⟩, src⟩
    dsimp only [gName]
    -- the frame
    refine seq_any (fun σ' G' => ∃ (e : Addr) (xs : List Str) (ls : List Lt) (v2 : Option V), σ' = lst14 a d v2 (some (.ref e)) v4 v5 v6 v7 v8 v9 v10 v11 v12 v13 ∧ SrcAt G' d c ∧ FrAt K (hid d c G') e xs ls ∧ 1 ≤ ls.length ∧ xs.length ≤ 3 ∧ ls.length ≤ 4) ?_ ?_
    rotate_left
    · intro nx hnx
      refine ⟨_, rfl, _, rfl, d, c, 3, rfl, src, by decide, by decide, fun r G1 r0 r1 src1 keep1 => ?_⟩
      refine ⟨_, _, rfl, rfl, _, rfl, d, c, 4, rfl, src1, by decide, by decide, fun r2 G2 r20 r21 src2 keep2 => ?_⟩
      obtain ⟨j, rfl⟩ : ∃ j : Nat, r = (j : Int) := ⟨r.toNat, by omega⟩
      obtain ⟨j2, rfl⟩ : ∃ j : Nat, r2 = (j : Int) := ⟨r2.toNat, by omega⟩
      refine ⟨_, _, rfl, rfl, d, c, 1 + j, 1 + j2, by rw [show ((1 + j : Nat) : Int) = 1 + (j : Int) by omega, show ((1 + j2 : Nat) : Int) = 1 + (j2 : Int) by omega]; rfl, src2, by omega, by omega, by omega, by omega, fun e xs ls G3 src3 sm3 fr3 ex lm => ?_⟩
      have lx : xs.length ≤ 3 := by rw [ex, List.length_take]; show min _ 3 ≤ 3; omega
      exact hnx _ _ ⟨e, xs, ls, _, rfl, src3, fr3, by omega, lx, by omega⟩
    clear src G v2 v3
    rintro σ G ⟨e, xs, ls, v2, rfl, src, fr, l1, lx3, l4⟩
    -- the term
    refine seq_any (fun σ' G' => ∃ (u : Addr) (t : Tm), σ' = lst14 a d v2 (some (.ref e)) (some (.ref u)) v5 v6 v7 v8 v9 v10 v11 v12 v13 ∧ SrcAt G' d c ∧ FrAt K (hid d c G') e xs ls ∧ TmAt K (hid d c G') u t ∧ Rt t ∧ t.sz ≤ 20) ?_ ?_
    rotate_left
    · intro nx hnx
      refine ⟨_, rfl, _, rfl, _, rfl, _, rfl, d, c, e, xs, ls, rfl, src, fr, l1, fun q x y G1 src1 sm1 hq hx hy => ?_⟩
      refine ⟨_, rfl, d, c, 7, rfl, src1, by decide, by decide, fun r G2 r0 r1 src2 keep2 => ?_⟩
      obtain ⟨j, rfl⟩ : ∃ j : Nat, r = (j : Int) := ⟨r.toNat, by omega⟩
      have eh := hid_pick keep2
      refine ⟨_, _, rfl, rfl, d, c, e, q, 1 + j, "free", xs, ls, x, y, by rw [show ((1 + j : Nat) : Int) = 1 + (j : Int) by omega]; rfl, by omega, by omega, by omega, src2, by rw [eh]; exact fr.same sm1, by rw [eh]; exact hq, hx, hy, fun u G3 src3 sm3 ⟨t, g1, g2, g3⟩ => ?_⟩
      rw [eh] at sm3
      exact hnx _ _ ⟨u, t, rfl, src3, fr.same (sm1.trans sm3), g1, g2.rt fr.ok, by unfold szR at g3; omega⟩
    clear src fr G v4
    rintro σ G ⟨u, t, rfl, src, fr, ht, rt, zt⟩
    -- another term
    refine seq_any (fun σ' G' => ∃ (o : Addr) (s : Tm), σ' = lst14 a d v2 (some (.ref e)) (some (.ref u)) (some (.ref o)) v6 v7 v8 v9 v10 v11 v12 v13 ∧ SrcAt G' d c ∧ TmAt K (hid d c G') u t ∧ TmAt K (hid d c G') o s ∧ Rt s ∧ s.sz ≤ 20) ?_ ?_
    rotate_left
    · intro nx hnx
      refine ⟨_, rfl, _, rfl, _, rfl, _, rfl, d, c, e, xs, ls, rfl, src, fr, l1, fun q x y G1 src1 sm1 hq hx hy => ?_⟩
      refine ⟨_, rfl, d, c, 3, rfl, src1, by decide, by decide, fun r G2 r0 r1 src2 keep2 => ?_⟩
      obtain ⟨j, rfl⟩ : ∃ j : Nat, r = (j : Int) := ⟨r.toNat, by omega⟩
      have eh := hid_pick keep2
      refine ⟨_, _, rfl, rfl, d, c, e, q, 1 + j, "free", xs, ls, x, y, by rw [show ((1 + j : Nat) : Int) = 1 + (j : Int) by omega]; rfl, by omega, by omega, by omega, src2, by rw [eh]; exact fr.same sm1, by rw [eh]; exact hq, hx, hy, fun o G3 src3 sm3 ⟨s, g1, g2, g3⟩ => ?_⟩
      rw [eh] at sm3
      exact hnx _ _ ⟨o, s, rfl, src3, ht.same (sm1.trans sm3), g1, g2.rt fr.ok, by unfold szR at g3; omega⟩
    clear src fr ht G v5
    rintro σ G ⟨o, s, rfl, src, htH, hoH, rs, zs⟩
    have ht : TmAt K G u t := htH.same hid_sub
    have ho : TmAt K G o s := hoH.same hid_sub
    have fs := two_fine rt rs (by omega) (by omega)
    -- all paths, the text
    refine seq_any (fun σ' G' => ∃ (L : Addr) (ps : List Addr), σ' = lst14 a d v2 (some (.ref e)) (some (.ref u)) (some (.ref o)) (some (.ref L)) (some (.str (twoD t s).shown)) v8 v9 v10 v11 v12 v13 ∧ Same G G' ∧ G L = none ∧ G' L = some (.lst (ps.map V.ref)) ∧ Prs K G' ps (ppre [] t)) ?_ ?_
    rotate_left
    · intro nx hnx
      refine ⟨_, rfl, u, t, rfl, ht, rt, by omega, fun L ps G1 s1 hL eL hP => ?_⟩
      refine ⟨_, rfl, _, rfl, szl (by show 2 ≤ 1000; decide), fun l hl => ?_⟩
      have sl := same_upd (o := .lst [V.ref u, V.ref o]) hl
      refine ⟨_, twoD t s, rfl, .lst (SqL.of upd_same) (.cons (dp_tm (ht.same (s1.trans sl))) (.cons (dp_tm (ho.same (s1.trans sl))) .nil)), ⟨l, rfl⟩, fs.s, fs.k, fs.p, fs.l, ?_⟩
      exact ⟨_, _, rfl, hnx _ _ ⟨L, ps, rfl, s1.trans sl, hL, sl _ _ eL, hP.same sl⟩⟩
    clear v6 v7
    rintro σ G1 ⟨L, ps, rfl, s1, hL, eL, hP⟩
    -- the paths told
    refine seq_any (fun σ' G' => ∃ (D : Addr) (qs : List Addr), σ' = lst14 a d v2 (some (.ref e)) (some (.ref u)) (some (.ref o)) (some (.ref L)) (some (.str (twoD t s).shown)) (some (.ref D)) v9 v10 v11 v12 v13 ∧ Same G1 G' ∧ G1 D = none ∧ G' D = some (.lst (qs.map V.ref)) ∧ Pas K G' qs ((ppre [] t).map (·.1))) ?_ ?_
    rotate_left
    · intro nx hnx
      exact ⟨_, rfl, u, t, rfl, ht.same s1, rt, by omega, fun D qs G2 s2 hD eD hQ => hnx _ _ ⟨D, qs, rfl, s2, hD, eD, hQ⟩⟩
    clear v8
    rintro σ G2 ⟨D, qs, rfl, s2, hD, eD, hQ⟩
    have eL2 := s2 _ _ eL
    have hP2 := hP.same s2
    have lP := hP.len
    rw [ppre_len] at lP
    have lQ := hQ.len
    rw [List.length_map, ppre_len] at lQ
    -- compared
    refine seq_any (fun σ' G' => σ' = lst14 a d v2 (some (.ref e)) (some (.ref u)) (some (.ref o)) (some (.ref L)) (some (.str (twoD t s).shown)) (some (.ref D)) v9 v10 v11 v12 v13 ∧ Same G2 G') ?_ ?_
    rotate_left
    · intro nx hnx
      refine ⟨_, rfl, _, rfl, L, rfl, ⟨_, SqL.of eL2⟩, fun D2 hD2 => ?_⟩
      refine lc_list (K := K) (a := L) (xs := ps.map V.ref) (fun i G => ∃ ws : List Addr, G D2 = some (.lst (ws.map V.ref)) ∧ Pas K G ws (((ppre [] t).take i).map (·.1)) ∧ Same G2 G) ⟨[], upd_same, .nil, same_upd hD2⟩ (fun i G _ ⟨_, _, _, q⟩ => q.seq (SqL.of eL2)) ?_ ?_
      · rintro j v G5 hj ⟨ws, ew, hW, sm⟩
        obtain ⟨r, er, rfl⟩ := ref_at hj
        obtain ⟨⟨p, w⟩, ep, q, ua, h1, h2, h4⟩ := hP2.get er
        have li := (List.getElem?_eq_some_iff.mp ep).1
        rw [ppre_len] at li
        have lw := hW.len
        rw [List.length_map, List.length_take] at lw
        refine ⟨r, _, rfl, sqt_same sm h1, rfl, _, _, rfl, _, _, rfl, rfl, rfl, _, rfl, ?_⟩
        refine ⟨_, ew, ?_, ws ++ [q], ?_, ?_, same_put hD2 sm⟩
        · rw [List.length_map]
          exact small1000 (by omega)
        · rw [upd_same, List.map_append]
          rfl
        · rw [List.take_add_one, ep, List.map_append]
          exact (hW.app (.cons (sqt_same sm h2) .nil)).put ew
      · rintro G5 ⟨ws, ew, hW, sm⟩
        rw [List.length_map, hP2.len, List.take_length] at hW
        refine ne_pas (SqL.of (sm _ _ eD)) (SqL.of ew) (hQ.same sm) hW ⟨_, rfl, iteF ?_⟩
        refine ⟨_, rfl, _, _, _, _, true, rfl, .ty _, .base (.lst (sm _ _ eD)), kit_ty (by decide +kernel), _, rfl, iteF ?_⟩
        exact hnx _ _ ⟨rfl, sm⟩
    rintro σ G3 ⟨rfl, s3⟩
    -- one more, of the caller's own
    have eD3 := s3 _ _ eD
    have nLD : L ≠ D := ne_of_none eL hD
    have eL3 := s3 _ _ eL2
    refine seq_any (fun σ' G' => σ' = lst14 a d v2 (some (.ref e)) (some (.ref u)) (some (.ref o)) (some (.ref L)) (some (.str (twoD t s).shown)) (some (.ref D)) v9 v10 v11 v12 v13 ∧ Same G G' ∧ G' L = some (.lst (ps.map V.ref)) ∧ Prs K G' ps (ppre [] t)) ?_ ?_
    rotate_left
    · intro nx hnx
      refine ⟨_, rfl, .inl ⟨rfl, _, SqL.of eD3⟩, D, _, _, rfl, rfl, eD3, by rw [List.length_map]; exact small1000 (by omega), ?_⟩
      exact hnx _ _ ⟨rfl, same_put (none_same s1 hD) (s1.trans (s2.trans s3)), (upd_ne nLD).trans eL3, (hP2.same s3).put eD3⟩
    clear eL3 nLD eD3 s3 lQ hP2 eL2 hQ eD hD s2 G3 G2 hP eL s1 G1
    rintro σ B ⟨rfl, sB, eLB, hPB⟩
    have srcB := src_same sB src
    have htB := htH.same (hid_same (d := d) (c := c) sB)
    have hoB := hoH.same (hid_same (d := d) (c := c) sB)
    obtain ⟨nd1, nc1⟩ := src_ne src hL
    have eLH : hid d c B L = some (.lst (ps.map V.ref)) := (hid_at nd1 nc1).trans eLB
    have hPH := hPB.hid srcB
    clear hPB eLB nd1 nc1 sB ht ho htH hoH hL src G
    -- each path
    refine seq_any (fun σ' G' => ∃ v9 v10 v11 v12 v13, σ' = lst14 a d v2 (some (.ref e)) (some (.ref u)) (some (.ref o)) (some (.ref L)) (some (.str (twoD t s).shown)) (some (.ref D)) v9 v10 v11 v12 v13 ∧ SrcAt G' d c ∧ Same (hid d c B) (hid d c G')) ?_ ?_
    rotate_left
    · intro nx hnx
      refine ⟨_, rfl, L, rfl, ⟨_, SqL.of (hid_sub _ _ eLH)⟩, for_list (K := K) (a := L) (xs := ps.map V.ref) (fun i σ G => ∃ v9 v10 v11 v12 v13, σ = lst14 a d v2 (some (.ref e)) (some (.ref u)) (some (.ref o)) (some (.ref L)) (some (.str (twoD t s).shown)) (some (.ref D)) v9 v10 v11 v12 v13 ∧ SrcAt G d c ∧ Same (hid d c B) (hid d c G))
        ⟨v9, v10, v11, v12, v13, rfl, srcB, Same.refl _⟩ (fun i σ G _ ⟨_, _, _, _, _, _, _, q⟩ => SqL.of (hid_sub _ _ (q _ _ eLH))) ?_ ?_⟩
      · rintro i v σ G hi ⟨w9, w10, w11, w12, w13, rfl, src, sm⟩
        obtain ⟨r, er, rfl⟩ := ref_at hi
        obtain ⟨⟨p, w⟩, ep, q, ua, h1, h2, h4⟩ := hPH.get er
        replace h2 : SqT K (hid d c B) q (paV p) := h2
        replace h4 : TmAt K (hid d c B) ua w := h4
        obtain ⟨p', e1, hat⟩ := ppre_at t [] (p, w) (List.mem_of_getElem? ep)
        replace e1 : p = p' := e1
        subst e1
        replace hat : t.at p = some w := hat
        have rtw : Rt w := Rt.at rt hat
        have lp := at_len hat
        have psm := at_small rt hat
        have kw := kids_le rtw
        refine ⟨r, _, rfl, sqt_same (sm.trans hid_sub) h1, rfl, _, _, rfl, _, _, rfl, rfl, ?_⟩
        dsimp only
        change tSeq _ _ _ (lst14 a d v2 (some (.ref e)) (some (.ref u)) (some (.ref o)) (some (.ref L)) (some (.str (twoD t s).shown)) (some (.ref D)) (some (.ref q)) (some (.ref ua)) w11 w12 w13) G
        -- put in
        refine seq_any (fun σ' G' => σ' = lst14 a d v2 (some (.ref e)) (some (.ref u)) (some (.ref o)) (some (.ref L)) (some (.str (twoD t s).shown)) (some (.ref D)) (some (.ref q)) (some (.ref ua)) w11 w12 w13 ∧ SrcAt G' d c ∧ Same (hid d c B) (hid d c G')) ?_ ?_
        rotate_left
        · intro nx hnx
          have z0 := sm.trans hid_sub
          refine ⟨_, rfl, _, rfl, _, rfl, u, q, o, t, w, s, p, rfl, htB.same z0, rt, sqt_same z0 h2, by omega, hat, hoB.same z0, fun b1 H1 s1 g1 => ?_⟩
          have z1 := z0.trans s1
          refine ⟨_, rfl, _, rfl, _, rfl, u, q, o, t, w, s, p, rfl, htB.same z1, rt, sqt_same z1 h2, by omega, by omega, hat, hoB.same z1, fun b2 H2 s2 g2 => ?_⟩
          have hz := put_sz (s := s) hat
          refine ne_tm (put_rt rs rt hat) (by omega) (g1.same s2) g2 ⟨_, rfl, iteF ?_⟩
          exact hnx _ _ ⟨rfl, src_same (s1.trans s2) src, sm.trans (hid_same (s1.trans s2))⟩
        rintro σ G4 ⟨rfl, src4, sm4⟩
        -- there
        refine seq_any (fun σ' G' => σ' = lst14 a d v2 (some (.ref e)) (some (.ref u)) (some (.ref o)) (some (.ref L)) (some (.str (twoD t s).shown)) (some (.ref D)) (some (.ref q)) (some (.ref ua)) w11 w12 w13 ∧ SrcAt G' d c ∧ Same (hid d c B) (hid d c G')) ?_ ?_
        rotate_left
        · intro nx hnx
          have z0 := sm4.trans hid_sub
          refine ⟨_, rfl, _, rfl, u, q, t, w, p, rfl, htB.same z0, rt, sqt_same z0 h2, hat, fun b1 H1 s1 g1 => ⟨_, rfl, ?_⟩⟩
          have z1 := z0.trans s1
          refine ne_tm rtw (by omega) g1 (h4.same z1) ⟨_, rfl, iteF ?_⟩
          refine ⟨_, rfl, _, rfl, _, rfl, u, q, ua, t, w, w, p, rfl, htB.same z1, rt, sqt_same z1 h2, by omega, hat, h4.same z1, fun b2 H2 s2 g2 => ⟨_, rfl, ?_⟩⟩
          rw [put_same hat] at g2
          refine ne_tm rt (by omega) g2 (htB.same (z1.trans s2)) ⟨_, rfl, iteF ?_⟩
          exact hnx _ _ ⟨rfl, src_same (s1.trans s2) src4, sm4.trans (hid_same (s1.trans s2))⟩
        rintro σ G5 ⟨rfl, src5, sm5⟩
        -- how many
        refine seq_any (fun σ' G' => σ' = lst14 a d v2 (some (.ref e)) (some (.ref u)) (some (.ref o)) (some (.ref L)) (some (.str (twoD t s).shown)) (some (.ref D)) (some (.ref q)) (some (.ref ua)) (some (.int (w.kids.length : Int))) w12 w13 ∧ SrcAt G' d c ∧ Same (hid d c B) (hid d c G')) ?_ ?_
        rotate_left
        · intro nx hnx
          have z0 := sm5.trans hid_sub
          refine ⟨_, rfl, ua, w, rfl, h4.same z0, rtw, fun pp us H1 s1 hp hk => ⟨pp, _, rfl, .inr (SqT.of hp), ?_⟩⟩
          rw [List.length_map, hk.len]
          exact hnx _ _ ⟨rfl, src_same s1 src5, sm5.trans (hid_same s1)⟩
        rintro σ G6 ⟨rfl, src6, sm6⟩
        -- what is no number of a part
        refine ⟨_, rfl, _, rfl, szl (by show 1 ≤ 1000; decide), fun Z hZ => ?_⟩
        have nZ := new_h (.tup [V.int 0]) src6 hZ
        refine ⟨szl (by show 7 ≤ 1000; decide), fun T hT => ?_⟩
        have nT := new_h (.tup [.int (w.kids.length : Int), .int (-1), .bl true, .bl false, .non, .str "0", .ref Z]) nZ.src hT
        have eZ := nT.sm _ _ nZ.at_
        have eT := nT.at_
        have srcC := nT.src
        have smC := sm6.trans (nZ.sm.trans nT.sm)
        clear nT nZ
        refine ⟨T, rfl, ⟨_, SqT.of upd_same⟩, ?_⟩
        obtain ⟨C, eC⟩ : ∃ X, X = upd (upd G6 Z (.tup [V.int 0])) T (.tup [.int (w.kids.length : Int), .int (-1), .bl true, .bl false, .non, .str "0", .ref Z]) := ⟨_, rfl⟩
        rw [← eC] at eZ eT srcC smC ⊢
        clear eC
        refine for_it (walk_tup (K := K) (a := T) (xs := [.int (w.kids.length : Int), .int (-1), .bl true, .bl false, .non, .str "0", .ref Z])) (fun i σ G => ∃ v12 v13, σ = lst14 a d v2 (some (.ref e)) (some (.ref u)) (some (.ref o)) (some (.ref L)) (some (.str (twoD t s).shown)) (some (.ref D)) (some (.ref q)) (some (.ref ua)) (some (.int (w.kids.length : Int))) v12 v13 ∧ SrcAt G d c ∧ Same (hid d c C) (hid d c G))
          ⟨w12, w13, rfl, srcC, Same.refl _⟩ (fun i σ G _ ⟨_, _, _, _, z⟩ => sqt_same (z.trans hid_sub) (SqT.of eT)) ?_ ?_
        · rintro j y σ G G' hj ⟨x12, x13, rfl, srcG, smG⟩ ⟨rfl, hy⟩
          obtain ⟨ed, bad⟩ := bad_at (K := K) (Z := Z) (n := w.kids.length) (by omega) hy
          dsimp only [gName]
          change tSeq _ _ _ (lst14 a d v2 (some (.ref e)) (some (.ref u)) (some (.ref o)) (some (.ref L)) (some (.str (twoD t s).shown)) (some (.ref D)) (some (.ref q)) (some (.ref ua)) (some (.int (w.kids.length : Int))) (some y) x13) G'
          have zC : ∀ {G1 : Hp}, Same (hid d c C) (hid d c G1) → Same (hid d c B) G1 := fun z => smC.trans (z.trans hid_sub)
          have zZ : ∀ {G1 : Hp}, Same (hid d c C) (hid d c G1) → SqT K G1 Z [.int 0] := fun z => sqt_same (z.trans hid_sub) (SqT.of eZ)
          have lpp : p.length ≤ 20 := by omega
          have lpv : (paV p).length = p.length := by unfold paV; rw [List.length_map]
          -- refused
          refine seq_any (fun σ' G1 => σ' = lst14 a d v2 (some (.ref e)) (some (.ref u)) (some (.ref o)) (some (.ref L)) (some (.str (twoD t s).shown)) (some (.ref D)) (some (.ref q)) (some (.ref ua)) (some (.int (w.kids.length : Int))) (some y) x13 ∧ SrcAt G1 d c ∧ Same (hid d c C) (hid d c G1)) ?_ ?_
          rotate_left
          · intro nx hnx
            refine ⟨_, rfl, d, c, 2, rfl, srcG, by decide, by decide, fun rr G1 r0 r1 src1 keep1 => ?_⟩
            have eh := hid_pick keep1
            rw [← eh] at smG
            refine ⟨_, rfl, _, rfl, _, rfl, szl (by show 1 ≤ 1000; decide), fun T2 hT2 => ?_⟩
            have s2 := same_upd (o := .tup [y]) hT2
            refine cat_any (sqt_same ((zC smG).trans s2) h2) (SqT.of upd_same) (by rw [lpv]; show p.length + 1 ≤ 1000; omega) fun T3 H3 s3 h3 => ?_
            have s23 := s2.trans s3
            have smH := smG.trans (hid_same (d := d) (c := c) s23)
            have zB := zC smH
            refine ⟨rr, u, T3, t, w, p, y, [], .tuple ((p.map fun n : Nat => PyData.int (n : Int)) ++ [ed]), rfl, htB.same zB, rt, h3, hat, bad.el _ (zZ smH), bad.no, path_shw ?_ (by rw [List.length_append, List.length_map]; show p.length + 1 ≤ 60; omega), fun H' s' => .tup (sqt_same s' h3) (dpa_path p (.cons (bad.dp H' (sqt_same s' (zZ smH))) .nil)), fun H' s' => ?_⟩
            · intro x hx
              rcases List.mem_append.mp hx with z | z
              · obtain ⟨n, hn, rfl⟩ := List.mem_map.mp z
                exact oke_nat (psm n hn)
              · rw [List.mem_singleton.mp z]
                exact bad.ok
            · refine ⟨_, rfl, iteF ?_⟩
              exact hnx _ _ ⟨rfl, src_same (s23.trans s') src1, smH.trans (hid_same s')⟩
          clear srcG smG
          rintro σ G1 ⟨rfl, srcG, smG⟩
          -- a deeper path
          refine seq_any (fun σ' G1 => ∃ T3, σ' = lst14 a d v2 (some (.ref e)) (some (.ref u)) (some (.ref o)) (some (.ref L)) (some (.str (twoD t s).shown)) (some (.ref D)) (some (.ref q)) (some (.ref ua)) (some (.int (w.kids.length : Int))) (some y) (some (.ref T3)) ∧ SrcAt G1 d c ∧ Same (hid d c C) (hid d c G1) ∧ SqT K (hid d c G1) T3 (paV p ++ [.int ((w.kids.length : Int) - 1), .int 9])) ?_ ?_
          rotate_left
          · intro nx hnx
            refine ⟨_, rfl, _, rfl, _, _, rfl, rfl, szl (by show 2 ≤ 1000; decide), fun T2 hT2 => ?_⟩
            have s2 := same_upd (o := .tup [.int ((w.kids.length : Int) - 1), .int 9]) hT2
            refine cat_any (sqt_same ((zC smG).trans s2) h2) (SqT.of upd_same) (by rw [lpv]; show p.length + 2 ≤ 1000; omega) fun T3 H3 s3 h3 => ?_
            have s23 := s2.trans s3
            have srcH := src_same s23 srcG
            exact hnx _ _ ⟨T3, rfl, srcH, smG.trans (hid_same s23), sqt_hid srcH h3⟩
          clear srcG smG
          rintro σ G2 ⟨T3, rfl, srcG, smG, h3⟩
          refine ⟨_, rfl, _, _, rfl, rfl, _, rfl, ite2 (fun hc => ?_) (fun hc => ?_)⟩
          · have pos : 0 < w.kids.length := by
              have z : (0 : Int) < (w.kids.length : Int) := of_decide_eq_true hc
              omega
            obtain ⟨m, em⟩ : ∃ m : Nat, w.kids.length = m + 1 := ⟨w.kids.length - 1, by omega⟩
            have ek : w.kids[m]? = some (w.kids[m]'(by omega)) := List.getElem?_eq_getElem _
            have hat2 := at_snoc hat ek
            have rtk := Rt.at rt hat2
            have kk := kids_le rtk
            have lp2 := at_len hat2
            have psm2 := at_small rt hat2
            refine ⟨_, rfl, d, c, 2, rfl, srcG, by decide, by decide, fun rr G1 r0 r1 src1 keep1 => ?_⟩
            have eh := hid_pick keep1
            rw [← eh] at smG h3
            have zB := zC smG
            replace h3 : SqT K G1 T3 (paV (p ++ [m]) ++ .int 9 :: []) := by
              have z := sqt_same hid_sub h3
              rw [show ((w.kids.length : Int) - 1) = (m : Int) by omega] at z
              rw [show paV (p ++ [m]) = paV p ++ [.int (m : Int)] by unfold paV; rw [List.map_append]; rfl, List.append_assoc]
              exact z
            refine ⟨_, rfl, _, rfl, rr, u, T3, t, _, p ++ [m], .int 9, [], .tuple (((p ++ [m]).map fun n : Nat => PyData.int (n : Int)) ++ [.int 9]), rfl, htB.same zB, rt, h3, hat2, .int 9, ?_, path_shw ?_ (by rw [List.length_append, List.length_map, List.length_append]; show p.length + 1 + 1 ≤ 60; omega), fun H' s' => .tup (sqt_same s' h3) (dpa_path (p ++ [m]) (.cons (.int 9) .nil)), fun H' s' => ?_⟩
            · show (decide ((0 : Int) ≤ 9) && decide ((9 : Int) < ((w.kids[m]'(by omega)).kids.length : Int))) = false
              rw [decide_eq_false (show ¬ ((9 : Int) < ((w.kids[m]'(by omega)).kids.length : Int)) by omega), Bool.and_false]
            · intro x hx
              rcases List.mem_append.mp hx with z | z
              · obtain ⟨n, hn, rfl⟩ := List.mem_map.mp z
                exact oke_nat (psm2 n hn)
              · rw [List.mem_singleton.mp z]
                exact oke_nat (n := 9) (by omega)
            · refine ⟨_, rfl, iteF ?_⟩
              exact ⟨_, _, rfl, src_same s' src1, smG.trans (hid_same s')⟩
          · exact iteF ⟨_, _, rfl, srcG, smG⟩
        · rintro σ G7 ⟨x12, x13, rfl, src7, sm7⟩
          exact ⟨_, _, _, _, _, rfl, src7, smC.trans sm7⟩
      · rintro σ G ⟨w9, w10, w11, w12, w13, rfl, src, sm⟩
        exact hnx _ _ ⟨w9, w10, w11, w12, w13, rfl, src, sm⟩
    clear v9 v10 v11 v12 v13
    rintro σ G9 ⟨v9, v10, v11, v12, v13, rfl, src9, sm9⟩
    -- nothing has changed
    have z0 := sm9.trans hid_sub
    refine ⟨_, rfl, u, t, rfl, htB.same z0, rt, by omega, fun D9 qs9 H1 s1 hD9 eD9 hQ9 => ?_⟩
    have z1 := z0.trans s1
    have eL9 : H1 L = some (.lst (ps.map V.ref)) := z1 _ _ eLH
    have hP9 := hPH.same z1
    refine ⟨_, rfl, L, rfl, ⟨_, SqL.of eL9⟩, fun D2 hD2 => ?_⟩
    refine lc_list (K := K) (a := L) (xs := ps.map V.ref) (fun i G => ∃ ws : List Addr, G D2 = some (.lst (ws.map V.ref)) ∧ Pas K G ws (((ppre [] t).take i).map (·.1)) ∧ Same H1 G) ⟨[], upd_same, .nil, same_upd hD2⟩ (fun i G _ ⟨_, _, _, q⟩ => q.seq (SqL.of eL9)) ?_ ?_
    · rintro j v G5 hj ⟨ws, ew, hW, sm⟩
      obtain ⟨r, er, rfl⟩ := ref_at hj
      obtain ⟨⟨p, w⟩, ep, q, ua, h1, h2, h4⟩ := hP9.get er
      have li := (List.getElem?_eq_some_iff.mp ep).1
      rw [ppre_len] at li
      have lw := hW.len
      rw [List.length_map, List.length_take] at lw
      refine ⟨r, _, rfl, sqt_same sm h1, rfl, _, _, rfl, _, _, rfl, rfl, rfl, _, rfl, ?_⟩
      refine ⟨_, ew, ?_, ws ++ [q], ?_, ?_, same_put hD2 sm⟩
      · rw [List.length_map]
        exact small1000 (by omega)
      · rw [upd_same, List.map_append]
        rfl
      · rw [List.take_add_one, ep, List.map_append]
        exact (hW.app (.cons (sqt_same sm h2) .nil)).put ew
    · rintro G5 ⟨ws, ew, hW, sm⟩
      rw [List.length_map, hP9.len, List.take_length] at hW
      refine ne_pas (SqL.of (sm _ _ eD9)) (SqL.of ew) (hQ9.same sm) hW ⟨_, rfl, iteF ?_⟩
      have z2 := z1.trans sm
      refine ⟨_, rfl, _, rfl, szl (by show 2 ≤ 1000; decide), fun l hl => ?_⟩
      have sl := same_upd (o := .lst [V.ref u, V.ref o]) hl
      have z3 := z2.trans sl
      refine ⟨_, twoD t s, rfl, .lst (SqL.of upd_same) (.cons (dp_tm (htB.same z3)) (.cons (dp_tm (hoB.same z3)) .nil)), ⟨l, rfl⟩, fs.s, fs.k, fs.p, fs.l, ?_⟩
      refine ⟨_, rfl, rfl, _, rfl, ?_⟩
      rw [decide_eq_true rfl]
      exact iteF ⟨⟨_, _, _, _, _, _, _, _, _, _, _, _, rfl⟩, src_same (s1.trans (sm.trans sl)) src9⟩
end
end K24

namespace K24
open PySem PySem.Spec PyProof.Rows L2 Ow
/-! ### the end: the law's def is called at the bottom, where nothing is being shown -/
section
variable {P : Program} {w : World} {K : PySem.W.Frag} {mg mb : Str → Option Value} {f a : Addr} {fd : FuncData} {s : Shared} {us : List Value} {ks : List Int}
/-- what the row asks of that call -/
def Done (P : Program) (w : World) (f a : Addr) (s : Shared) : Prop :=
  codeAny (model P w) callerA (.call (.ref f) ⟨[.ref a], []⟩) (fun r t => r = .ok (.ret (.bool true)) ∧ OldK s.heap t.heap ∧ t.os = s.os ∧ AllBare t.gens) s
/-- over a reading that tracks the script, or nothing -/
theorem done_at (kx : K.In s.heap) (gN : s.heap.Ns mainGlobals mg) (bN : s.heap.Ns builtinsNs mb) (bQ : ∀ y : Str, y ≠ "__name__" → mb y = bootBuiltins y) (nl : s.heap.NoLimit) (ge : s.gens = #[])
    (aO : s.heap.get? a = some { cls := .type "list", data := .seq us.toArray }) (law : ∀ B : Heap, K.In B → B.Ns mainGlobals mg → FnG P w K mg B 43 f fd ["_law_script"] (spLaw K))
    (bd : BindsTo s fd ⟨[.ref a], []⟩ [("_law_script", .ref a)]) (H : Hp) (tr : Only H) (rd : SqL K H a (ks.map V.int)) (ln : ks.length ≤ 63) (ok : HOk P w H s.heap) (one : ∀ b, b ≠ a → H b = none) (un : H a ≠ none → K.lookup a = none) : Done P w f a s := by
  have isA : ∀ {b : Addr}, H b ≠ none → b = a := fun {b} z => Classical.byContradiction fun n => z (one b n)
  have dNo : ∀ {b : Addr} {o : Obj} {es : Array DictEntry} {ep : Nat}, s.heap.get? b = some o → o.data = .dict es ep → H b = none := fun {b o es ep} g d => one b fun e => by
    rw [e, aO] at g
    cases g
    exact nomatch (show Data.seq us.toArray _ = Data.dict es ep from d)
  have nsB : ∀ {b : Addr} {m : Str → Option Value}, s.heap.Ns b m → (hidT s.heap H).Ns b m := fun {b m} z => by
    obtain ⟨o, es, ep, g, d, r⟩ := z
    exact ⟨o, es, ep, hidT_get g (dNo g d), d, r⟩
  have kB : K.In (hidT s.heap H) := fun b o g => hidT_get (kx b o g) (Classical.byContradiction fun z => by
    have e := isA z
    rw [e] at z g
    exact nomatch (un z).symm.trans g)
  have md : Mod K mg (hidT s.heap H) := ⟨kB, nsB gN, ⟨mb, nsB bN, bQ⟩, by obtain ⟨m, g1, g2⟩ := nl; exact ⟨m, nsB g1, g2⟩⟩
  have en : Env0 P w K mg (hidT s.heap H) callerA [] s H := ⟨rfl, md, fun b o g => of_hidT g, Nat.le_of_eq (hidT_size _ _), trivial, fun b z => (List.not_mem_nil z).elim, ok, .of_eq ge⟩
  have go := (law _ kB (nsB gN)).run callerA [] s H ⟨[.ref a], []⟩ [.ref a] [.ref a] (fun v _ => v = .bl true) (fun _ _ _ => False) rfl ⟨rfl, by decide, by decide⟩ en bd (.cons rfl .nil) ⟨a, ks, rfl, rd, ln, fun _ => rfl⟩
  refine codeAny_mono go fun res t z => ?_
  match res, z with
  | .error _, z => exact False.elim z
  | .ok .next, z => exact False.elim z
  | .ok .brk, z => exact False.elim z
  | .ok .cont, z => exact False.elim z
  | .ok (.ret u), ⟨v, G, os, bare, base, okG, rv, e⟩ =>
    cases (show v = V.bl true from e)
    cases (show u = Value.bool true from rv)
    refine ⟨rfl, .of_keep fun b o g => ?_, os, bare⟩
    by_cases n : H b = none
    · exact base.keep b o g n (fun z => (List.not_mem_nil z).elim) (by simp)
    · rcases tr b with z | ⟨p, xs, z⟩
      · exact (n z).elim
      · have g1 := (ok b _ z).1
        have g2 := (okG b _ (base.frzs b p _ z)).1
        rw [g] at g1
        cases g1
        exact g2
theorem done (kx : K.In s.heap) (gN : s.heap.Ns mainGlobals mg) (bN : s.heap.Ns builtinsNs mb) (bQ : ∀ y : Str, y ≠ "__name__" → mb y = bootBuiltins y) (nl : s.heap.NoLimit) (ge : s.gens = #[])
    (aO : s.heap.get? a = some { cls := .type "list", data := .seq us.toArray }) (ia : IntsAre us ks) (ln : ks.length ≤ 63) (law : ∀ B : Heap, K.In B → B.Ns mainGlobals mg → FnG P w K mg B 43 f fd ["_law_script"] (spLaw K))
    (bd : BindsTo s fd ⟨[.ref a], []⟩ [("_law_script", .ref a)]) : Done P w f a s := by
  have vi := vals_ints ia
  have l1 : us.length = ks.length := ia.length
  have sz : ks.length ≤ sizeLine := Nat.le_trans ln (by decide)
  have at_ := done_at (ks := ks) kx gN bN bQ nl ge aO law bd
  by_cases kn : K.lookup a = none
  · refine at_ (fun b => if b = a then some (.frz { cls := .type "list", data := .seq us.toArray } (.lst (ks.map V.int))) else none) (fun b => ?_) (.inl (.inr ⟨_, if_pos rfl⟩)) ln (fun b u z => ?_) (fun b n => if_neg n) fun _ => kn
    · by_cases e : b = a
      · exact .inr ⟨_, _, if_pos e⟩
      · exact .inl (if_neg e)
    · by_cases e : b = a
      · cases (if_pos e).symm.trans z
        cases e
        exact ⟨aO, by rw [List.length_map]; exact sz, us, _, vi, aO⟩
      · exact nomatch (if_neg e).symm.trans z
  · obtain ⟨o, lk⟩ := Option.ne_none_iff_exists'.mp kn
    have e := (kx a o lk).symm.trans aO
    cases e
    exact at_ (fun _ => none) (fun _ => .inl rfl) (.inr ⟨_, us.toArray, _, lk, rfl, rfl, rfl, by rw [List.size_toArray, l1]; exact sz, by simpa using vi⟩) ln (fun b u z => nomatch (show (none : Option HO) = some u from z)) (fun _ _ => rfl) fun z => (z rfl).elim
end
/-- what the head has told of the law's def -/
theorem told_law {P : Program} {w : World} {K : PySem.W.Frag} {h : Heap} {mg : Str → Option Value} {f : Addr} (X : K.In h) (G : h.Ns mainGlobals mg) (at_ : mg ("law" : Str) = some (.ref f)) (c : He.SaysT fa fn tabs w K) (e : exB K = true) :
    ∃ fd : FuncData, (∀ (s : Shared) (v : Value), BindsTo s fd ⟨[v], []⟩ [("_law_script", v)]) ∧ ∀ B : Heap, FnG P w K mg B 43 f fd ["_law_script"] (spLaw K) := by
  have Y := Fx.of X G c e
  obtain ⟨fd, F⟩ := Y.dLaw
  have z := at_.symm.trans Y.gLaw
  cases z
  have b := FunD.bindsA (ps := ["_law_script"]) F fun _ _ _ _ _ _ us hl => match us, hl with | [_], _ => rfl
  exact ⟨fd, fun s v => b s [v] rfl, fun B => ok_law F Y⟩
theorem walkG {q : Program} {loose : List Str} {XP : (Str → Option Value) → Heap → Prop} {d : DefRec} (df : d.params.defaults = []) (nme : d.name = ("law" : Str)) :
    PySem.W.WalkO q loose XP hk.says (PySem.Challenge.rw_pairlaws_k24_parts_of_terms).row.toRowW d [] (fun f vs => PySem.call f vs) := by
  refine Att.attach_call (n := 63) rfl df fun w s₀ s mg mb f o pm cd doc a us ks G Y ho hd hcd at_ aO ia ln ge => ?_
  obtain ⟨K, kx, c, e⟩ := Y
  rw [nme] at at_
  obtain ⟨fd, bd, law⟩ := told_law (P := (PySem.Challenge.rw_pairlaws_k24_parts_of_terms).prog) (w := w) kx G.T.g at_ c e
  exact done kx G.T.g G.T.b G.T.builtins G.T.nolimit ge aO ia ln (fun B _ _ => law B) (bd s (.ref a))
end K24

open PySem PySem.W PySem.Calls PyProof.Rows
set_option maxRecDepth 100000 in
set_option maxHeartbeats 0 in
theorem PySem.Challenge.cw_pairlaws_k24_parts_of_terms_holds : PySem.Challenge.rw_pairlaws_k24_parts_of_terms.Holds := by
  w_on; o_law
  refine HandSHeadRun.head_any (r := OpenLaw.row PySem.Challenge.rw_pairlaws_k24_parts_of_terms) (q := view (OpenLaw.row PySem.Challenge.rw_pairlaws_k24_parts_of_terms).prog [49]) (H := K24.hk) (ob := K24.ob) (M := 40000) (loose := K24.nm) (d := HandSHeadRun.topDef (OpenLaw.row PySem.Challenge.rw_pairlaws_k24_parts_of_terms).prog 49) (kwd := []) K24.ob_eq
    (by kernel_rfl) (fun s => by kernel_rfl) K24.run (by kernel_rfl) (by kernel_rfl) (by kernel_rfl) (by rfl) (by first | assumption | decide +kernel) (by decide +kernel) ⟨rfl, rfl, rfl, rfl, rfl, by decide +kernel⟩ ?hw ?hc
  case hw => w_witness2
  case hc => exact K24.walkG (by kernel_rfl) (by kernel_rfl)
