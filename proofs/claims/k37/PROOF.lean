import PyProof.Rows.All
import Wide.All
import OpenK.AllK
import Wide.FinOn
import KE.KStateDown
import KE.KExcInit
import KE.KExcIs
import HandS.ForMost
import HandS.ForExc
import HandS.ExcInit
import HandS.ExcValue
import HandS.ExcField
import HandS.IsInst
import HandS.Conv
import HandS.Defaults
import HandS.Wide
import HandS.Head0
import HandS.Head1
import HandS.Head2
import HandS.HeadEnd
import HandS.HeadHook1
import HandS.HeadHook2
import HandS.HeadHook3
import KE.GoesEnum
import HandS.OwnEq
import HandS.Zip
import HandS.Strs
import HandS.DictComp
import HandS.Flow
import HandS.Style
import HandS.More
import HandS.NoneIn
import HandS.WideBits
import HandS.Codes
import HandS.TupAny
import HandS.Star
import HandS.RevTup
import PyProof.ReprRoads
import HandS.HeadHook4
import HandS.Walk
import KE.KRevSl
import HandS.TryMany
import PyProof.P3In
import PyProof.EqKinds
import PyProof.FactsAll.dict
import HandS.Exc
import PyProof.NeKinds
import HandS.SuiteRaise
import HandS.Finally
import HandS.RaiseFrom
import HandS.ExcInitHot
import HandS.Deep
import HandS.Lambda
import HandS.EndBits
import HandS.EndTab
import PySem.Challenge.RW_pairlaws_k37_books_refused
set_option Elab.async false
set_option linter.all false
set_option maxRecDepth 100000
set_option maxHeartbeats 0
/-! Exceptions of the program as plain values: made, stored into, read, asked for their class; repr of data. -/
namespace Xv
open PySem PySem.Spec PyProof.Rows L2
/-- what the written part says of an exception class -/
structure EC (K : PySem.W.Frag) (C : Addr) : Prop where
  cl : (PySem.W.clsIn K C).isSome = true
  hd : PySem.W.hasDictIn K C = true
  ga : PySem.W.findIn K (.ref C) "__getattribute__" = some (some (.builtin "BaseException.__getattribute__"))
  gg : PySem.W.findIn K (.ref C) "__getattr__" = some none
  sa : PySem.W.findIn K (.ref C) "__setattr__" = some (some (.builtin "object.__setattr__"))
  ca : PySem.W.findIn K (.ref C) "__class__" = some (some (.builtin "object.__class__"))
  be : PySem.W.subIn K (.ref C) (.type "BaseException") = some true
  ob : PySem.W.mroIn K C (.type "object") = some true
  kp : PySem.W.keepIn K (.ref C) = true
/-- and of object.__class__ -/
structure OC (K : PySem.W.Frag) : Prop where
  g : PySem.W.specialIn K (.builtin "object.__class__") "__get__" = some (some (.builtin "getset_descriptor.__get__"))
  t : PySem.W.takesIn K (.builtin "object.__class__") = some true
/-- an exception of the class at C at a, with no dict as yet or with the fields fs -/
def IsX (H : Hp) (a C : Addr) (fs : List (Str × V)) : Prop := (H a = some (exo a C none) ∧ fs = []) ∨ ∃ dx, H a = some (exo a C (some dx)) ∧ H dx = some (exd dx fs)
section
variable {X : Cx} {pins : List (Addr × Obj)} {σ : L2.St} {H : Hp} {s : Shared} {a C : Addr} {fs : List (Str × V)}
theorem IsX.at (I : Inv X pins σ H s) (e : IsX H a C fs) : ∃ (ox : Obj) (od : Option Obj), PySem.W.InstAt s.heap a ox C od := by
  rcases e with ⟨e, _⟩ | ⟨dx, e, d⟩
  · obtain ⟨t, h⟩ := exo_at I.hok e
    exact ⟨_, none, h, rfl, rfl, trivial⟩
  · obtain ⟨t, h⟩ := exo_at I.hok e
    obtain ⟨mA, hn, _⟩ := exd_at I.hok d
    obtain ⟨o, _, _, ho, _⟩ := hn
    exact ⟨_, some o, h, rfl, rfl, ho⟩
/-- isinstance(e, c) of such an exception -/
def rIsX (K : PySem.W.Frag) : List V → Hp → VK → Prop := fun xs H Q => ∃ (a C : Addr) (fs : List (Str × V)) (c : V) (u : Value) (b : Bool), xs = [.ref a, c] ∧ IsX H a C fs ∧ EC K C ∧ ClsV c u ∧ PySem.W.kitOne K (.ref C) u = some b ∧ Q (.bl b) H
theorem call_isX (O : OC X.K) : CallR X (.builtin "isinstance") (rIsX X.K) := by
  intro pins s σ H xs us Q I r ⟨a, C, fs, c, u, b, e, hx, T, k, ek, q⟩
  subst e
  obtain ⟨u1, u2, rfl, r1, r2⟩ := vals2 r
  obtain rfl : u1 = Value.ref a := r1
  have e2 := k.eq r2
  subst e2
  obtain ⟨ox, od, J⟩ := hx.at I
  exact PySem.W.kia_one (PySem.W.kitx_exc T.cl T.ga T.gg T.be T.ca O.g O.t T.ob) I.kIn J ek (fun z => nomatch z) fun tk => ⟨.bl b, H, I.tok tk, rfl, q⟩
/-- C(), the class without an __init__ of its own -/
theorem pe_exc0 {bmB : List Value} {B newId initId : String} {x : Str} {p pos : Pos} (F : ExcBaseFacts B newId initId bmB) (q : PySem.W.excIn X.K C bmB newId = true) (gC : X.mg x = some (.ref C)) (kC : PySem.W.keepIn X.K (.ref C) = true) (hg : Gl X x)
    (hdb : (x == ("__debug__" : Str)) = false := by decide) : PE X (.Call (.Name x p) [] [] pos) (fun _ H Q => ∀ a, H a = none → Q (.ref a) (upd H a (exo a C none))) := by
  refine ⟨fun pins s σ H Q I h => wpAny_Call_Name_kw (ld_glob I hg gC ?_ hdb)⟩
  refine PySem.W.callWith_K0 I.kIn kC ?_
  obtain ⟨bm, N, nm, qn, bs, hdct, sn, sub, abt, col, dd, k0, k1, k2, k3, k5, mN, hC, hN, hni, T⟩ := exc_obj I.kIn q
  refine wpAny_call_exc_subT F T hC hN hni (fun h' e hm => ?_) (by show 0 ≤ sizeLine; rw [sizeLine_eq]; omega)
  have hn : H e = none := I.hok.gone hm.new
  obtain ⟨t, ht, _, _⟩ := hm.there
  exact ⟨.ref e, upd H e (exo e C none), I.laidN hm.keeps hm.new hn (exo_ok ht), rfl, h e hn⟩
/-- C(e, ..), the class's own __init__ keeping sp -/
theorem pe_excI {CX : CXT} {bmB : List Value} {B newId initId : String} {x : Str} {fI : Addr} {k : Nat} {fd : FuncData} {ps : List Str} {sp : Sp} {p pos : Pos} {e : Expr} {es : List Expr} {ta : TA} (F : ExcBaseFacts B newId initId bmB)
    (q : PySem.W.excInitIn X.K C bmB newId = true) (iC : PySem.W.findIn X.K (.ref C) "__init__" = some (some (.ref fI))) (tI : PySem.W.typeIn X.K (.ref fI) = some (.type "function")) (kC : PySem.W.keepIn X.K (.ref C) = true)
    (F1 : FnOk X.prog X.w X.K X.mg X.base CX k fI fd ps sp) (hr : Room (k + 1) X.A) (hb : Binds X.K fd ps []) (hx : Passes CX X (fun _ _ _ => False)) (hg : Gl X x) (hm : X.mg x = some (.ref C)) (ha : PA X (e :: es) ta)
    (hdb : (x == ("__debug__" : Str)) = false := by decide) (he : starEach (e :: es) X.env = (false, eval e X.env) :: starEach es X.env := by rfl) (hpl : (backTo pos (starEach es X.env)).any (·.1) = false := by rfl) :
    PE X (.Call (.Name x p) (e :: es) [] pos) (fun σ H Q => ta σ H fun vs H1 => vs.length ≤ 1000 ∧ ∀ a, H1 a = none → sp (.ref a :: vs) (upd H1 a (exo a C none)) (fun v H2 => v = .non ∧ Q (.ref a) H2) (fun _ _ _ => False)) := by
  refine ⟨fun pins s σ H Q I h => wpAny_Call_Name_kw (ld_glob I hg hm ?_ hdb)⟩
  refine PySem.W.callWith_K (h₀ := X.base) I.ok.mod.kin kC (thn (ha.run pos pins s σ H _ I h) fun us s1 ⟨vs, H1, I1, r1, hz, q1⟩ => ⟨I1.kIn, ?_⟩) he hpl
  show wpAny _ _ (call (.ref C) us) _ _ _
  obtain ⟨hp, g, dr, tk, os⟩ := s1
  have sz1 : hp.objs.size ≤ hp.objs.size + 1 := Nat.le_succ _
  have spq := q1 (hp.objs.size + 1) (I1.hok.fresh sz1)
  obtain ⟨nm, N', qn, bs, bm, hdct, sn, sub, abt, col, dd, k0, k1, k2, k3, k5, hC, hT⟩ := PySem.W.excInit_of I1.kIn q
  have kept : ∀ b o, hp.get? b = some o → ((hp.push (PySem.W.kdv_tup us)).push (PySem.HandSPX.excO C hp.objs.size)).get? b = some o := fun b o z => Heap.get?_push_of_some _ (Heap.get?_push_of_some _ z)
  have there : ((hp.push (PySem.W.kdv_tup us)).push (PySem.HandSPX.excO C hp.objs.size)).get? (hp.objs.size + 1) = some (PySem.HandSPX.excO C hp.objs.size) := by heap_get
  have I2 := I1.laid (t' := tk) (a := hp.objs.size + 1) (o := exo (hp.objs.size + 1) C none) kept sz1 (exo_ok there)
  have rl : Vals (V.ref (hp.objs.size + 1) :: vs) (Value.ref (hp.objs.size + 1) :: us) := .cons rfl r1
  have ln : (Value.ref (hp.objs.size + 1) :: us).length = ps.length := by rw [← rl.length]; exact F1.len _ _ _ _ spq
  have uz : us.length ≤ sizeLine := by rw [← Paired.length r1, sizeLine_eq]; omega
  have bd := hb _ (Value.ref (hp.objs.size + 1) :: us) I2.kIn (by rw [List.append_nil]; exact ln)
  rw [List.append_nil] at bd
  refine wpAny_call (PySem.HandSPX.call_own F hT hC (PySem.W.looks_findIn I1.kIn iC) (fun self => PySem.W.bind_fn I1.kIn self tI) uz
    (codeAny_mono (F1.run _ X.stack _ _ ⟨Value.ref (hp.objs.size + 1) :: us, []⟩ _ _ _ (fun _ _ _ => False) (hr.make C us []) (I2.env0.make C us []) bd rl spq) fun r s' z => ?_))
  cases r with
  | error er => exact hx pins σ _ _ er s' I2 z
  | ok fl =>
    cases fl with
    | ret u =>
      obtain ⟨v, H', J, rv, ev, q3⟩ := I2.after z
      subst ev
      exact ⟨rv, .ref (hp.objs.size + 1), H', J, rfl, q3⟩
    | next => exact False.elim z
    | brk => exact False.elim z
    | cont => exact False.elim z

/-- the object's dict is made: what the abstract heap says behind the first store -/
theorem stored {h' : Heap} {hp : Heap} {g : Array GenState} {dr : Drawn} {t t' : Nat} {os : OsState} {dx t1 : Addr} {mA : Str → Option Value} (I : Inv X pins σ H ⟨hp, g, dr, t, os⟩) (e : H a = some (exo a C none)) (hk : ∀ b o, b ≠ a → hp.get? b = some o → h'.get? b = some o)
    (dn : hp.objs.size ≤ dx) (hx : h'.get? a = some ({ cls := .ref C, dict := some dx, data := .fields #[.ref t1, .none, .none, .none, .bool false, .none] } : Obj)) (hn : h'.Ns1 dx mA) (rel : ∀ g, RelO (fs.lookup g) (mA g)) :
    Inv X pins σ (upd (upd H dx (exd dx fs)) a (exo a C (some dx))) ⟨h', g, dr, t', os⟩ := by
  have fr : H dx = none := I.hok.fresh dn
  have old : ∀ {b : Addr} {o : Obj}, hp.get? b = some o → b ≠ dx := fun z => Nat.ne_of_lt (Nat.lt_of_lt_of_le (Heap.lt_size z) dn)
  have na : ∀ {b : Addr}, H b = none → b ≠ a := fun n z => nomatch (show (none : Option HO) = some _ from n.symm.trans ((congrArg H z).trans e))
  have up : ∀ {b : Addr} {u : HO}, H b = some u → b ≠ a → upd (upd H dx (exd dx fs)) a (exo a C (some dx)) b = some u := fun z hb => (upd_ne hb).trans ((upd_ne (ne_of_none z fr)).trans z)
  have U : Un X.fs [] H (upd (upd H dx (exd dx fs)) a (exo a C (some dx))) hp h' :=
    ⟨fun b o q n _ _ => hk b o (na n) q, fun b o q n _ _ => ⟨o.slots, hk b o (na n) q⟩, fun b o q n _ => (upd_ne (na n)).trans ((upd_ne (old q)).trans n),
      fun b o q _ => if hb : b = a then ⟨_, hb ▸ hx⟩ else ⟨o, hk b o hb q⟩, fun b xs q => up q (at_ne e q exo_tup), fun b o v q => up q (at_ne e q exo_frz), fun b ps q => ⟨#[], (up q (at_ne e q exo_tbl)).trans (by simp)⟩⟩
  refine I.un U fun b o q => ?_
  by_cases hb : b = a
  · subst hb
    rw [upd_same] at q
    obtain rfl := Option.some.inj q
    exact exo_ok hx
  rw [upd_ne hb] at q
  by_cases hd : b = dx
  · subst hd
    rw [upd_same] at q
    obtain rfl := Option.some.inj q
    exact exd_ok hn rel
  rw [upd_ne hd] at q
  refine (I.hok b o q).stay (fun c v hc z => hk c v ?_ z) (fun c hc => up hc (at_ne e hc exo_own)) (fun c xs hc => up hc (at_ne e hc exo_tup))
  rcases hc with rfl | hc
  · exact hb
  · exact at_ne e hc exo_own
section
variable {B : String} {bmB : List Value} {f : Str} {y : V} {u : Value} {Q : Unit → Shared → Prop} {E : Value → Shared → Prop} {A : Around} {dx : Addr}
theorem st_new (SF : StoreFacts B bmB "object.__setattr__" "object") (T : EC X.K C) (ov : PySem.W.excOver X.K C bmB = true) (tk : PySem.W.takerIn X.K C f = some none) (I : Inv X pins σ H s) (e : H a = some (exo a C none)) (ry : RelV y u)
    (h : ∀ dx s', H dx = none → dx ≠ a → Inv X pins σ (upd (upd H dx (exd dx [(f, y)])) a (exo a C (some dx))) s' → Q () s') : wpAny (model X.prog X.w) A (setAttr (.ref a) f u) Q E s := by
  obtain ⟨t1, ho⟩ := exo_at I.hok e
  obtain ⟨hp, g, d, t, os⟩ := s
  obtain ⟨cd, hc, hd'⟩ := PySem.W.any_some T.hd
  have az : a ≠ hp.objs.size := Nat.ne_of_lt (Heap.lt_size ho)
  refine PySem.W.set_plain I.kIn (od := none) ⟨ho, rfl, rfl, trivial⟩ T.sa (PySem.W.osa_openX (s := ⟨hp, g, d, t + 1, os⟩) (od := none) SF I.kIn ⟨ho, rfl, rfl, trivial⟩ ov tk fun b => ?_)
  refine wpAny_bind (wpAny_pure (wpAny_bind (PySem.W.instanceDict_exc (t := t1) (c2 := .none) ho ((PySem.W.looks_clsIn I.kIn hc)) hd' ?_)))
  show wpAny _ _ (Builtin.ObjectAttr.storeInDict hp.objs.size (.str f _) f u) _ _ _
  refine PySem.HandSPX.store_in_new ⟨_, #[], _, (Heap.get?_update_ne _ _ _ _ az.symm).trans (Heap.get?_push_at rfl rfl), rfl, fun e he => absurd he (by simp), fun _ => rfl⟩ fun h' tk' hn' hs => ?_
  have ha : (hp.push (PySem.W.dictOf [] 0)).get? a = some _ := Heap.get?_push_of_some _ ho
  refine h hp.objs.size _ (I.hok.fresh (Nat.le_refl _)) az.symm (stored (t1 := t1) I e (fun b o hb q => ?_) (Nat.le_refl _) ?_ hn' (relO_put (fs := []) ry fun _ => True.intro))
  · exact (hs.2 b (Nat.ne_of_lt (Heap.lt_size q))).trans ((Heap.get?_update_ne _ _ _ _ hb).trans (Heap.get?_push_of_some _ q))
  · exact (hs.2 a az).trans (Heap.get?_update_self _ ha rfl)

theorem st_old (SF : StoreFacts B bmB "object.__setattr__" "object") (T : EC X.K C) (ov : PySem.W.excOver X.K C bmB = true) (tk : PySem.W.takerIn X.K C f = some none) (I : Inv X pins σ H s) (e : H a = some (exo a C (some dx))) (ed : H dx = some (exd dx fs)) (hl : fs.length ≤ 900) (ry : RelV y u)
    (h : ∀ s', Inv X pins σ (upd H dx (exd dx ((f, y) :: fs))) s' → Q () s') : wpAny (model X.prog X.w) A (setAttr (.ref a) f u) Q E s := by
  obtain ⟨t1, ho⟩ := exo_at I.hok e
  obtain ⟨mA, hns, rel⟩ := exd_at I.hok ed
  have hw := within_of rel
  obtain ⟨hp, g, d, t, os⟩ := s
  obtain ⟨cd, hc, hd'⟩ := PySem.W.any_some T.hd
  obtain ⟨oD, _, _, hoD, _, _⟩ := hns.count hw
  have Lc : PySem.W.Looks (model X.prog X.w) hp (classData C) cd := PySem.W.looks_clsIn I.kIn hc
  refine PySem.W.set_plain I.kIn (od := some oD) ⟨ho, rfl, rfl, hoD⟩ T.sa (PySem.W.osa_openX (s := ⟨hp, g, d, t + 1, os⟩) (od := some oD) SF I.kIn ⟨ho, rfl, rfl, hoD⟩ ov tk fun b => ?_)
  refine wpAny_bind (wpAny_pure (wpAny_bind (wpAny_bind (wpAny_loadPart ho (wpAny_bind (Lc.at ?_))))))
  rw [hd']
  refine wpAny_pure (a := some dx) ?_
  refine PySem.OEX.store_in_old hns hw (by rw [List.length_map]; omega) fun h' tk' hn' hs => ?_
  have there : ∃ o, h'.get? dx = some o := let ⟨o, _, _, q, _⟩ := hn'; ⟨o, q⟩
  exact h _ (I.write (t' := tk') (x := dx) (e := dx) (o := exd dx ((f, y) :: fs)) (by rw [ed]; exact True.intro) (.inl rfl) (fun b o hb q => (hs.2 b hb).trans q) there (exd_ok hn' (relO_put ry rel)))
end
/-- o.f = e, o an exception of the class at C -/
def tSt (C : Addr) (f : Str) (to te : TE) : TS := fun D σ H => te σ H fun y H1 => to σ H1 fun x H2 => ∃ a : Addr, x = .ref a ∧
  ((H2 a = some (exo a C none) ∧ ∀ dx, H2 dx = none → dx ≠ a → D.nx σ (upd (upd H2 dx (exd dx [(f, y)])) a (exo a C (some dx)))) ∨
    ∃ (dx : Addr) (fs : List (Str × V)), H2 a = some (exo a C (some dx)) ∧ H2 dx = some (exd dx fs) ∧ fs.length ≤ 900 ∧ D.nx σ (upd H2 dx (exd dx ((f, y) :: fs))))
theorem ps_st {B : String} {bmB : List Value} {f : Str} {o e : Expr} {to te : TE} {p' pos : Pos} (SF : StoreFacts B bmB "object.__setattr__" "object") (T : EC X.K C) (ov : PySem.W.excOver X.K C bmB = true) (tk : PySem.W.takerIn X.K C f = some none)
    (ho : PE X o to) (he : PE X e te) (hs : swapsWith e (some (.Attribute o f p')) pos.line X.env = pure false := by rfl) : PS X (.Assign [.Attribute o f p'] e pos) (tSt C f to te) := by
  refine ⟨fun pins s σ H D I h => plainObj_wpAny_Assign_Attribute (thn (he.run pins s σ H _ I h) fun v s1 ⟨y, H1, I1, r1, q1⟩ => thn (ho.run pins s1 σ H1 _ I1 q1) fun u s2 ⟨x, H2, I2, r2, a, ex, q⟩ => ?_) hs⟩
  subst ex
  obtain rfl : u = Value.ref a := r2
  rcases q with ⟨ea, q⟩ | ⟨dx, fs, ea, ed, hl, q⟩
  · exact st_new SF T ov tk I2 ea r1 fun dx s' n ne J => ⟨σ, _, J, q dx n ne⟩
  · exact st_old SF T ov tk I2 ea ed hl r1 fun s' J => ⟨σ, _, J, q⟩
/-- e.n, e an exception with its field n -/
def tXa (K : PySem.W.Frag) (n : Str) (te : TE) : TE := fun σ H Q => te σ H fun x H1 => ∃ (a C : Addr) (fs : List (Str × V)) (v : V), x = .ref a ∧ IsX H1 a C fs ∧ EC K C ∧ PySem.W.findIn K (.ref C) n = some none ∧ fs.lookup n = some v ∧ Q v H1
theorem pe_xa {e : Expr} {te : TE} {pos : Pos} {n : Str} (he : PE X e te) (hb : attributeBase e n X.env (eval e X.env) = eval e X.env := by rfl) : PE X (.Attribute e n pos) (tXa X.K n te) := by
  refine ⟨fun pins s σ H Q I h => attr_of hb (thn (he.run pins s σ H _ I h) fun u s1 ⟨x, H1, I1, rx, a, C, fs, v, ex, hx, T, hno, l, q⟩ => ?_)⟩
  subst ex
  obtain rfl : u = Value.ref a := rx
  rcases hx with ⟨_, rfl⟩ | ⟨dx, ea, ed⟩
  · cases l
  · obtain ⟨t1, ho⟩ := exo_at I1.hok ea
    obtain ⟨mA, hns, hr⟩ := exd_at I1.hok ed
    obtain ⟨od, hod, hl⟩ := lookIn_ns hns
    obtain ⟨w1, hw, rw1⟩ := RelO.some_of (v := v) (o := mA n) (by rw [← l]; exact hr n)
    have J : PySem.W.InstAt s1.heap a _ C (some od) := ⟨ho, rfl, rfl, hod⟩
    exact HandSPX.exc_get I1.kIn J T.ga T.gg T.be (PySem.W.findObj_own T.hd hno rfl (by rw [hl, hw])) (handed_of rw1) ⟨v, H1, I1.tok _, rw1, q⟩
/-- repr of data (lists, tuples of any depth) where nothing is being shown -/
def rRepr (K : PySem.W.Frag) : List V → Hp → VK → Prop := fun xs H Q => ∃ (x : V) (d : PyData), xs = [x] ∧ Dp K H x d ∧ (∃ a, x = .ref a) ∧ d.showable = true ∧ d.hasDict = false ∧ d.depth ≤ 8 ∧ d.shown.length ≤ sizeLine ∧ Q (.str d.shown) H
theorem call_repr (hg : X.A.guards = some []) (hu : X.A.units + 9 < cLine) : CallR X (.builtin "repr") (rRepr X.K) := by
  intro pins s σ H xs us Q I r ⟨x, d, e, hd, ⟨a, ea⟩, h1, h2, h3, h4, q⟩
  subst e
  subst ea
  obtain ⟨u1, rfl, r1⟩ := vals1 r
  obtain ⟨as, rd⟩ := Dp.reads I d (.ref a) u1 hd r1
  obtain rfl : u1 = Value.ref a := r1
  exact repr_of_reads' rd h1 (fun z => absurd (h2.symm.trans z) (by simp)) hg (by omega) (fun _ _ z => z) (fun h' u tk hk => ⟨.str d.shown, H, I.kept (t' := tk) hk, ⟨u, rfl⟩, q⟩) h4
end
end Xv

/-! raise C(e, ..), C an own exception class of any built-in base with an __init__ of its own. -/
namespace Xv
open PySem PySem.Spec PyProof.Rows L2
theorem pmk_excI {X : Cx} {C : Addr} {CX : CXT} {bmB : List Value} {B newId initId : String} {x : Str} {fI : Addr} {k : Nat} {fd : FuncData} {ps : List Str} {sp : Sp} {p pos : Pos} {e : Expr} {es : List Expr} {ta : TA} (F : ExcBaseFacts B newId initId bmB)
    (q : PySem.W.excInitIn X.K C bmB newId = true) (iC : PySem.W.findIn X.K (.ref C) "__init__" = some (some (.ref fI))) (tI : PySem.W.typeIn X.K (.ref fI) = some (.type "function")) (kC : PySem.W.keepIn X.K (.ref C) = true) (rC : Raises X (.ref C))
    (F1 : FnOk X.prog X.w X.K X.mg X.base CX k fI fd ps sp) (hr : Room (k + 1) X.A) (hb : Binds X.K fd ps []) (hx : Passes CX X (fun _ _ _ => False)) (hg : Gl X x) (hm : X.mg x = some (.ref C)) (ha : PA X (e :: es) ta)
    (hdb : (x == ("__debug__" : Str)) = false := by decide) (he : starEach (e :: es) X.env = (false, eval e X.env) :: starEach es X.env := by rfl) (hpl : (backTo pos (starEach es X.env)).any (·.1) = false := by rfl) :
    PMk X (.Call (.Name x p) (e :: es) [] pos) (tMkO C sp [] ta) := by
  intro pins s σ H Q I h
  refine wpAny_Call_Name_kw (ld_glob I hg hm ?_ hdb)
  refine PySem.W.callWith_K (h₀ := X.base) I.ok.mod.kin kC (thn (ha.run pos pins s σ H _ I h) fun us s1 ⟨vs, H1, I1, r1, hz, q1⟩ => ⟨I1.kIn, ?_⟩) he hpl
  show wpAny _ _ (call (.ref C) us) _ _ _
  obtain ⟨hp, g, dr, tk, os⟩ := s1
  have hsz : hp.objs.size ≤ hp.objs.size + 1 := Nat.le_succ _
  have hn : H1 (hp.objs.size + 1) = none := I1.hok.fresh hsz
  have hq := q1 (hp.objs.size + 1) hn
  rw [List.append_nil] at hq
  obtain ⟨nm, N', qn, bs, bm, hdct, sn, sub, abt, col, dd, k0, k1, k2, k3, k5, hC, hT⟩ := PySem.W.excInit_of I1.kIn q
  have kk : ∀ b o, hp.get? b = some o → ((hp.push (PySem.W.kdv_tup us)).push (PySem.HandSPX.excO C hp.objs.size)).get? b = some o := fun b o e => Heap.get?_push_of_some _ (Heap.get?_push_of_some _ e)
  have hget : ((hp.push (PySem.W.kdv_tup us)).push (PySem.HandSPX.excO C hp.objs.size)).get? (hp.objs.size + 1) = some (PySem.HandSPX.excO C hp.objs.size) := by heap_get
  have I2 : Inv X pins σ (upd H1 (hp.objs.size + 1) (exo (hp.objs.size + 1) C none)) ⟨(hp.push (PySem.W.kdv_tup us)).push (PySem.HandSPX.excO C hp.objs.size), g, dr, tk, os⟩ :=
    I1.laid (t' := tk) (a := hp.objs.size + 1) (o := exo (hp.objs.size + 1) C none) (h' := (hp.push (PySem.W.kdv_tup us)).push (PySem.HandSPX.excO C hp.objs.size)) kk hsz (exo_ok hget)
  have rl : Vals (V.ref (hp.objs.size + 1) :: vs) (Value.ref (hp.objs.size + 1) :: us) := .cons rfl r1
  have ln : (Value.ref (hp.objs.size + 1) :: us).length = ps.length := by rw [← rl.length]; exact F1.len _ _ _ _ hq
  have uz : us.length ≤ sizeLine := by rw [← Paired.length r1, sizeLine_eq]; omega
  have bd := hb _ (Value.ref (hp.objs.size + 1) :: us) I2.kIn (by rw [List.append_nil]; exact ln)
  rw [List.append_nil] at bd
  refine wpAny_call (PySem.HandSPX.call_own F hT hC (PySem.W.looks_findIn I1.kIn iC) (fun self => PySem.W.bind_fn I1.kIn self tI) uz
    (codeAny_mono (F1.run _ X.stack _ _ ⟨Value.ref (hp.objs.size + 1) :: us, []⟩ _ _ _ (fun _ _ _ => False) (hr.make C us []) (I2.env0.make C us []) bd rl hq) fun r s' hq' => ?_))
  cases r with
  | error er => exact hx pins σ _ _ er s' I2 hq'
  | ok fl =>
    cases fl with
    | ret u =>
      obtain ⟨v, H2, os2, bare2, un2, hok2, rv, ev, d, fs, ea, ed, hd1, q2⟩ := hq'
      subst ev
      obtain ⟨h2, g2, d2, t2, os'⟩ := s'
      exact ⟨rv, mk_end rC I1 hsz kk un2 hok2 os2 bare2 ea ed hd1 q2⟩
    | next => exact False.elim hq'
    | brk => exact False.elim hq'
    | cont => exact False.elim hq'
end Xv

namespace K37
open PySem PySem.Spec PyProof.Rows L2
/-! ### the defs of the text -/
def top (i : Nat) : Stmt := PySem.Challenge.pw_pairlaws_k37_books_refused.main.body.getD i (.Pass ⟨0, 0, 0, 0⟩)
abbrev sPartsBelow : Stmt := top 16
def dPartsBelow : He.DefD := ⟨("parts_below", none), "parts_below", "parts_below", defArgs (top 16), defBody (top 16), defScope (top 16), [], []⟩
abbrev sSortsTold : Stmt := top 17
def dSortsTold : He.DefD := ⟨("sorts_told", none), "sorts_told", "sorts_told", defArgs (top 17), defBody (top 17), defScope (top 17), [], []⟩
abbrev sHasForm : Stmt := top 18
def dHasForm : He.DefD := ⟨("has_form", none), "has_form", "has_form", defArgs (top 18), defBody (top 18), defScope (top 18), [], []⟩
abbrev sBelow : Stmt := top 19
def dBelow : He.DefD := ⟨("_below", none), "_below", "_below", defArgs (top 19), defBody (top 19), defScope (top 19), [], []⟩
abbrev sPartsChecked : Stmt := top 20
def dPartsChecked : He.DefD := ⟨("_parts_checked", none), "_parts_checked", "_parts_checked", defArgs (top 20), defBody (top 20), defScope (top 20), [], []⟩
abbrev sPartsOf : Stmt := top 21
def dPartsOf : He.DefD := ⟨("parts_of", none), "parts_of", "parts_of", defArgs (top 21), defBody (top 21), defScope (top 21), [], []⟩
abbrev sPartsInnerFirst : Stmt := top 22
def dPartsInnerFirst : He.DefD := ⟨("parts_inner_first", none), "parts_inner_first", "parts_inner_first", defArgs (top 22), defBody (top 22), defScope (top 22), [], []⟩
abbrev sEndsOfLeaf : Stmt := top 23
def dEndsOfLeaf : He.DefD := ⟨("_ends_of_leaf", none), "_ends_of_leaf", "_ends_of_leaf", defArgs (top 23), defBody (top 23), defScope (top 23), [], []⟩
abbrev sEndsOfOne : Stmt := top 24
def dEndsOfOne : He.DefD := ⟨("_ends_of_one", none), "_ends_of_one", "_ends_of_one", defArgs (top 24), defBody (top 24), defScope (top 24), [], []⟩
abbrev sEndsOfTwo : Stmt := top 25
def dEndsOfTwo : He.DefD := ⟨("_ends_of_two", none), "_ends_of_two", "_ends_of_two", defArgs (top 25), defBody (top 25), defScope (top 25), [], []⟩
abbrev sEndsAbove : Stmt := top 26
def dEndsAbove : He.DefD := ⟨("ends_above", none), "ends_above", "ends_above", defArgs (top 26), defBody (top 26), defScope (top 26), [], []⟩
abbrev sEndsOf : Stmt := top 27
def dEndsOf : He.DefD := ⟨("ends_of", none), "ends_of", "ends_of", defArgs (top 27), defBody (top 27), defScope (top 27), [], []⟩
abbrev sEndsBehind : Stmt := top 28
def dEndsBehind : He.DefD := ⟨("ends_behind", none), "ends_behind", "ends_behind", defArgs (top 28), defBody (top 28), defScope (top 28), [], []⟩
abbrev sHasNoneOf : Stmt := top 31
def dHasNoneOf : He.DefD := ⟨("_has_none_of", none), "_has_none_of", "_has_none_of", defArgs (top 31), defBody (top 31), defScope (top 31), [], []⟩
abbrev sIsFlat : Stmt := top 32
def dIsFlat : He.DefD := ⟨("is_flat", none), "is_flat", "is_flat", defArgs (top 32), defBody (top 32), defScope (top 32), [], []⟩
abbrev sIsKept : Stmt := top 33
def dIsKept : He.DefD := ⟨("is_kept", none), "is_kept", "is_kept", defArgs (top 33), defBody (top 33), defScope (top 33), [], []⟩
abbrev sIsWord : Stmt := top 37
def dIsWord : He.DefD := ⟨("is_word", none), "is_word", "is_word", defArgs (top 37), defBody (top 37), defScope (top 37), [], []⟩
abbrev sFirstAgain : Stmt := top 38
def dFirstAgain : He.DefD := ⟨("first_again", none), "first_again", "first_again", defArgs (top 38), defBody (top 38), defScope (top 38), [], []⟩
abbrev sCheckNames : Stmt := top 39
def dCheckNames : He.DefD := ⟨("check_names", none), "check_names", "check_names", defArgs (top 39), defBody (top 39), defScope (top 39), [], []⟩
abbrev sCheckPremise : Stmt := top 41
def dCheckPremise : He.DefD := ⟨("_check_premise", none), "_check_premise", "_check_premise", defArgs (top 41), defBody (top 41), defScope (top 41), [], []⟩
abbrev sWithPremise : Stmt := top 43
def dWithPremise : He.DefD := ⟨("with_premise", none), "with_premise", "with_premise", defArgs (top 43), defBody (top 43), defScope (top 43), [], []⟩
abbrev sCheckEnds : Stmt := top 45
def dCheckEnds : He.DefD := ⟨("_check_ends", none), "_check_ends", "_check_ends", defArgs (top 45), defBody (top 45), defScope (top 45), [], []⟩
abbrev sCheckTotals : Stmt := top 46
def dCheckTotals : He.DefD := ⟨("_check_totals", none), "_check_totals", "_check_totals", defArgs (top 46), defBody (top 46), defScope (top 46), [], []⟩
abbrev sStepOf : Stmt := top 47
def dStepOf : He.DefD := ⟨("_step_of", none), "_step_of", "_step_of", defArgs (top 47), defBody (top 47), defScope (top 47), [], []⟩
abbrev sCheckSteps : Stmt := top 48
def dCheckSteps : He.DefD := ⟨("_check_steps", none), "_check_steps", "_check_steps", defArgs (top 48), defBody (top 48), defScope (top 48), [], []⟩
abbrev sLawSource : Stmt := top 51
def dLawSource : He.DefD := ⟨("_law_source", none), "_law_source", "_law_source", defArgs (top 51), defBody (top 51), defScope (top 51), [], []⟩
abbrev sLawPick : Stmt := top 52
def dLawPick : He.DefD := ⟨("_law_pick", none), "_law_pick", "_law_pick", defArgs (top 52), defBody (top 52), defScope (top 52), [], []⟩
abbrev sLawNames : Stmt := top 53
def dLawNames : He.DefD := ⟨("_law_names", none), "_law_names", "_law_names", defArgs (top 53), defBody (top 53), defScope (top 53), [], []⟩
abbrev sLawFramed : Stmt := top 54
def dLawFramed : He.DefD := ⟨("_law_framed", none), "_law_framed", "_law_framed", defArgs (top 54), defBody (top 54), defScope (top 54), [], []⟩
abbrev sLawFrame : Stmt := top 55
def dLawFrame : He.DefD := ⟨("_law_frame", none), "_law_frame", "_law_frame", defArgs (top 55), defBody (top 55), defScope (top 55), [], []⟩
abbrev sLawLeaf : Stmt := top 56
def dLawLeaf : He.DefD := ⟨("_law_leaf", none), "_law_leaf", "_law_leaf", defArgs (top 56), defBody (top 56), defScope (top 56), [], []⟩
abbrev sLawFlat : Stmt := top 57
def dLawFlat : He.DefD := ⟨("_law_flat", none), "_law_flat", "_law_flat", defArgs (top 57), defBody (top 57), defScope (top 57), [], []⟩
abbrev sLawTerm : Stmt := top 58
def dLawTerm : He.DefD := ⟨("_law_term", none), "_law_term", "_law_term", defArgs (top 58), defBody (top 58), defScope (top 58), [], []⟩
abbrev sLawSomeEnds : Stmt := top 59
def dLawSomeEnds : He.DefD := ⟨("_law_some_ends", none), "_law_some_ends", "_law_some_ends", defArgs (top 59), defBody (top 59), defScope (top 59), [], []⟩
abbrev sLawEnds : Stmt := top 60
def dLawEnds : He.DefD := ⟨("_law_ends", none), "_law_ends", "_law_ends", defArgs (top 60), defBody (top 60), defScope (top 60), [], []⟩
abbrev sLawKindPremise : Stmt := top 61
def dLawKindPremise : He.DefD := ⟨("_law_kind_premise", none), "_law_kind_premise", "_law_kind_premise", defArgs (top 61), defBody (top 61), defScope (top 61), [], []⟩
abbrev sLawPremises : Stmt := top 62
def dLawPremises : He.DefD := ⟨("_law_premises", none), "_law_premises", "_law_premises", defArgs (top 62), defBody (top 62), defScope (top 62), [], []⟩
abbrev sLawWord : Stmt := top 63
def dLawWord : He.DefD := ⟨("_law_word", none), "_law_word", "_law_word", defArgs (top 63), defBody (top 63), defScope (top 63), [], []⟩
abbrev sLawIsFlat : Stmt := top 64
def dLawIsFlat : He.DefD := ⟨("_law_is_flat", none), "_law_is_flat", "_law_is_flat", defArgs (top 64), defBody (top 64), defScope (top 64), [], []⟩
abbrev sLawIsKept : Stmt := top 65
def dLawIsKept : He.DefD := ⟨("_law_is_kept", none), "_law_is_kept", "_law_is_kept", defArgs (top 65), defBody (top 65), defScope (top 65), [], []⟩
abbrev sLawDue : Stmt := top 66
def dLawDue : He.DefD := ⟨("_law_due", none), "_law_due", "_law_due", defArgs (top 66), defBody (top 66), defScope (top 66), [], []⟩
abbrev sLawWrong : Stmt := top 67
def dLawWrong : He.DefD := ⟨("_law_wrong", none), "_law_wrong", "_law_wrong", defArgs (top 67), defBody (top 67), defScope (top 67), [], []⟩
abbrev sLawRow : Stmt := top 68
def dLawRow : He.DefD := ⟨("_law_row", none), "_law_row", "_law_row", defArgs (top 68), defBody (top 68), defScope (top 68), [], []⟩
abbrev sLaw : Stmt := top 69
def dLaw : He.DefD := ⟨("law", none), "law", "law", defArgs (top 69), defBody (top 69), defScope (top 69), [], []⟩
abbrev sFrame_Init : Stmt := inClass (top 49) 0
def dFrame_Init : He.DefD := ⟨("Frame", some "__init__"), "__init__", "Frame.__init__", defArgs sFrame_Init, defBody sFrame_Init, defScope sFrame_Init, [], []⟩
abbrev sFrame_Ends : Stmt := inClass (top 49) 4
def dFrame_Ends : He.DefD := ⟨("Frame", some "ends"), "ends", "Frame.ends", defArgs sFrame_Ends, defBody sFrame_Ends, defScope sFrame_Ends, [], []⟩
abbrev sFrame_HasSort : Stmt := inClass (top 49) 5
def dFrame_HasSort : He.DefD := ⟨("Frame", some "has_sort"), "has_sort", "Frame.has_sort", defArgs sFrame_HasSort, defBody sFrame_HasSort, defScope sFrame_HasSort, [], []⟩
abbrev sFrame_HasLetter : Stmt := inClass (top 49) 6
def dFrame_HasLetter : He.DefD := ⟨("Frame", some "has_letter"), "has_letter", "Frame.has_letter", defArgs sFrame_HasLetter, defBody sFrame_HasLetter, defScope sFrame_HasLetter, [], []⟩
abbrev sBook_Init : Stmt := inClass (top 42) 0
def dBook_Init : He.DefD := ⟨("Book", some "__init__"), "__init__", "Book.__init__", defArgs sBook_Init, defBody sBook_Init, defScope sBook_Init, [], []⟩
abbrev sBook_Frame : Stmt := inClass (top 42) 1
def dBook_Frame : He.DefD := ⟨("Book", some "frame"), "frame", "Book.frame", defArgs sBook_Frame, defBody sBook_Frame, defScope sBook_Frame, [], []⟩
abbrev sBook_Premises : Stmt := inClass (top 42) 2
def dBook_Premises : He.DefD := ⟨("Book", some "premises"), "premises", "Book.premises", defArgs sBook_Premises, defBody sBook_Premises, defScope sBook_Premises, [], []⟩
abbrev sBadName_Init : Stmt := inClass (top 3) 0
def dBadName_Init : He.DefD := ⟨("BadName", some "__init__"), "__init__", "BadName.__init__", defArgs sBadName_Init, defBody sBadName_Init, defScope sBadName_Init, [], []⟩
abbrev sTwiceTold_Init : Stmt := inClass (top 4) 0
def dTwiceTold_Init : He.DefD := ⟨("TwiceTold", some "__init__"), "__init__", "TwiceTold.__init__", defArgs sTwiceTold_Init, defBody sTwiceTold_Init, defScope sTwiceTold_Init, [], []⟩
abbrev sBadFrame_Init : Stmt := inClass (top 5) 0
def dBadFrame_Init : He.DefD := ⟨("BadFrame", some "__init__"), "__init__", "BadFrame.__init__", defArgs sBadFrame_Init, defBody sBadFrame_Init, defScope sBadFrame_Init, [], []⟩
abbrev sComesRound_Init : Stmt := inClass (top 6) 0
def dComesRound_Init : He.DefD := ⟨("ComesRound", some "__init__"), "__init__", "ComesRound.__init__", defArgs sComesRound_Init, defBody sComesRound_Init, defScope sComesRound_Init, [], []⟩
abbrev sBadTerm_Init : Stmt := inClass (top 7) 0
def dBadTerm_Init : He.DefD := ⟨("BadTerm", some "__init__"), "__init__", "BadTerm.__init__", defArgs sBadTerm_Init, defBody sBadTerm_Init, defScope sBadTerm_Init, [], []⟩
abbrev sUnknownName_Init : Stmt := inClass (top 12) 0
def dUnknownName_Init : He.DefD := ⟨("UnknownName", some "__init__"), "__init__", "UnknownName.__init__", defArgs sUnknownName_Init, defBody sUnknownName_Init, defScope sUnknownName_Init, [], []⟩
abbrev sNotKept_Init : Stmt := inClass (top 8) 0
def dNotKept_Init : He.DefD := ⟨("NotKept", some "__init__"), "__init__", "NotKept.__init__", defArgs sNotKept_Init, defBody sNotKept_Init, defScope sNotKept_Init, [], []⟩
abbrev sNotFlat_Init : Stmt := inClass (top 9) 0
def dNotFlat_Init : He.DefD := ⟨("NotFlat", some "__init__"), "__init__", "NotFlat.__init__", defArgs sNotFlat_Init, defBody sNotFlat_Init, defScope sNotFlat_Init, [], []⟩
abbrev sMixedEnds_Init : Stmt := inClass (top 10) 0
def dMixedEnds_Init : He.DefD := ⟨("MixedEnds", some "__init__"), "__init__", "MixedEnds.__init__", defArgs sMixedEnds_Init, defBody sMixedEnds_Init, defScope sMixedEnds_Init, [], []⟩
def fn0 : List He.DefD := [dPartsBelow, dSortsTold, dHasForm, dBelow, dPartsChecked, dPartsOf, dPartsInnerFirst, dEndsOfLeaf, dEndsOfOne, dEndsOfTwo]
def fn1 : List He.DefD := [dEndsAbove, dEndsOf, dEndsBehind, dHasNoneOf, dIsFlat, dIsKept, dIsWord, dFirstAgain, dCheckNames, dCheckPremise]
def fn2 : List He.DefD := [dWithPremise, dCheckEnds, dCheckTotals, dStepOf, dCheckSteps, dLawSource, dLawPick, dLawNames, dLawFramed, dLawFrame]
def fn3 : List He.DefD := [dLawLeaf, dLawFlat, dLawTerm, dLawSomeEnds, dLawEnds, dLawKindPremise, dLawPremises, dLawWord, dLawIsFlat, dLawIsKept]
def fn4 : List He.DefD := [dLawDue, dLawWrong, dLawRow, dLaw, dFrame_Init, dFrame_Ends, dFrame_HasSort, dFrame_HasLetter, dBook_Init, dBook_Frame]
def fn5 : List He.DefD := [dBook_Premises, dBadName_Init, dTwiceTold_Init, dBadFrame_Init, dComesRound_Init, dBadTerm_Init, dUnknownName_Init, dNotKept_Init, dNotFlat_Init, dMixedEnds_Init]
def fn : List He.DefD := fn0 ++ (fn1 ++ (fn2 ++ (fn3 ++ (fn4 ++ (fn5)))))
def fa0 : List He.Fa := [.glo "Frame", .glo "Book", .glo "parts_below", .glo "sorts_told", .glo "has_form", .glo "_below", .glo "_parts_checked", .glo "parts_of", .glo "parts_inner_first", .glo "_ends_of_leaf"]
def fa1 : List He.Fa := [.glo "_ends_of_one", .glo "_ends_of_two", .glo "ends_above", .glo "ends_of", .glo "ends_behind", .glo "_has_none_of", .glo "is_flat", .glo "is_kept", .glo "is_word", .glo "first_again"]
def fa2 : List He.Fa := [.glo "check_names", .glo "_check_premise", .glo "with_premise", .glo "_check_ends", .glo "_check_totals", .glo "_step_of", .glo "_check_steps", .glo "_law_source", .glo "_law_pick", .glo "_law_names"]
def fa3 : List He.Fa := [.glo "_law_framed", .glo "_law_frame", .glo "_law_leaf", .glo "_law_flat", .glo "_law_term", .glo "_law_some_ends", .glo "_law_ends", .glo "_law_kind_premise", .glo "_law_premises", .glo "_law_word"]
def fa4 : List He.Fa := [.glo "_law_is_flat", .glo "_law_is_kept", .glo "_law_due", .glo "_law_wrong", .glo "_law_row", .glo "law", .glo "BadName", .glo "TwiceTold", .glo "BadFrame", .glo "ComesRound"]
def fa5 : List He.Fa := [.glo "BadTerm", .glo "UnknownName", .glo "NotKept", .glo "NotFlat", .glo "MixedEnds", .glo "PairError", .glo "_NOT_FLAT", .glo "_PARTS_BELOW", .glo "_SORTS_TOLD", .free "abs"]
def fa6 : List He.Fa := [.free "int", .free "len", .free "range", .free "enumerate", .free "isinstance", .free "str", .free "tuple", .free "list", .free "set", .free "all"]
def fa7 : List He.Fa := [.free "any", .free "repr", .free "bool", .cls "Frame", .cls "Book", .mkr "Frame", .mkr "Book", .str "_LETTERS" "abcdefghijklmnopqrstuvwxyz", .str "_SIGNS" "abcdefghijklmnopqrstuvwxyz0123456789", .noat "Frame" "_sorts"]
def fa8 : List He.Fa := [.noat "Frame" "_letters", .noat "Frame" "_totals", .noat "Frame" "_ends", .noat "Book" "_frame", .noat "Book" "_premises", .meth "Frame" "ends", .meth "Frame" "has_sort", .meth "Frame" "has_letter", .meth "Book" "frame", .meth "Book" "premises"]
def fa : List He.Fa := fa0 ++ (fa1 ++ (fa2 ++ (fa3 ++ (fa4 ++ (fa5 ++ (fa6 ++ (fa7 ++ (fa8))))))))
def nm0 : List PySem.Str := ["_wall", "PairError", "BadName", "TwiceTold", "BadFrame", "ComesRound", "BadTerm", "NotKept", "NotFlat", "MixedEnds"]
def nm1 : List PySem.Str := ["NameMissing", "UnknownName", "parts_below", "sorts_told", "has_form", "_below", "_parts_checked", "parts_of", "parts_inner_first", "_ends_of_leaf"]
def nm2 : List PySem.Str := ["_ends_of_one", "_ends_of_two", "ends_above", "ends_of", "ends_behind", "_has_none_of", "is_flat", "is_kept", "is_word", "first_again"]
def nm3 : List PySem.Str := ["check_names", "_check_premise", "Book", "with_premise", "_check_ends", "_check_totals", "_step_of", "_check_steps", "Frame", "_law_source"]
def nm4 : List PySem.Str := ["_law_pick", "_law_names", "_law_framed", "_law_frame", "_law_leaf", "_law_flat", "_law_term", "_law_some_ends", "_law_ends", "_law_kind_premise"]
def nm5 : List PySem.Str := ["_law_premises", "_law_word", "_law_is_flat", "_law_is_kept", "_law_due", "_law_wrong", "_law_row", "_PARTS_BELOW", "_SORTS_TOLD", "_NOT_FLAT"]
def nm6 : List PySem.Str := ["_LETTERS", "_SIGNS"]
def nm : List PySem.Str := nm0 ++ (nm1 ++ (nm2 ++ (nm3 ++ (nm4 ++ (nm5 ++ (nm6))))))
def CFrame (K : PySem.W.Frag) : Addr := He.ga K "Frame"
def CBook (K : PySem.W.Frag) : Addr := He.ga K "Book"
def CBadName (K : PySem.W.Frag) : Addr := He.ga K "BadName"
def CTwiceTold (K : PySem.W.Frag) : Addr := He.ga K "TwiceTold"
def CBadFrame (K : PySem.W.Frag) : Addr := He.ga K "BadFrame"
def CComesRound (K : PySem.W.Frag) : Addr := He.ga K "ComesRound"
def CBadTerm (K : PySem.W.Frag) : Addr := He.ga K "BadTerm"
def CUnknownName (K : PySem.W.Frag) : Addr := He.ga K "UnknownName"
def CNotKept (K : PySem.W.Frag) : Addr := He.ga K "NotKept"
def CNotFlat (K : PySem.W.Frag) : Addr := He.ga K "NotFlat"
def CMixedEnds (K : PySem.W.Frag) : Addr := He.ga K "MixedEnds"
def CPairError (K : PySem.W.Frag) : Addr := He.ga K "PairError"
def tNOTFLAT : List He.Dv := [.str "then", .str "closed", .str "walked"]
def kPARTSBELOW0 : List PySem.Str := ["letter", "same", "other", "none", "all", "rest", "turned", "joined", "cut", "then"]
def kPARTSBELOW1 : List PySem.Str := ["closed", "walked"]
def kPARTSBELOW : List PySem.Str := kPARTSBELOW0 ++ (kPARTSBELOW1)
def vPARTSBELOW0 : List (PySem.Str × He.Dv) := [("letter", .int 0), ("same", .int 0), ("other", .int 0), ("none", .int 0), ("all", .int 0), ("rest", .int 1), ("turned", .int 1), ("joined", .int 2), ("cut", .int 2), ("then", .int 2)]
def vPARTSBELOW1 : List (PySem.Str × He.Dv) := [("closed", .int 1), ("walked", .int 1)]
def vPARTSBELOW : List (PySem.Str × He.Dv) := vPARTSBELOW0 ++ (vPARTSBELOW1)
def kSORTSTOLD0 : List PySem.Str := ["same", "other", "none", "all"]
def kSORTSTOLD : List PySem.Str := kSORTSTOLD0
def vSORTSTOLD0 : List (PySem.Str × He.Dv) := [("same", .int 1), ("other", .int 1), ("none", .int 2), ("all", .int 2)]
def vSORTSTOLD : List (PySem.Str × He.Dv) := vSORTSTOLD0
/-- what else is asked of a class -/
def ocB (K : PySem.W.Frag) : Bool := He.eqO (PySem.W.specialIn K (.builtin "object.__class__") "__get__") (some (some (.builtin "getset_descriptor.__get__"))) && decide (PySem.W.takesIn K (.builtin "object.__class__") = some true)
def icB (K : PySem.W.Frag) (C : Addr) : Bool := He.eqO (PySem.W.findIn K (.ref C) "__class__") (some (some (.builtin "object.__class__"))) && decide (PySem.W.mroIn K C (.type "object") = some true)
/-- what is asked of the errors' classes -/
abbrev veB : List Value := [.type "ValueError", .type "Exception", .type "BaseException", .type "object"]
abbrev leB : List Value := [.type "LookupError", .type "Exception", .type "BaseException", .type "object"]
def ecB (K : PySem.W.Frag) (C : Addr) : Bool := (PySem.W.clsIn K C).isSome && (PySem.W.hasDictIn K C && (He.eqO (PySem.W.findIn K (.ref C) "__getattribute__") (some (some (.builtin "BaseException.__getattribute__"))) && (He.eqO (PySem.W.findIn K (.ref C) "__getattr__") (some none) &&
  (He.eqO (PySem.W.findIn K (.ref C) "__setattr__") (some (some (.builtin "object.__setattr__"))) && (He.eqO (PySem.W.findIn K (.ref C) "__class__") (some (some (.builtin "object.__class__"))) && (decide (PySem.W.subIn K (.ref C) (.type "BaseException") = some true) &&
  (decide (PySem.W.mroIn K C (.type "object") = some true) && PySem.W.keepIn K (.ref C))))))))
def xcB (K : PySem.W.Frag) (C : Addr) (f : Str) (bm : List Value) (new : String) : Bool := ecB K C && (PySem.W.excInitIn K C bm new && (PySem.W.excOver K C bm && (He.eqO (PySem.W.findIn K (.ref C) "__init__") (some (some (.ref (He.ma K C "__init__")))) &&
  (decide (PySem.W.typeIn K (.ref (He.ma K C "__init__")) = some (.type "function")) && (He.eqO (PySem.W.takerIn K C f) (some none) && (He.eqO (PySem.W.findIn K (.ref C) f) (some none) && decide (PySem.W.typeIn K (.ref C) = some (.type "type"))))))))
def ECs : List Str := ["BadName", "TwiceTold", "UnknownName", "BadFrame", "ComesRound"]
def exmB (K : PySem.W.Frag) (i : Nat) : Bool := (List.range 5).all fun j => decide (PySem.W.exmOne K (.ref (He.ga K (ECs.getD i ""))) (.ref (He.ga K (ECs.getD j ""))) = some (decide (i = j)))
def E4 : List Str := ["BadTerm", "NotKept", "NotFlat", "MixedEnds"]
def exm4 (K : PySem.W.Frag) (i : Nat) : Bool := (List.range 4).all fun j => decide (PySem.W.exmOne K (.ref (He.ga K (E4.getD i ""))) (.ref (He.ga K (E4.getD j ""))) = some (decide (i = j)))
def exB (K : PySem.W.Frag) : Bool := (decide (PySem.W.kitOne K (.type "str") (.type "str") = some true)) && ((xcB K (CBadName K) "name" veB "ValueError.__new__") && ((xcB K (CTwiceTold K) "name" veB "ValueError.__new__") && ((xcB K (CUnknownName K) "name" leB "LookupError.__new__") && ((xcB K (CBadFrame K) "name" veB "ValueError.__new__") && ((xcB K (CComesRound K) "members" veB "ValueError.__new__") && ((xcB K (CBadTerm K) "path" veB "ValueError.__new__") && ((decide (PySem.W.exmOne K (.ref (CBadTerm K)) (.ref (CBadTerm K)) = some true)) && ((decide (PySem.W.kitOne K (.type "tuple") (.type "tuple") = some true)) && ((He.valsB K (He.ga K "_PARTS_BELOW") vPARTSBELOW) && ((He.valsB K (He.ga K "_SORTS_TOLD") vSORTSTOLD) && ((He.tupB K "_NOT_FLAT" tNOTFLAT) && ((xcB K (CNotKept K) "number" veB "ValueError.__new__") && ((xcB K (CNotFlat K) "number" veB "ValueError.__new__") && ((xcB K (CMixedEnds K) "number" veB "ValueError.__new__") && (((List.range 4).all (exm4 K)) && (true))))))))))))))))
def tabs : List He.Tab := [(fun K => He.ga K "_PARTS_BELOW", kPARTSBELOW), (fun K => He.ga K "_SORTS_TOLD", kSORTSTOLD)]
/-! ### the head's Hook: facts, tables, one Bool more, some defs' tables of code objects -/
def tf : List He.Defn := [("law", none)]
abbrev R : PySem.W.OpenRow := PySem.W.OpenLaw.row PySem.Challenge.rw_pairlaws_k37_books_refused
abbrev hk : PySem.W.Hook := He.hookX 4 fa fn tabs tf exB
def ob (s : PySem.W.SharedT) : He.AlX := He.obsX 4 fa fn tabs tf exB (HandSHeadRun.getT s)
theorem ob_eq (s : PySem.W.SharedT) : ob s = hk.obs s.abs := He.obsX_eq (HandSHeadRun.getT_eq s)
/-! ### what the head has told, in hand -/
structure Fx (w : World) (K : PySem.W.Frag) (mg : Str → Option Value) : Prop where
  g : ∀ (i : Nat) (x : Str), fa[i]? = some (He.Fa.glo x) → mg x = some (.ref (He.ga K x))
  f : ∀ (i : Nat) (x : Str), fa[i]? = some (He.Fa.free x) → mg x = none
  sLETTERS : ∃ t, mg "_LETTERS" = some (.str "abcdefghijklmnopqrstuvwxyz" t)
  sSIGNS : ∃ t, mg "_SIGNS" = some (.str "abcdefghijklmnopqrstuvwxyz0123456789" t)
  t : He.SaysT fa fn tabs w K
  ex : exB K = true
theorem Fx.of {w : World} {K : PySem.W.Frag} {mg : Str → Option Value} {h : Heap} (X : K.In h) (G : h.Ns mainGlobals mg) (c : He.SaysT fa fn tabs w K) (e : exB K = true) : Fx w K mg :=
  ⟨fun i _ z => He.glo_ok X G (c.d.fact i z), fun i _ z => He.free_ok X G (c.d.fact i z), He.str_ok X G (c.d.fact 77 (f := .str "_LETTERS" "abcdefghijklmnopqrstuvwxyz") rfl), He.str_ok X G (c.d.fact 78 (f := .str "_SIGNS" "abcdefghijklmnopqrstuvwxyz0123456789") rfl), c, e⟩
theorem an {a b : Bool} (h : (a && b) = true) : a = true ∧ b = true := Bool.and_eq_true_iff.mp h
section
variable {w : World} {K : PySem.W.Frag} {mg : Str → Option Value}
theorem Fx.d (Y : Fx w K mg) : He.SaysD fa fn K := Y.t.d
theorem Fx.gFrame (Y : Fx w K mg) : mg "Frame" = some (.ref (He.ga K "Frame")) := Y.g 0 _ rfl
theorem Fx.gBook (Y : Fx w K mg) : mg "Book" = some (.ref (He.ga K "Book")) := Y.g 1 _ rfl
theorem Fx.gPartsBelow (Y : Fx w K mg) : mg "parts_below" = some (.ref (He.ga K "parts_below")) := Y.g 2 _ rfl
theorem Fx.gSortsTold (Y : Fx w K mg) : mg "sorts_told" = some (.ref (He.ga K "sorts_told")) := Y.g 3 _ rfl
theorem Fx.gHasForm (Y : Fx w K mg) : mg "has_form" = some (.ref (He.ga K "has_form")) := Y.g 4 _ rfl
theorem Fx.gBelow (Y : Fx w K mg) : mg "_below" = some (.ref (He.ga K "_below")) := Y.g 5 _ rfl
theorem Fx.gPartsChecked (Y : Fx w K mg) : mg "_parts_checked" = some (.ref (He.ga K "_parts_checked")) := Y.g 6 _ rfl
theorem Fx.gPartsOf (Y : Fx w K mg) : mg "parts_of" = some (.ref (He.ga K "parts_of")) := Y.g 7 _ rfl
theorem Fx.gPartsInnerFirst (Y : Fx w K mg) : mg "parts_inner_first" = some (.ref (He.ga K "parts_inner_first")) := Y.g 8 _ rfl
theorem Fx.gEndsOfLeaf (Y : Fx w K mg) : mg "_ends_of_leaf" = some (.ref (He.ga K "_ends_of_leaf")) := Y.g 9 _ rfl
theorem Fx.gEndsOfOne (Y : Fx w K mg) : mg "_ends_of_one" = some (.ref (He.ga K "_ends_of_one")) := Y.g 10 _ rfl
theorem Fx.gEndsOfTwo (Y : Fx w K mg) : mg "_ends_of_two" = some (.ref (He.ga K "_ends_of_two")) := Y.g 11 _ rfl
theorem Fx.gEndsAbove (Y : Fx w K mg) : mg "ends_above" = some (.ref (He.ga K "ends_above")) := Y.g 12 _ rfl
theorem Fx.gEndsOf (Y : Fx w K mg) : mg "ends_of" = some (.ref (He.ga K "ends_of")) := Y.g 13 _ rfl
theorem Fx.gEndsBehind (Y : Fx w K mg) : mg "ends_behind" = some (.ref (He.ga K "ends_behind")) := Y.g 14 _ rfl
theorem Fx.gHasNoneOf (Y : Fx w K mg) : mg "_has_none_of" = some (.ref (He.ga K "_has_none_of")) := Y.g 15 _ rfl
theorem Fx.gIsFlat (Y : Fx w K mg) : mg "is_flat" = some (.ref (He.ga K "is_flat")) := Y.g 16 _ rfl
theorem Fx.gIsKept (Y : Fx w K mg) : mg "is_kept" = some (.ref (He.ga K "is_kept")) := Y.g 17 _ rfl
theorem Fx.gIsWord (Y : Fx w K mg) : mg "is_word" = some (.ref (He.ga K "is_word")) := Y.g 18 _ rfl
theorem Fx.gFirstAgain (Y : Fx w K mg) : mg "first_again" = some (.ref (He.ga K "first_again")) := Y.g 19 _ rfl
theorem Fx.gCheckNames (Y : Fx w K mg) : mg "check_names" = some (.ref (He.ga K "check_names")) := Y.g 20 _ rfl
theorem Fx.gCheckPremise (Y : Fx w K mg) : mg "_check_premise" = some (.ref (He.ga K "_check_premise")) := Y.g 21 _ rfl
theorem Fx.gWithPremise (Y : Fx w K mg) : mg "with_premise" = some (.ref (He.ga K "with_premise")) := Y.g 22 _ rfl
theorem Fx.gCheckEnds (Y : Fx w K mg) : mg "_check_ends" = some (.ref (He.ga K "_check_ends")) := Y.g 23 _ rfl
theorem Fx.gCheckTotals (Y : Fx w K mg) : mg "_check_totals" = some (.ref (He.ga K "_check_totals")) := Y.g 24 _ rfl
theorem Fx.gStepOf (Y : Fx w K mg) : mg "_step_of" = some (.ref (He.ga K "_step_of")) := Y.g 25 _ rfl
theorem Fx.gCheckSteps (Y : Fx w K mg) : mg "_check_steps" = some (.ref (He.ga K "_check_steps")) := Y.g 26 _ rfl
theorem Fx.gLawSource (Y : Fx w K mg) : mg "_law_source" = some (.ref (He.ga K "_law_source")) := Y.g 27 _ rfl
theorem Fx.gLawPick (Y : Fx w K mg) : mg "_law_pick" = some (.ref (He.ga K "_law_pick")) := Y.g 28 _ rfl
theorem Fx.gLawNames (Y : Fx w K mg) : mg "_law_names" = some (.ref (He.ga K "_law_names")) := Y.g 29 _ rfl
theorem Fx.gLawFramed (Y : Fx w K mg) : mg "_law_framed" = some (.ref (He.ga K "_law_framed")) := Y.g 30 _ rfl
theorem Fx.gLawFrame (Y : Fx w K mg) : mg "_law_frame" = some (.ref (He.ga K "_law_frame")) := Y.g 31 _ rfl
theorem Fx.gLawLeaf (Y : Fx w K mg) : mg "_law_leaf" = some (.ref (He.ga K "_law_leaf")) := Y.g 32 _ rfl
theorem Fx.gLawFlat (Y : Fx w K mg) : mg "_law_flat" = some (.ref (He.ga K "_law_flat")) := Y.g 33 _ rfl
theorem Fx.gLawTerm (Y : Fx w K mg) : mg "_law_term" = some (.ref (He.ga K "_law_term")) := Y.g 34 _ rfl
theorem Fx.gLawSomeEnds (Y : Fx w K mg) : mg "_law_some_ends" = some (.ref (He.ga K "_law_some_ends")) := Y.g 35 _ rfl
theorem Fx.gLawEnds (Y : Fx w K mg) : mg "_law_ends" = some (.ref (He.ga K "_law_ends")) := Y.g 36 _ rfl
theorem Fx.gLawKindPremise (Y : Fx w K mg) : mg "_law_kind_premise" = some (.ref (He.ga K "_law_kind_premise")) := Y.g 37 _ rfl
theorem Fx.gLawPremises (Y : Fx w K mg) : mg "_law_premises" = some (.ref (He.ga K "_law_premises")) := Y.g 38 _ rfl
theorem Fx.gLawWord (Y : Fx w K mg) : mg "_law_word" = some (.ref (He.ga K "_law_word")) := Y.g 39 _ rfl
theorem Fx.gLawIsFlat (Y : Fx w K mg) : mg "_law_is_flat" = some (.ref (He.ga K "_law_is_flat")) := Y.g 40 _ rfl
theorem Fx.gLawIsKept (Y : Fx w K mg) : mg "_law_is_kept" = some (.ref (He.ga K "_law_is_kept")) := Y.g 41 _ rfl
theorem Fx.gLawDue (Y : Fx w K mg) : mg "_law_due" = some (.ref (He.ga K "_law_due")) := Y.g 42 _ rfl
theorem Fx.gLawWrong (Y : Fx w K mg) : mg "_law_wrong" = some (.ref (He.ga K "_law_wrong")) := Y.g 43 _ rfl
theorem Fx.gLawRow (Y : Fx w K mg) : mg "_law_row" = some (.ref (He.ga K "_law_row")) := Y.g 44 _ rfl
theorem Fx.gLaw (Y : Fx w K mg) : mg "law" = some (.ref (He.ga K "law")) := Y.g 45 _ rfl
theorem Fx.gBadName (Y : Fx w K mg) : mg "BadName" = some (.ref (He.ga K "BadName")) := Y.g 46 _ rfl
theorem Fx.gTwiceTold (Y : Fx w K mg) : mg "TwiceTold" = some (.ref (He.ga K "TwiceTold")) := Y.g 47 _ rfl
theorem Fx.gBadFrame (Y : Fx w K mg) : mg "BadFrame" = some (.ref (He.ga K "BadFrame")) := Y.g 48 _ rfl
theorem Fx.gComesRound (Y : Fx w K mg) : mg "ComesRound" = some (.ref (He.ga K "ComesRound")) := Y.g 49 _ rfl
theorem Fx.gBadTerm (Y : Fx w K mg) : mg "BadTerm" = some (.ref (He.ga K "BadTerm")) := Y.g 50 _ rfl
theorem Fx.gUnknownName (Y : Fx w K mg) : mg "UnknownName" = some (.ref (He.ga K "UnknownName")) := Y.g 51 _ rfl
theorem Fx.gNotKept (Y : Fx w K mg) : mg "NotKept" = some (.ref (He.ga K "NotKept")) := Y.g 52 _ rfl
theorem Fx.gNotFlat (Y : Fx w K mg) : mg "NotFlat" = some (.ref (He.ga K "NotFlat")) := Y.g 53 _ rfl
theorem Fx.gMixedEnds (Y : Fx w K mg) : mg "MixedEnds" = some (.ref (He.ga K "MixedEnds")) := Y.g 54 _ rfl
theorem Fx.gPairError (Y : Fx w K mg) : mg "PairError" = some (.ref (He.ga K "PairError")) := Y.g 55 _ rfl
theorem Fx.gNOTFLAT (Y : Fx w K mg) : mg "_NOT_FLAT" = some (.ref (He.ga K "_NOT_FLAT")) := Y.g 56 _ rfl
theorem Fx.gPARTSBELOW (Y : Fx w K mg) : mg "_PARTS_BELOW" = some (.ref (He.ga K "_PARTS_BELOW")) := Y.g 57 _ rfl
theorem Fx.gSORTSTOLD (Y : Fx w K mg) : mg "_SORTS_TOLD" = some (.ref (He.ga K "_SORTS_TOLD")) := Y.g 58 _ rfl
theorem Fx.bAbs (Y : Fx w K mg) : mg "abs" = none := Y.f 59 _ rfl
theorem Fx.bInt (Y : Fx w K mg) : mg "int" = none := Y.f 60 _ rfl
theorem Fx.bLen (Y : Fx w K mg) : mg "len" = none := Y.f 61 _ rfl
theorem Fx.bRange (Y : Fx w K mg) : mg "range" = none := Y.f 62 _ rfl
theorem Fx.bEnumerate (Y : Fx w K mg) : mg "enumerate" = none := Y.f 63 _ rfl
theorem Fx.bIsinstance (Y : Fx w K mg) : mg "isinstance" = none := Y.f 64 _ rfl
theorem Fx.bStr (Y : Fx w K mg) : mg "str" = none := Y.f 65 _ rfl
theorem Fx.bTuple (Y : Fx w K mg) : mg "tuple" = none := Y.f 66 _ rfl
theorem Fx.bList (Y : Fx w K mg) : mg "list" = none := Y.f 67 _ rfl
theorem Fx.bSet (Y : Fx w K mg) : mg "set" = none := Y.f 68 _ rfl
theorem Fx.bAll (Y : Fx w K mg) : mg "all" = none := Y.f 69 _ rfl
theorem Fx.bAny (Y : Fx w K mg) : mg "any" = none := Y.f 70 _ rfl
theorem Fx.bRepr (Y : Fx w K mg) : mg "repr" = none := Y.f 71 _ rfl
theorem Fx.bBool (Y : Fx w K mg) : mg "bool" = none := Y.f 72 _ rfl
theorem Fx.dPartsBelow (Y : Fx w K mg) : ∃ fd, FunD K "parts_below" "parts_below" (defArgs sPartsBelow) (defBody sPartsBelow) (defScope sPartsBelow) [] [] (He.ga K "parts_below") fd := Y.d.def_ 0 (d := K37.dPartsBelow) rfl
theorem Fx.dSortsTold (Y : Fx w K mg) : ∃ fd, FunD K "sorts_told" "sorts_told" (defArgs sSortsTold) (defBody sSortsTold) (defScope sSortsTold) [] [] (He.ga K "sorts_told") fd := Y.d.def_ 1 (d := K37.dSortsTold) rfl
theorem Fx.dHasForm (Y : Fx w K mg) : ∃ fd, FunD K "has_form" "has_form" (defArgs sHasForm) (defBody sHasForm) (defScope sHasForm) [] [] (He.ga K "has_form") fd := Y.d.def_ 2 (d := K37.dHasForm) rfl
theorem Fx.dBelow (Y : Fx w K mg) : ∃ fd, FunD K "_below" "_below" (defArgs sBelow) (defBody sBelow) (defScope sBelow) [] [] (He.ga K "_below") fd := Y.d.def_ 3 (d := K37.dBelow) rfl
theorem Fx.dPartsChecked (Y : Fx w K mg) : ∃ fd, FunD K "_parts_checked" "_parts_checked" (defArgs sPartsChecked) (defBody sPartsChecked) (defScope sPartsChecked) [] [] (He.ga K "_parts_checked") fd := Y.d.def_ 4 (d := K37.dPartsChecked) rfl
theorem Fx.dPartsOf (Y : Fx w K mg) : ∃ fd, FunD K "parts_of" "parts_of" (defArgs sPartsOf) (defBody sPartsOf) (defScope sPartsOf) [] [] (He.ga K "parts_of") fd := Y.d.def_ 5 (d := K37.dPartsOf) rfl
theorem Fx.dPartsInnerFirst (Y : Fx w K mg) : ∃ fd, FunD K "parts_inner_first" "parts_inner_first" (defArgs sPartsInnerFirst) (defBody sPartsInnerFirst) (defScope sPartsInnerFirst) [] [] (He.ga K "parts_inner_first") fd := Y.d.def_ 6 (d := K37.dPartsInnerFirst) rfl
theorem Fx.dEndsOfLeaf (Y : Fx w K mg) : ∃ fd, FunD K "_ends_of_leaf" "_ends_of_leaf" (defArgs sEndsOfLeaf) (defBody sEndsOfLeaf) (defScope sEndsOfLeaf) [] [] (He.ga K "_ends_of_leaf") fd := Y.d.def_ 7 (d := K37.dEndsOfLeaf) rfl
theorem Fx.dEndsOfOne (Y : Fx w K mg) : ∃ fd, FunD K "_ends_of_one" "_ends_of_one" (defArgs sEndsOfOne) (defBody sEndsOfOne) (defScope sEndsOfOne) [] [] (He.ga K "_ends_of_one") fd := Y.d.def_ 8 (d := K37.dEndsOfOne) rfl
theorem Fx.dEndsOfTwo (Y : Fx w K mg) : ∃ fd, FunD K "_ends_of_two" "_ends_of_two" (defArgs sEndsOfTwo) (defBody sEndsOfTwo) (defScope sEndsOfTwo) [] [] (He.ga K "_ends_of_two") fd := Y.d.def_ 9 (d := K37.dEndsOfTwo) rfl
theorem Fx.dEndsAbove (Y : Fx w K mg) : ∃ fd, FunD K "ends_above" "ends_above" (defArgs sEndsAbove) (defBody sEndsAbove) (defScope sEndsAbove) [] [] (He.ga K "ends_above") fd := Y.d.def_ 10 (d := K37.dEndsAbove) rfl
theorem Fx.dEndsOf (Y : Fx w K mg) : ∃ fd, FunD K "ends_of" "ends_of" (defArgs sEndsOf) (defBody sEndsOf) (defScope sEndsOf) [] [] (He.ga K "ends_of") fd := Y.d.def_ 11 (d := K37.dEndsOf) rfl
theorem Fx.dEndsBehind (Y : Fx w K mg) : ∃ fd, FunD K "ends_behind" "ends_behind" (defArgs sEndsBehind) (defBody sEndsBehind) (defScope sEndsBehind) [] [] (He.ga K "ends_behind") fd := Y.d.def_ 12 (d := K37.dEndsBehind) rfl
theorem Fx.dHasNoneOf (Y : Fx w K mg) : ∃ fd, FunD K "_has_none_of" "_has_none_of" (defArgs sHasNoneOf) (defBody sHasNoneOf) (defScope sHasNoneOf) [] [] (He.ga K "_has_none_of") fd := Y.d.def_ 13 (d := K37.dHasNoneOf) rfl
theorem Fx.dIsFlat (Y : Fx w K mg) : ∃ fd, FunD K "is_flat" "is_flat" (defArgs sIsFlat) (defBody sIsFlat) (defScope sIsFlat) [] [] (He.ga K "is_flat") fd := Y.d.def_ 14 (d := K37.dIsFlat) rfl
theorem Fx.dIsKept (Y : Fx w K mg) : ∃ fd, FunD K "is_kept" "is_kept" (defArgs sIsKept) (defBody sIsKept) (defScope sIsKept) [] [] (He.ga K "is_kept") fd := Y.d.def_ 15 (d := K37.dIsKept) rfl
theorem Fx.dIsWord (Y : Fx w K mg) : ∃ fd, FunD K "is_word" "is_word" (defArgs sIsWord) (defBody sIsWord) (defScope sIsWord) [] [] (He.ga K "is_word") fd := Y.d.def_ 16 (d := K37.dIsWord) rfl
theorem Fx.dFirstAgain (Y : Fx w K mg) : ∃ fd, FunD K "first_again" "first_again" (defArgs sFirstAgain) (defBody sFirstAgain) (defScope sFirstAgain) [] [] (He.ga K "first_again") fd := Y.d.def_ 17 (d := K37.dFirstAgain) rfl
theorem Fx.dCheckNames (Y : Fx w K mg) : ∃ fd, FunD K "check_names" "check_names" (defArgs sCheckNames) (defBody sCheckNames) (defScope sCheckNames) [] [] (He.ga K "check_names") fd := Y.d.def_ 18 (d := K37.dCheckNames) rfl
theorem Fx.dCheckPremise (Y : Fx w K mg) : ∃ fd, FunD K "_check_premise" "_check_premise" (defArgs sCheckPremise) (defBody sCheckPremise) (defScope sCheckPremise) [] [] (He.ga K "_check_premise") fd := Y.d.def_ 19 (d := K37.dCheckPremise) rfl
theorem Fx.dWithPremise (Y : Fx w K mg) : ∃ fd, FunD K "with_premise" "with_premise" (defArgs sWithPremise) (defBody sWithPremise) (defScope sWithPremise) [] [] (He.ga K "with_premise") fd := Y.d.def_ 20 (d := K37.dWithPremise) rfl
theorem Fx.dCheckEnds (Y : Fx w K mg) : ∃ fd, FunD K "_check_ends" "_check_ends" (defArgs sCheckEnds) (defBody sCheckEnds) (defScope sCheckEnds) [] [] (He.ga K "_check_ends") fd := Y.d.def_ 21 (d := K37.dCheckEnds) rfl
theorem Fx.dCheckTotals (Y : Fx w K mg) : ∃ fd, FunD K "_check_totals" "_check_totals" (defArgs sCheckTotals) (defBody sCheckTotals) (defScope sCheckTotals) [] [] (He.ga K "_check_totals") fd := Y.d.def_ 22 (d := K37.dCheckTotals) rfl
theorem Fx.dStepOf (Y : Fx w K mg) : ∃ fd, FunD K "_step_of" "_step_of" (defArgs sStepOf) (defBody sStepOf) (defScope sStepOf) [] [] (He.ga K "_step_of") fd := Y.d.def_ 23 (d := K37.dStepOf) rfl
theorem Fx.dCheckSteps (Y : Fx w K mg) : ∃ fd, FunD K "_check_steps" "_check_steps" (defArgs sCheckSteps) (defBody sCheckSteps) (defScope sCheckSteps) [] [] (He.ga K "_check_steps") fd := Y.d.def_ 24 (d := K37.dCheckSteps) rfl
theorem Fx.dLawSource (Y : Fx w K mg) : ∃ fd, FunD K "_law_source" "_law_source" (defArgs sLawSource) (defBody sLawSource) (defScope sLawSource) [] [] (He.ga K "_law_source") fd := Y.d.def_ 25 (d := K37.dLawSource) rfl
theorem Fx.dLawPick (Y : Fx w K mg) : ∃ fd, FunD K "_law_pick" "_law_pick" (defArgs sLawPick) (defBody sLawPick) (defScope sLawPick) [] [] (He.ga K "_law_pick") fd := Y.d.def_ 26 (d := K37.dLawPick) rfl
theorem Fx.dLawNames (Y : Fx w K mg) : ∃ fd, FunD K "_law_names" "_law_names" (defArgs sLawNames) (defBody sLawNames) (defScope sLawNames) [] [] (He.ga K "_law_names") fd := Y.d.def_ 27 (d := K37.dLawNames) rfl
theorem Fx.dLawFramed (Y : Fx w K mg) : ∃ fd, FunD K "_law_framed" "_law_framed" (defArgs sLawFramed) (defBody sLawFramed) (defScope sLawFramed) [] [] (He.ga K "_law_framed") fd := Y.d.def_ 28 (d := K37.dLawFramed) rfl
theorem Fx.dLawFrame (Y : Fx w K mg) : ∃ fd, FunD K "_law_frame" "_law_frame" (defArgs sLawFrame) (defBody sLawFrame) (defScope sLawFrame) [] [] (He.ga K "_law_frame") fd := Y.d.def_ 29 (d := K37.dLawFrame) rfl
theorem Fx.dLawLeaf (Y : Fx w K mg) : ∃ fd, FunD K "_law_leaf" "_law_leaf" (defArgs sLawLeaf) (defBody sLawLeaf) (defScope sLawLeaf) [] [] (He.ga K "_law_leaf") fd := Y.d.def_ 30 (d := K37.dLawLeaf) rfl
theorem Fx.dLawFlat (Y : Fx w K mg) : ∃ fd, FunD K "_law_flat" "_law_flat" (defArgs sLawFlat) (defBody sLawFlat) (defScope sLawFlat) [] [] (He.ga K "_law_flat") fd := Y.d.def_ 31 (d := K37.dLawFlat) rfl
theorem Fx.dLawTerm (Y : Fx w K mg) : ∃ fd, FunD K "_law_term" "_law_term" (defArgs sLawTerm) (defBody sLawTerm) (defScope sLawTerm) [] [] (He.ga K "_law_term") fd := Y.d.def_ 32 (d := K37.dLawTerm) rfl
theorem Fx.dLawSomeEnds (Y : Fx w K mg) : ∃ fd, FunD K "_law_some_ends" "_law_some_ends" (defArgs sLawSomeEnds) (defBody sLawSomeEnds) (defScope sLawSomeEnds) [] [] (He.ga K "_law_some_ends") fd := Y.d.def_ 33 (d := K37.dLawSomeEnds) rfl
theorem Fx.dLawEnds (Y : Fx w K mg) : ∃ fd, FunD K "_law_ends" "_law_ends" (defArgs sLawEnds) (defBody sLawEnds) (defScope sLawEnds) [] [] (He.ga K "_law_ends") fd := Y.d.def_ 34 (d := K37.dLawEnds) rfl
theorem Fx.dLawKindPremise (Y : Fx w K mg) : ∃ fd, FunD K "_law_kind_premise" "_law_kind_premise" (defArgs sLawKindPremise) (defBody sLawKindPremise) (defScope sLawKindPremise) [] [] (He.ga K "_law_kind_premise") fd := Y.d.def_ 35 (d := K37.dLawKindPremise) rfl
theorem Fx.dLawPremises (Y : Fx w K mg) : ∃ fd, FunD K "_law_premises" "_law_premises" (defArgs sLawPremises) (defBody sLawPremises) (defScope sLawPremises) [] [] (He.ga K "_law_premises") fd := Y.d.def_ 36 (d := K37.dLawPremises) rfl
theorem Fx.dLawWord (Y : Fx w K mg) : ∃ fd, FunD K "_law_word" "_law_word" (defArgs sLawWord) (defBody sLawWord) (defScope sLawWord) [] [] (He.ga K "_law_word") fd := Y.d.def_ 37 (d := K37.dLawWord) rfl
theorem Fx.dLawIsFlat (Y : Fx w K mg) : ∃ fd, FunD K "_law_is_flat" "_law_is_flat" (defArgs sLawIsFlat) (defBody sLawIsFlat) (defScope sLawIsFlat) [] [] (He.ga K "_law_is_flat") fd := Y.d.def_ 38 (d := K37.dLawIsFlat) rfl
theorem Fx.dLawIsKept (Y : Fx w K mg) : ∃ fd, FunD K "_law_is_kept" "_law_is_kept" (defArgs sLawIsKept) (defBody sLawIsKept) (defScope sLawIsKept) [] [] (He.ga K "_law_is_kept") fd := Y.d.def_ 39 (d := K37.dLawIsKept) rfl
theorem Fx.dLawDue (Y : Fx w K mg) : ∃ fd, FunD K "_law_due" "_law_due" (defArgs sLawDue) (defBody sLawDue) (defScope sLawDue) [] [] (He.ga K "_law_due") fd := Y.d.def_ 40 (d := K37.dLawDue) rfl
theorem Fx.dLawWrong (Y : Fx w K mg) : ∃ fd, FunD K "_law_wrong" "_law_wrong" (defArgs sLawWrong) (defBody sLawWrong) (defScope sLawWrong) [] [] (He.ga K "_law_wrong") fd := Y.d.def_ 41 (d := K37.dLawWrong) rfl
theorem Fx.dLawRow (Y : Fx w K mg) : ∃ fd, FunD K "_law_row" "_law_row" (defArgs sLawRow) (defBody sLawRow) (defScope sLawRow) [] [] (He.ga K "_law_row") fd := Y.d.def_ 42 (d := K37.dLawRow) rfl
theorem Fx.dLaw (Y : Fx w K mg) : ∃ fd, FunD K "law" "law" (defArgs sLaw) (defBody sLaw) (defScope sLaw) [] [] (He.ga K "law") fd := Y.d.def_ 43 (d := K37.dLaw) rfl
theorem Fx.cFrame (Y : Fx w K mg) : Cls K (CFrame K) := He.cls_ok (Y.d.fact 73 (f := .cls "Frame") rfl)
theorem Fx.mFrame (Y : Fx w K mg) : Mk K (CFrame K) (He.ma K (CFrame K) "__init__") := He.mkr_ok (Y.d.fact 75 (f := .mkr "Frame") rfl)
theorem Fx.dFrame_Init (Y : Fx w K mg) : ∃ fd, FunD K "__init__" "Frame.__init__" (defArgs sFrame_Init) (defBody sFrame_Init) (defScope sFrame_Init) [] [] (He.ma K (CFrame K) "__init__") fd := Y.d.def_ 44 (d := K37.dFrame_Init) rfl
theorem Fx.dFrame_Ends (Y : Fx w K mg) : ∃ fd, FunD K "ends" "Frame.ends" (defArgs sFrame_Ends) (defBody sFrame_Ends) (defScope sFrame_Ends) [] [] (He.ma K (CFrame K) "ends") fd := Y.d.def_ 45 (d := K37.dFrame_Ends) rfl
theorem Fx.mFrame_Ends (Y : Fx w K mg) : Meth K (CFrame K) "ends" (He.ma K (CFrame K) "ends") := He.meth_ok (Y.d.fact 85 (f := .meth "Frame" "ends") rfl)
theorem Fx.dFrame_HasSort (Y : Fx w K mg) : ∃ fd, FunD K "has_sort" "Frame.has_sort" (defArgs sFrame_HasSort) (defBody sFrame_HasSort) (defScope sFrame_HasSort) [] [] (He.ma K (CFrame K) "has_sort") fd := Y.d.def_ 46 (d := K37.dFrame_HasSort) rfl
theorem Fx.mFrame_HasSort (Y : Fx w K mg) : Meth K (CFrame K) "has_sort" (He.ma K (CFrame K) "has_sort") := He.meth_ok (Y.d.fact 86 (f := .meth "Frame" "has_sort") rfl)
theorem Fx.dFrame_HasLetter (Y : Fx w K mg) : ∃ fd, FunD K "has_letter" "Frame.has_letter" (defArgs sFrame_HasLetter) (defBody sFrame_HasLetter) (defScope sFrame_HasLetter) [] [] (He.ma K (CFrame K) "has_letter") fd := Y.d.def_ 47 (d := K37.dFrame_HasLetter) rfl
theorem Fx.mFrame_HasLetter (Y : Fx w K mg) : Meth K (CFrame K) "has_letter" (He.ma K (CFrame K) "has_letter") := He.meth_ok (Y.d.fact 87 (f := .meth "Frame" "has_letter") rfl)
theorem Fx.cBook (Y : Fx w K mg) : Cls K (CBook K) := He.cls_ok (Y.d.fact 74 (f := .cls "Book") rfl)
theorem Fx.mBook (Y : Fx w K mg) : Mk K (CBook K) (He.ma K (CBook K) "__init__") := He.mkr_ok (Y.d.fact 76 (f := .mkr "Book") rfl)
theorem Fx.dBook_Init (Y : Fx w K mg) : ∃ fd, FunD K "__init__" "Book.__init__" (defArgs sBook_Init) (defBody sBook_Init) (defScope sBook_Init) [] [] (He.ma K (CBook K) "__init__") fd := Y.d.def_ 48 (d := K37.dBook_Init) rfl
theorem Fx.dBook_Frame (Y : Fx w K mg) : ∃ fd, FunD K "frame" "Book.frame" (defArgs sBook_Frame) (defBody sBook_Frame) (defScope sBook_Frame) [] [] (He.ma K (CBook K) "frame") fd := Y.d.def_ 49 (d := K37.dBook_Frame) rfl
theorem Fx.mBook_Frame (Y : Fx w K mg) : Meth K (CBook K) "frame" (He.ma K (CBook K) "frame") := He.meth_ok (Y.d.fact 88 (f := .meth "Book" "frame") rfl)
theorem Fx.dBook_Premises (Y : Fx w K mg) : ∃ fd, FunD K "premises" "Book.premises" (defArgs sBook_Premises) (defBody sBook_Premises) (defScope sBook_Premises) [] [] (He.ma K (CBook K) "premises") fd := Y.d.def_ 50 (d := K37.dBook_Premises) rfl
theorem Fx.mBook_Premises (Y : Fx w K mg) : Meth K (CBook K) "premises" (He.ma K (CBook K) "premises") := He.meth_ok (Y.d.fact 89 (f := .meth "Book" "premises") rfl)
theorem Fx.dBadName_Init (Y : Fx w K mg) : ∃ fd, FunD K "__init__" "BadName.__init__" (defArgs sBadName_Init) (defBody sBadName_Init) (defScope sBadName_Init) [] [] (He.ma K (CBadName K) "__init__") fd := Y.d.def_ 51 (d := K37.dBadName_Init) rfl
theorem Fx.dTwiceTold_Init (Y : Fx w K mg) : ∃ fd, FunD K "__init__" "TwiceTold.__init__" (defArgs sTwiceTold_Init) (defBody sTwiceTold_Init) (defScope sTwiceTold_Init) [] [] (He.ma K (CTwiceTold K) "__init__") fd := Y.d.def_ 52 (d := K37.dTwiceTold_Init) rfl
theorem Fx.dBadFrame_Init (Y : Fx w K mg) : ∃ fd, FunD K "__init__" "BadFrame.__init__" (defArgs sBadFrame_Init) (defBody sBadFrame_Init) (defScope sBadFrame_Init) [] [] (He.ma K (CBadFrame K) "__init__") fd := Y.d.def_ 53 (d := K37.dBadFrame_Init) rfl
theorem Fx.dComesRound_Init (Y : Fx w K mg) : ∃ fd, FunD K "__init__" "ComesRound.__init__" (defArgs sComesRound_Init) (defBody sComesRound_Init) (defScope sComesRound_Init) [] [] (He.ma K (CComesRound K) "__init__") fd := Y.d.def_ 54 (d := K37.dComesRound_Init) rfl
theorem Fx.dBadTerm_Init (Y : Fx w K mg) : ∃ fd, FunD K "__init__" "BadTerm.__init__" (defArgs sBadTerm_Init) (defBody sBadTerm_Init) (defScope sBadTerm_Init) [] [] (He.ma K (CBadTerm K) "__init__") fd := Y.d.def_ 55 (d := K37.dBadTerm_Init) rfl
theorem Fx.dUnknownName_Init (Y : Fx w K mg) : ∃ fd, FunD K "__init__" "UnknownName.__init__" (defArgs sUnknownName_Init) (defBody sUnknownName_Init) (defScope sUnknownName_Init) [] [] (He.ma K (CUnknownName K) "__init__") fd := Y.d.def_ 56 (d := K37.dUnknownName_Init) rfl
theorem Fx.dNotKept_Init (Y : Fx w K mg) : ∃ fd, FunD K "__init__" "NotKept.__init__" (defArgs sNotKept_Init) (defBody sNotKept_Init) (defScope sNotKept_Init) [] [] (He.ma K (CNotKept K) "__init__") fd := Y.d.def_ 57 (d := K37.dNotKept_Init) rfl
theorem Fx.dNotFlat_Init (Y : Fx w K mg) : ∃ fd, FunD K "__init__" "NotFlat.__init__" (defArgs sNotFlat_Init) (defBody sNotFlat_Init) (defScope sNotFlat_Init) [] [] (He.ma K (CNotFlat K) "__init__") fd := Y.d.def_ 58 (d := K37.dNotFlat_Init) rfl
theorem Fx.dMixedEnds_Init (Y : Fx w K mg) : ∃ fd, FunD K "__init__" "MixedEnds.__init__" (defArgs sMixedEnds_Init) (defBody sMixedEnds_Init) (defScope sMixedEnds_Init) [] [] (He.ma K (CMixedEnds K) "__init__") fd := Y.d.def_ 59 (d := K37.dMixedEnds_Init) rfl
theorem Fx.nFrameSorts (Y : Fx w K mg) : NoAttr K (CFrame K) "_sorts" := He.noat_ok (Y.d.fact 79 (f := .noat "Frame" "_sorts") rfl)
theorem Fx.nFrameLetters (Y : Fx w K mg) : NoAttr K (CFrame K) "_letters" := He.noat_ok (Y.d.fact 80 (f := .noat "Frame" "_letters") rfl)
theorem Fx.nFrameTotals (Y : Fx w K mg) : NoAttr K (CFrame K) "_totals" := He.noat_ok (Y.d.fact 81 (f := .noat "Frame" "_totals") rfl)
theorem Fx.nFrameEnds (Y : Fx w K mg) : NoAttr K (CFrame K) "_ends" := He.noat_ok (Y.d.fact 82 (f := .noat "Frame" "_ends") rfl)
theorem Fx.nBookFrame (Y : Fx w K mg) : NoAttr K (CBook K) "_frame" := He.noat_ok (Y.d.fact 83 (f := .noat "Book" "_frame") rfl)
theorem Fx.nBookPremises (Y : Fx w K mg) : NoAttr K (CBook K) "_premises" := He.noat_ok (Y.d.fact 84 (f := .noat "Book" "_premises") rfl)
theorem Fx.x0 (Y : Fx w K mg) : (decide (PySem.W.kitOne K (.type "str") (.type "str") = some true)) = true := (an Y.ex).1
theorem Fx.x1 (Y : Fx w K mg) : (xcB K (CBadName K) "name" veB "ValueError.__new__") = true := (an (an Y.ex).2).1
theorem Fx.x2 (Y : Fx w K mg) : (xcB K (CTwiceTold K) "name" veB "ValueError.__new__") = true := (an (an (an Y.ex).2).2).1
theorem Fx.x3 (Y : Fx w K mg) : (xcB K (CUnknownName K) "name" leB "LookupError.__new__") = true := (an (an (an (an Y.ex).2).2).2).1
theorem Fx.x4 (Y : Fx w K mg) : (xcB K (CBadFrame K) "name" veB "ValueError.__new__") = true := (an (an (an (an (an Y.ex).2).2).2).2).1
theorem Fx.x5 (Y : Fx w K mg) : (xcB K (CComesRound K) "members" veB "ValueError.__new__") = true := (an (an (an (an (an (an Y.ex).2).2).2).2).2).1
theorem Fx.x6 (Y : Fx w K mg) : (xcB K (CBadTerm K) "path" veB "ValueError.__new__") = true := (an (an (an (an (an (an (an Y.ex).2).2).2).2).2).2).1
theorem Fx.x7 (Y : Fx w K mg) : (decide (PySem.W.exmOne K (.ref (CBadTerm K)) (.ref (CBadTerm K)) = some true)) = true := (an (an (an (an (an (an (an (an Y.ex).2).2).2).2).2).2).2).1
theorem Fx.x8 (Y : Fx w K mg) : (decide (PySem.W.kitOne K (.type "tuple") (.type "tuple") = some true)) = true := (an (an (an (an (an (an (an (an (an Y.ex).2).2).2).2).2).2).2).2).1
theorem Fx.x9 (Y : Fx w K mg) : (He.valsB K (He.ga K "_PARTS_BELOW") vPARTSBELOW) = true := (an (an (an (an (an (an (an (an (an (an Y.ex).2).2).2).2).2).2).2).2).2).1
theorem Fx.x10 (Y : Fx w K mg) : (He.valsB K (He.ga K "_SORTS_TOLD") vSORTSTOLD) = true := (an (an (an (an (an (an (an (an (an (an (an Y.ex).2).2).2).2).2).2).2).2).2).2).1
theorem Fx.x11 (Y : Fx w K mg) : (He.tupB K "_NOT_FLAT" tNOTFLAT) = true := (an (an (an (an (an (an (an (an (an (an (an (an Y.ex).2).2).2).2).2).2).2).2).2).2).2).1
theorem Fx.x12 (Y : Fx w K mg) : (xcB K (CNotKept K) "number" veB "ValueError.__new__") = true := (an (an (an (an (an (an (an (an (an (an (an (an (an Y.ex).2).2).2).2).2).2).2).2).2).2).2).2).1
theorem Fx.x13 (Y : Fx w K mg) : (xcB K (CNotFlat K) "number" veB "ValueError.__new__") = true := (an (an (an (an (an (an (an (an (an (an (an (an (an (an Y.ex).2).2).2).2).2).2).2).2).2).2).2).2).2).1
theorem Fx.x14 (Y : Fx w K mg) : (xcB K (CMixedEnds K) "number" veB "ValueError.__new__") = true := (an (an (an (an (an (an (an (an (an (an (an (an (an (an (an Y.ex).2).2).2).2).2).2).2).2).2).2).2).2).2).2).1
theorem Fx.x15 (Y : Fx w K mg) : ((List.range 4).all (exm4 K)) = true := (an (an (an (an (an (an (an (an (an (an (an (an (an (an (an (an Y.ex).2).2).2).2).2).2).2).2).2).2).2).2).2).2).2).1
theorem Fx.kPARTSBELOW (Y : Fx w K mg) : ∃ es n, KDict K w (He.ga K "_PARTS_BELOW") es n := Y.t.tab 0 (t := (fun K => He.ga K "_PARTS_BELOW", K37.kPARTSBELOW)) rfl
theorem Fx.kSORTSTOLD (Y : Fx w K mg) : ∃ es n, KDict K w (He.ga K "_SORTS_TOLD") es n := Y.t.tab 1 (t := (fun K => He.ga K "_SORTS_TOLD", K37.kSORTSTOLD)) rfl
end
/-- the world, its one habit that the top asks for told by a Bool -/
def wB (w : World) (b : Bool) : World := { w with params := { w.params with followText := fun s => if s == "special-get-raises" then b else w.params.followText s } }
theorem wB_eq (w : World) : wB w (w.params.followText "special-get-raises") = w := by
  have e : (fun s : String => if s == "special-get-raises" then w.params.followText "special-get-raises" else w.params.followText s) = w.params.followText := by
    funext s
    by_cases h : s = "special-get-raises"
    · subst h
      simp
    · simp [h]
  unfold wB
  rw [e]
theorem runT (w : World) : HandSHeadRun.RunEq R (PySem.W.view R.prog [69]) hk ob 40000 nm (wB w true) := by
  intro os
  kernel_rfl
theorem runF (w : World) : HandSHeadRun.RunEq R (PySem.W.view R.prog [69]) hk ob 40000 nm (wB w false) := by
  intro os
  kernel_rfl
theorem run (w : World) : HandSHeadRun.RunEq R (PySem.W.view R.prog [69]) hk ob 40000 nm w := by
  have h : ∀ b, HandSHeadRun.RunEq R (PySem.W.view R.prog [69]) hk ob 40000 nm (wB w b) := fun b => match b with
    | true => runT w
    | false => runF w
  rw [← wB_eq w]
  exact h _

end K37

/-! Operators and comparisons that a class of the text defines, between two of its instances; ~ of one. -/
namespace Ow
open PySem PySem.Spec PyProof.Rows L2
section
variable {X : Cx} {n : Nat} {C f : Addr} {fd : FuncData} {ps : List Str} {sp : Sp}
/-- what a class must tell for one of its special defs -/
structure OwnFn (X : Cx) (n : Nat) (C : Addr) (nm : Str) (f : Addr) (fd : FuncData) (ps : List Str) (sp : Sp) : Prop where
  ok : FnOk X.prog X.w X.K X.mg X.base CX0 n f fd ps sp
  rm : Room n X.A
  at_ : PySem.W.findIn X.K (.ref C) nm = some (some (.ref f))
  fn : PySem.W.isFn X.K (.ref f) = true
  bd : Binds X.K fd ps []
theorem backs {Q : VK} {pins : List (Addr × Obj)} {σ : L2.St} {u : Value} {s : Shared} (h : EP X pins σ Q u s) : PySem.W.CmpBack (EP X pins σ Q) u s := by
  cases u with
  | notImplemented =>
    obtain ⟨v, H, _, r, _⟩ := h
    cases v with
    | non => exact nomatch (show Value.notImplemented = Value.none from r)
    | bl b => exact nomatch (show Value.notImplemented = Value.bool b from r)
    | int i => obtain ⟨t, e⟩ := r; exact nomatch e
    | str x => obtain ⟨t, e⟩ := r; exact nomatch e
    | byt b => obtain ⟨t, e⟩ := r; exact nomatch e
    | flt b => obtain ⟨t, e⟩ := r; exact nomatch e
    | ref a => exact nomatch (show Value.notImplemented = Value.ref a from r)
    | ty m => exact nomatch (show Value.notImplemented = Value.type m from r)
  | _ => exact h
theorem OwnFn.run {nm : Str} (O : OwnFn X n C nm f fd ps sp) {pins : List (Addr × Obj)} {σ : L2.St} {H : Hp} {s : Shared} {Q : VK} {vs : List V} {us : List Value} (I : Inv X pins σ H s) (r : Vals vs us) (h : sp vs H Q E0) :
    wpAny (model X.prog X.w) X.A (call (.ref f) us) (EP X pins σ Q) X.xe s :=
  run_fn O.ok O.rm O.bd .nil pass0 I r (by rw [List.append_nil]; exact h)
/-- the two operands are instances of C -/
def rOwn (C : Addr) (sp : Sp) : R2 := fun x y H Q => ∃ a b dx dy fs gs, x = .ref a ∧ y = .ref b ∧ H a = some (.ins C dx fs) ∧ H b = some (.ins C dy gs) ∧ sp [.ref a, .ref b] H Q E0
def rOwn1 (C : Addr) (sp : Sp) : V → Hp → VK → Prop := fun x H Q => ∃ a dx fs, x = .ref a ∧ H a = some (.ins C dx fs) ∧ sp [.ref a] H Q E0
theorem op_own {op : Operator} (O : OwnFn X n C (PySem.dunder op.info.2) f fd ps sp) (hc : PySem.W.selfFirst X.K C = true) : OpR X (binaryOp op) (rOwn C sp) := by
  intro pins s σ H x y v u Q I rx ry hq
  obtain ⟨a, b, dx, dy, fs, gs, rfl, rfl, ha, hb, h⟩ := hq
  cases rx
  cases ry
  obtain ⟨mA, J, _⟩ := ins_get I.hok ha
  obtain ⟨mB, J', _⟩ := ins_get I.hok hb
  obtain ⟨od, J, _⟩ := J.look
  obtain ⟨od', J', _⟩ := J'.look
  obtain ⟨m, F⟩ := I.fr
  exact PySem.W.binop_K F I.ok.mod.kin J J'.type hc O.at_ O.fn (wpAny_mono (O.run (vs := [.ref a, .ref b]) I (.cons rfl (.cons rfl .nil)) h) (fun _ _ z => backs z) fun _ _ z => z)
theorem un_own (O : OwnFn X n C "__invert__" f fd ps sp) : UnR X (unaryOp .Invert) (rOwn1 C sp) := by
  intro pins s σ H x v Q I rx hq
  obtain ⟨a, dx, fs, rfl, ha, h⟩ := hq
  cases rx
  obtain ⟨mA, J, _⟩ := ins_get I.hok ha
  obtain ⟨od, J, _⟩ := J.look
  obtain ⟨m, F⟩ := I.fr
  exact PySem.W.ksp_inv F I.ok.mod.kin J O.at_ O.fn (O.run (vs := [.ref a]) I (.cons rfl .nil) h)
/-- a <= b and the like -/
theorem cmp_own {op : CmpOp} (he : ∀ u v, compareOp op u v = richCompare op u v) (O : OwnFn X n C (cmpInfo op).2.1 f fd ps sp) : OpR X (compareOp op) (rOwn C sp) := by
  intro pins s σ H x y v u Q I rx ry hq
  obtain ⟨a, b, dx, dy, fs, gs, rfl, rfl, ha, hb, h⟩ := hq
  cases rx
  cases ry
  obtain ⟨mA, J, _⟩ := ins_get I.hok ha
  obtain ⟨mB, J', _⟩ := ins_get I.hok hb
  obtain ⟨od, J, _⟩ := J.look
  obtain ⟨od', J', _⟩ := J'.look
  obtain ⟨m, F⟩ := I.fr
  rw [he]
  exact PySem.W.cmp_K (tb := .ref C) O.rm.units0 F I.ok.mod.kin J J'.type (by simp [PySem.W.notFirst]) O.at_ O.fn (wpAny_mono (O.run (vs := [.ref a, .ref b]) I (.cons rfl (.cons rfl .nil)) h) (fun _ _ z => backs z) fun _ _ z => z)
theorem op_own_le (O : OwnFn X n C "__le__" f fd ps sp) : OpR X (compareOp .LtE) (rOwn C sp) := cmp_own (fun _ _ => rfl) O
theorem op_own_lt (O : OwnFn X n C "__lt__" f fd ps sp) : OpR X (compareOp .Lt) (rOwn C sp) := cmp_own (fun _ _ => rfl) O
theorem op_own_eq (O : OwnFn X n C "__eq__" f fd ps sp) : OpR X (compareOp .Eq) (rOwn C sp) := cmp_own (fun _ _ => rfl) O
/-! != of two instances: object.__ne__ asks the class's own == -/
def rOwnNe (C : Addr) (sp : Sp) : R2 := fun x y H Q => ∃ a b dx dy fs gs, x = .ref a ∧ y = .ref b ∧ H a = some (.ins C dx fs) ∧ H b = some (.ins C dy gs) ∧ sp [.ref a, .ref b] H (fun v H' => ∃ k, v = .bl k ∧ Q (.bl (!k)) H') E0
theorem ne_bind (u : Value) : bindSpecial (.builtin "object.__ne__") u = pure (.builtin "object.__ne__", [u]) := by kernel_rfl
theorem op_own_ne (ok : FnOk X.prog X.w X.K X.mg X.base CX0 n f fd ps sp) (rm : Room (n + 1) X.A) (at_ : PySem.W.findIn X.K (.ref C) "__eq__" = some (some (.ref f))) (fn : PySem.W.isFn X.K (.ref f) = true) (bd : Binds X.K fd ps [])
    (ne_ : PySem.W.findIn X.K (.ref C) "__ne__" = some (some (.builtin "object.__ne__"))) (hm : PySem.W.mroIn X.K C (.type "object") = some true) : OpR X (compareOp .NotEq) (rOwnNe C sp) := by
  intro pins s σ H x y v u Q I rx ry hq
  obtain ⟨a, b, dx, dy, fs, gs, rfl, rfl, ha, hb, h⟩ := hq
  cases rx
  cases ry
  obtain ⟨mA, J, _⟩ := ins_get I.hok ha
  obtain ⟨mB, J', _⟩ := ins_get I.hok hb
  obtain ⟨od, J, _⟩ := J.look
  obtain ⟨od', J', _⟩ := J'.look
  have K' := I.kIn
  have hl := ok.len _ _ _ _ h
  have e0 : Env0 X.prog X.w X.K X.mg X.base X.A.in1 X.stack s H := by
    have e := I.env0
    exact ⟨e.frames, e.mod, e.bs, e.bsz, e.funs, e.frf, e.hok, e.bare⟩
  have r2 : Vals [V.ref a, V.ref b] [Value.ref a, Value.ref b] := .cons rfl (.cons rfl .nil)
  have go : wpAny (model X.prog X.w) X.A.in1 (call (.ref f) [.ref a, .ref b]) (fun v s' => ∃ k, v = .bool k ∧ EP X pins σ Q (.bool (!k)) s') X.xe s := by
    refine wpAny_call (codeAny_mono (ok.run X.A.in1 X.stack s H ⟨[.ref a, .ref b], []⟩ [.ref a, .ref b] [.ref a, .ref b] _ E0 rm.in1 e0 (by
      have z := bd s [.ref a, .ref b] I.kIn (by simpa using hl)
      simpa using z) r2 h) fun r s' hq => ?_)
    cases r with
    | error e => exact pass0 pins σ H s e s' I hq
    | ok fl =>
      cases fl with
      | ret w =>
        obtain ⟨z, H', I', rz, k, ez, q⟩ := I.after hq
        subst ez
        cases rz
        exact ⟨k, rfl, .bl (!k), H', I', rfl, q⟩
      | next => exact False.elim hq
      | brk => exact False.elim hq
      | cont => exact False.elim hq
  show wpAny (model X.prog X.w) X.A (richCompare .NotEq (.ref a) (.ref b)) (EP X pins σ Q) X.xe s
  have one : wpAny (model X.prog X.w) X.A (tryCompare (.ref a) "__ne__" (.ref b)) (fun r s' => ∃ v, r = some v ∧ EP X pins σ Q v s') X.xe s := by
    unfold tryCompare
    refine wpAny_bind (m := callSpecialIfBound? (.ref a) "__ne__" [.ref b]) ?_
    simp only [callSpecialIfBound?, bindSpecialIfBound?]
    refine wpAny_holding (wpAny_bind (wpAny_bind (wpAny_bind (J.type.here ((PySem.W.looks_findIn K' ne_).here ?_)))))
    refine wpAny_bind (wpAny_askSetting (wpAny_ite ?_))
    have fin : wpAny (model X.prog X.w) X.A (call (.builtin "object.__ne__") ([.ref a] ++ [.ref b]) >>= fun v => pure (some v)) (fun r s' => wpAny (model X.prog X.w) X.A (match r with | some .notImplemented | none => pure none | some v => pure (some v)) (fun r s' => ∃ v, r = some v ∧ EP X pins σ Q v s') X.xe s') X.xe s := by
      refine wpAny_bind (wpAny_call (codeAny_call_builtin PySem.F.cmp_object.ne.plain PySem.F.cmpEntry_ne (PySem.W.check_slot PySem.F.cmpKind_ne PySem.F.cmpSplit_ne (J.type.andThen (PySem.W.looks_mroIn K' hm)) (PySem.F.cmpArgs_ne _ _) ?_)))
      unfold Builtin.«object.__ne__»
      refine wpAny_bind (m := slotArgs "__ne__" 1 _) (wpAny_pure ?_)
      refine wpAny_bind (m := cRoomFor _ _) (wpAny_cRoomFor rm.in1.units0 ?_)
      refine wpAny_bind (m := callSpecialIfBound? (.ref a) (PySem.Str.ofString "__eq__") _) (PySem.W.ifBound_K K' J at_ fn (wpAny_mono go (fun r s' hq => ?_) fun _ _ y => y))
      obtain ⟨k, rfl, q⟩ := hq
      refine wpAny_bind (m := truthy (.bool k)) (wpAny_truthy_bool ?_)
      exact wpAny_pure (wpAny_pure (wpAny_pure ⟨_, rfl, q⟩))
    split
    · exact wpAny_bind ((PySem.W.Looks.of_pure (ne_bind _)).here (wpAny_pure (by exact fin)))
    · exact wpAny_tryCatch (wpAny_bind ((PySem.W.Looks.of_pure (ne_bind _)).here (wpAny_pure (by exact fin))))
  unfold richCompare
  simp only [oneThing_ref]
  refine wpAny_holding (wpAny_bind (wpAny_cRoomFor rm.units0 ?_))
  refine wpAny_bind (J.type.here (wpAny_bind (J'.type.here ?_)))
  rw [show (Value.ref C != Value.ref C) = false from by simp]
  simp only [Bool.false_eq_true, if_false]
  refine wpAny_bind (wpAny_pure ?_)
  simp only [Bool.false_eq_true, if_false]
  refine wpAny_bind (wpAny_mono one (fun r s' z => ?_) fun _ _ e => e)
  obtain ⟨v, rfl, hq⟩ := z
  exact wpAny_pure hq
end
end Ow

/-! for i, x in enumerate(a tuple) -/
namespace Ow
open PySem PySem.Spec PyProof.Rows L2
theorem enum_new1 {v : Value} {o : Obj} {H : Heap → Prop} (B : Begins v o H) :
    Meets (Builtin.«enumerate.__new__» ⟨[.type "enumerate", v], []⟩) (fun _ R s => H s.heap ∧
      R (.ok (.ret (.ref (s.heap.push o).objs.size))) { s with heap := (s.heap.push o).push { cls := .type "enumerate", data := .fields #[.none, .bool false, .ref s.heap.objs.size, rawInt 0, .none, .none] } }) :=
  .of_wp fun prog w A R s h => by
    obtain ⟨hp, g, d, tk, os⟩ := s
    obtain ⟨h1, h⟩ := h
    have hsub := sub_enumerate
    have q1 : ∀ {A' : Around} {E : Value → Shared → Prop} {Q : Value → Shared → Prop}, Q (.ref hp.objs.size) ⟨hp.push o, g, d, tk, os⟩ → wpAny (model prog w) A' (pyIter v) Q E ⟨hp, g, d, tk, os⟩ :=
      fun q => B.iter prog w _ _ ⟨hp, g, d, tk, os⟩ _ h1 q
    wp_walk using q1
    refine wpAny_stack_any fun st => wpAny_pure ?_
    split
    · rename_i c _ _ _ _ _
      cases (c == Value.type "enumerate")
      · wp_walk using q1
        exact ⟨_, rfl, h⟩
      · wp_walk using q1
        exact ⟨_, rfl, h⟩
    · wp_walk using q1
      exact ⟨_, rfl, h⟩
section
variable {prog : Program} {w : World} {A : Around} {E : Value → Shared → Prop} {s : Shared}
theorem enum_tup {l : Addr} {items : Array Value} {Q : Value → Shared → Prop} (hL : s.heap.IsTuple l items)
    (h : ∀ h', IsEnum h' (s.heap.objs.size + 1) s.heap.objs.size 0 .none → h'.IsTupleIter s.heap.objs.size l 0 → h'.objs.size = s.heap.objs.size + 2 →
      (∀ b o, s.heap.get? b = some o → h'.get? b = some o) → Q (.ref (s.heap.objs.size + 1)) { s with heap := h' }) :
    wpAny (model prog w) A (call (.type "enumerate") [.ref l]) Q E s := by
  refine callType_new F.called_enumerate (by decide) (F.typeCall_enumerate_1 _) (F.newCall_enumerate_1 _) (fun obj => F.args_object_init_2 obj _) F.entry_enumerate_new
    (enum_new1 (begins_tuple l items)) ⟨hL, ?_⟩
  have hz : (s.heap.push { cls := .type "tuple_iterator", data := .fields #[.ref l, .int 0 0] }).objs.size = s.heap.objs.size + 1 := Heap.size_push ..
  show _ ∧ _
  rw [hz]
  have he : IsEnum ((s.heap.push { cls := .type "tuple_iterator", data := .fields #[.ref l, .int 0 0] }).push
      { cls := .type "enumerate", data := .fields #[.none, .bool false, .ref s.heap.objs.size, rawInt 0, .none, .none] }) (s.heap.objs.size + 1) s.heap.objs.size 0 .none := by
    have z := Heap.get?_push_size (s.heap.push { cls := .type "tuple_iterator", data := .fields #[.ref l, .int 0 0] })
      (o := { cls := .type "enumerate", data := .fields #[.none, .bool false, .ref s.heap.objs.size, rawInt 0, .none, .none] }) rfl
    rw [hz] at z
    exact z
  refine ⟨⟨_, he, rfl⟩, h _ he ⟨_, Heap.get?_push_of_some _ (Heap.get?_push_size _ rfl), rfl, rfl⟩ (by rw [Heap.size_push, hz]) fun b o x => Heap.get?_push_of_some _ (Heap.get?_push_of_some _ x)⟩
end
/-- the tuple at a, each item in a new pair -/
def IteT (K : PySem.W.Frag) (a : Addr) : It :=
  ⟨fun i H => ∃ (xs : List V) (x : V), SqT K H a xs ∧ xs[i]? = some x, fun i H v H' => ∃ T x, v = .ref T ∧ H T = none ∧ H' = upd H T (.tup [.int (i : Nat), x]) ∧ ∀ xs, SqT K H a xs → xs[i]? = some x, fun i H => ∃ xs : List V, SqT K H a xs ∧ xs.length = i⟩
theorem turn_enumT {P : Program} {w : World} {K : PySem.W.Frag} {elts : List Expr} {kk : Nat} {tpos : Pos} (a e it : Addr) :
    Turn P w K (.Tuple elts kk tpos) (IteT K a) [e, it] e (fun i h => (∃ old, IsEnum h e it ((i : Nat) : Int) old) ∧ h.IsTupleIter it a i ∧ e ≠ it ∧ a ≠ it ∧ e ≠ a) where
  mem := by simp
  obj := fun i h st b hb => by
    obtain ⟨⟨old, he⟩, ⟨o, ho, hc, hd⟩, _⟩ := st
    have e' : b = e ∨ b = it := by simpa using hb
    rcases e' with z | z
    · rw [z]; exact ⟨_, he, fun v q => nomatch q⟩
    · rw [z]; exact ⟨o, ho, fun v q => by rw [hd] at q; cases q⟩
  keep := fun i h h' st k => by
    obtain ⟨⟨old, he⟩, hi, hne⟩ := st
    exact ⟨⟨old, k e (by simp) _ he⟩, hi.at fun o q => k it (by simp) o q, hne⟩
  item := by
    intro X hP hw hK hc i pins s σ H E I hf st hg
    subst hP hw hK
    obtain ⟨⟨old, he⟩, hit, hne, hai, hea⟩ := st
    obtain ⟨xs, x, hq, hx⟩ := hg
    obtain ⟨its, rv, p, hz⟩ := I.tuple hq
    obtain ⟨u, hu, ru⟩ := rv.get hx
    have p : s.heap.IsTuple a its.toArray := p
    have hel : e < s.heap.objs.size := Heap.lt_size he
    have hil : it < s.heap.objs.size := by obtain ⟨_, q, _⟩ := hit; exact Heap.lt_size q
    have hlt : i < its.toArray.size := by
      have z : i < its.length := List.getElem?_eq_some_iff.mp hu |>.1
      simpa using z
    refine wpAny_pyNext_enum_itemD (Draws.tuple (A := X.A.in1) (show X.A.in1.handled = none from I.ok.hd hc) it a hai its.toArray) he ⟨hit, p⟩ hlt hne (by simp [hne, hea]) fun u' h' tk hP ho hst' hT hsz hk => ?_
    have eu : u' = u := by
      have z : its.toArray[i]? = some u := by simpa using hu
      rw [z] at hP
      exact (Option.some.inj hP).symm
    subst eu
    have hit' := hst'.1
    refine ⟨_, rfl, wpAny_letOwnedTupleGo_enum (s := { s with heap := h', toks := tk + 1 }) ho fun h'' he' sb => ?_⟩
    have hT2 : h''.get? s.heap.objs.size = some { cls := .type "tuple", data := .seq #[.int i tk, u'] } := (sb.2 _ (Nat.ne_of_gt hel)).trans hT
    have new : ObjOk X.prog X.w (upd H s.heap.objs.size (.tup [.int (i : Nat), x])) h'' s.heap.objs.size (.tup [.int (i : Nat), x]) :=
      ⟨by show 2 ≤ sizeLine; decide, [.int i tk, u'], .cons ⟨_, rfl⟩ (.cons ru .nil), ⟨_, hT2, rfl, _, rfl⟩⟩
    have I1 : Inv X pins σ (upd H s.heap.objs.size (.tup [.int (i : Nat), x])) { s with heap := h'', toks := tk + 1 } :=
      I.turnedNew (ch := [e, it]) (fun b ob hb q => (sb.2 b (fun z => hb (by simp [z]))).trans (hk b ob (fun z => hb (by simp [z])) (fun z => hb (by simp [z])) q)) hf (Nat.le_refl _) new
    refine ⟨.ref s.heap.objs.size, _, I1, rfl, ⟨_, x, rfl, I.hok.fresh (Nat.le_refl _), rfl, fun ys hy => by rw [I.tuple_inj hy hq]; exact hx⟩, ⟨⟨u', ?_⟩, hit'.at fun o q => (sb.2 it (Ne.symm hne)).trans q, hne, hai, hea⟩, fun b hb => ?_⟩
    · have e1 : ((i + 1 : Nat) : Int) = (i : Int) + 1 := by omega
      rw [e1]; exact he'
    · have hb' : b < s.heap.objs.size := by
        have e' : b = e ∨ b = it := by simpa using hb
        rcases e' with z | z
        · rw [z]; exact hel
        · rw [z]; exact hil
      rw [upd_ne (Nat.ne_of_lt hb')]
      exact (hf b hb).1
  done := by
    intro X hP hw hK hc i pins s σ H E I hf st hg
    subst hP hw hK
    obtain ⟨⟨old, he⟩, hit, hne, hai, hea⟩ := st
    obtain ⟨xs, hq, hx⟩ := hg
    obtain ⟨its, rv, p, hz⟩ := I.tuple hq
    have p : s.heap.IsTuple a its.toArray := p
    obtain ⟨f0, f1, f2, f3, f4, f5⟩ := hf it (by simp)
    have hl := rv.length
    have ez : i = its.toArray.size := by simp; omega
    subst ez
    exact wpAny_pyNext_enum_endD (Draws.tuple (A := X.A.in1) (show X.A.in1.handled = none from I.ok.hd hc) it a hai its.toArray) he ⟨hit, p⟩ fun h' eb => ⟨rfl, I.turned (t' := s.toks) (fun b o hb q => eb b o hb q) f0 f1 f3 f4 f5⟩
  self := fun A i s Q E st h => let ⟨⟨_, he⟩, _⟩ := st; wpAny_pyIter_enum he h
def iEnumT (K : PySem.W.Frag) (ta : TA) : TI := fun σ H R => ta σ H fun vs H1 => ∃ a xs, vs = [.ref a] ∧ SqT K H1 a xs ∧ R (IteT K a) H1
theorem pi_enumT {X : Cx} {e : Expr} {ta : TA} {p pos tpos : Pos} {elts : List Expr} {kk : Nat} (hg : Gl X "enumerate") (hm : X.mg "enumerate" = none) (ha : PA X [e] ta) (hs : starEach [e] X.env = [(false, eval e X.env)] := by rfl) :
    PI X (.Tuple elts kk tpos) (.Call (.Name "enumerate" p) [e] [] pos) (iEnumT X.K ta) := by
  refine ⟨fun pins s σ H R I h => ?_⟩
  refine Call_ (ld_blt I hg hm boot_enumerate (PyProof.Rows.callWith_type1 (thn (ha.run pos pins s σ H _ I h) fun us s1 ⟨vs, H1, I1, r1, q1⟩ => ?_) hs rfl))
  obtain ⟨a, xs, ex, hq, q⟩ := q1
  subst ex
  cases r1 with
  | cons r rr =>
    cases rr
    cases r
    obtain ⟨its, rv, p', hz⟩ := I1.tuple hq
    have p' : s1.heap.IsTuple a its.toArray := p'
    have al : a < s1.heap.objs.size := by obtain ⟨o, q, _⟩ := p'; exact Heap.lt_size q
    refine enum_tup p' fun h' he hit hsz hk => wpAny_pyIter_enum he ?_
    have I2 : Inv X pins σ H1 { s1 with heap := h' } := I1.kept (t' := s1.toks) hk
    refine ⟨s1.heap.objs.size + 1, [s1.heap.objs.size + 1, s1.heap.objs.size], _, _, H1, rfl, I2, turn_enumT a (s1.heap.objs.size + 1) s1.heap.objs.size, ⟨⟨.none, he⟩, hit, Nat.succ_ne_self _, Nat.ne_of_lt al, Nat.ne_of_gt (Nat.lt_succ_of_lt al)⟩, fun b hb => ?_, q⟩
    have e' : b = s1.heap.objs.size + 1 ∨ b = s1.heap.objs.size := by simpa using hb
    have hle : s1.heap.objs.size ≤ b := by
      rcases e' with z | z
      · rw [z]; exact Nat.le_add_right _ _
      · rw [z]; exact Nat.le_refl _
    exact I1.fpOk hle (I1.hok.fresh hle)
end Ow

/-! len(set(xs)), xs a list or a tuple of unlike texts -/
namespace Ow
open PySem PySem.Spec PyProof.Rows L2
theorem nd_take {xs : List Str} (nd : xs.Nodup) {i : Nat} (hi : i < xs.length) : (xs.take i).any (· == xs.getD i Str.empty) = false := by
  have e : xs.getD i Str.empty = xs[i] := by rw [List.getD_eq_getElem?_getD, List.getElem?_eq_getElem hi]; rfl
  refine Bool.eq_false_iff.mpr fun h => ?_
  obtain ⟨y, hy, q⟩ := List.any_eq_true.mp h
  rw [e] at q
  have ey : y = xs[i] := beq_iff_eq.mp q
  obtain ⟨j, hj, e3⟩ := List.getElem_of_mem hy
  have hl : j < i := by rw [List.length_take] at hj; omega
  rw [List.getElem_take] at e3
  exact List.pairwise_iff_getElem.mp nd j i (Nat.lt_trans hl hi) hi hl (e3.trans ey)
theorem any_take {xs : List Str} {i : Nat} (hi : i < xs.length) (k : Str) : (xs.take (i + 1)).any (· == k) = ((xs.take i).any (· == k) || decide (k = xs.getD i Str.empty)) := by
  have e : xs.getD i Str.empty = xs[i] := by rw [List.getD_eq_getElem?_getD, List.getElem?_eq_getElem hi]; rfl
  rw [List.take_succ, List.getElem?_eq_getElem hi, List.any_append, e]
  congr 1
  show ((xs[i] == k) || false) = decide (k = xs[i])
  rw [Bool.or_false]
  by_cases z : k = xs[i]
  · rw [z]; simp
  · rw [decide_eq_false z]; exact beq_eq_false_iff_ne.mpr fun y => z y.symm
section
variable {prog : Program} {w : World} {A : Around} {R : Result → Shared → Prop} {I : Addr} {fp wr : List Addr} {G : Array GenState → Array GenState → Prop} {n : Nat} {P : Nat → Value → Prop} {St : Nat → Shared → Prop}
theorem grow_set (Wk : WalksS prog w A.in1 I fp wr G n P St) (D : Addr) (dF : D ∉ fp) (xs : List Str) (len : xs.length = n) (nd : xs.Nodup) (few : n < 64) (val : ∀ i v, P i v → ∃ t, v = .str (xs.getD i Str.empty) t) :
    ∀ (k i : Nat) (s : Shared), n - i = k → i ≤ n → St i s → s.heap.SetOf (PySem.strKind prog w) D (fun z => (xs.take i).any (· == z)) i →
      (∀ s', Moved (D :: wr) G s s' → s'.heap.SetOf (PySem.strKind prog w) D (fun z => (xs.take n).any (· == z)) n → R (.ok (.ret .none)) s') → codeAny (model prog w) A (.builtin "set.update.loop" ⟨[.ref D, .ref I], []⟩) R s := by
  have dW : D ∉ wr := fun z => dF (Wk.sub _ z)
  have up : ∀ b ∈ wr, b ∈ D :: wr := fun b z => List.mem_cons_of_mem _ z
  intro k
  induction k with
  | zero =>
    intro i s hk hi st hS fin
    have ein : i = n := by omega
    subst ein
    refine codeAny_builtin PyProof.Rows.F.entry_set_update_loop ?_
    rw [Around.under_plainId PyProof.Rows.F.plain_set_update_loop _]
    show wpAny _ A.in1 (pyNext (.ref I) >>= _) _ _ s
    refine wpAny_bind (Wk.done s _ _ st fun s' mv => wpAny_pure (fin s' (mv.mono up) ?_))
    obtain ⟨o, es, ep, t, ho, more⟩ := hS
    exact ⟨o, es, ep, t, mv.heap D _ dW ho, more⟩
  | succ k ih =>
    intro i s hk hi st hS fin
    have lt : i < n := by omega
    have lx : i < xs.length := by omega
    refine codeAny_builtin PyProof.Rows.F.entry_set_update_loop ?_
    rw [Around.under_plainId PyProof.Rows.F.plain_set_update_loop _]
    show wpAny _ A.in1 (pyNext (.ref I) >>= _) _ _ s
    refine wpAny_bind (Wk.item i s _ _ lt st fun v s' pv st' mv => ?_)
    obtain ⟨t, rfl⟩ := val i v pv
    have hS' : s'.heap.SetOf (PySem.strKind prog w) D (fun z => (xs.take i).any (· == z)) i := by
      obtain ⟨o, es, ep, tb, ho, more⟩ := hS
      exact ⟨o, es, ep, tb, mv.heap D _ dW ho, more⟩
    show wpAny _ A.in1 (holding [Value.str (xs.getD i Str.empty) t] (setAdd D (.str (xs.getD i Str.empty) t)) >>= _) _ _ s'
    refine wpAny_bind (wpAny_holding ?_)
    unfold setAdd
    refine wpAny_holding (wpAny_bind ((PySem.strKind prog w).pyHash (k := xs.getD i Str.empty) (strKind_is _ _ _ _) ?_))
    refine wpAny_setAddHashed_of (knd := PySem.strKind prog w) (s := { s' with toks := s'.toks + 1 }) (strKind_is _ _ _ _) rfl hS' (by unfold scanBound; omega) fun h' sb grown => ?_
    have grown' : h'.SetOf (PySem.strKind prog w) D (fun z => (xs.take (i + 1)).any (· == z)) (i + 1) :=
      PyProof.Rows.SetOf_congr grown (fun z => (any_take lx z).symm) (by rw [nd_take nd lx]; rfl)
    refine wpAny_pure ⟨plainId_quiet PyProof.Rows.F.plain_set_update_loop _, ih (i + 1) _ (by omega) lt (Wk.frame _ s' _ _ st' (Nat.le_succ _) fun b hb o e => ?_) grown' fun s'' mv2 done => ?_⟩
    · rw [sb.2 b (fun z : b = D => dF (by rw [← z]; exact hb))]
      exact e
    · refine fin s'' (Moved.trans Wk.gtrans ((mv.mono up).then_heap (Nat.le_succ _) fun b o hb e => ?_) mv2) done
      rw [sb.2 b (fun z : b = D => hb (by rw [z]; exact List.mem_cons_self))]
      exact e
end
section
variable {prog : Program} {w : World} {A : Around} {E : Value → Shared → Prop} {s : Shared}
/-- what set() asks of its argument -/
structure Src (prog : Program) (w : World) (T TI : String) (l : Addr) (items : Array Value) (Is : Heap → Prop) (At : Addr → Nat → Heap → Prop) : Prop where
  keep : ∀ h h', Is h → (∀ b o, h.get? b = some o → h'.get? b = some o) → Is h'
  obj : ∀ h, Is h → ∃ o, h.get? l = some o ∧ o.cls = .type T
  s1 : isSubtype (.type T) (.type "set") = pure false
  s2 : isSubtype (.type T) (.type "frozenset") = pure false
  s3 : (Value.type T == Value.type "dict") = false
  iter : ∀ (A' : Around) (E : Value → Shared → Prop) (s : Shared) (Q : Value → Shared → Prop), Is s.heap → Q (.ref s.heap.objs.size) { s with heap := s.heap.push { cls := .type TI, data := .fields #[.ref l, .int 0 0] } } → wpAny (model prog w) A' (pyIter (.ref l)) Q E s
  walk : ∀ (A' : Around) (I : Addr), A'.handled = none → l ≠ I → Walks prog w A' I [I, l] [I] items.size (fun i v => items[i]? = some v) (fun i h => At I i h ∧ Is h)
  at0 : ∀ (h : Heap) (I : Addr), h.get? I = some { cls := .type TI, data := .fields #[.ref l, .int 0 0] } → At I 0 h
set_option maxHeartbeats 3200000 in
theorem set_from {T TI : String} {l : Addr} {items : Array Value} {Is : Heap → Prop} {At : Addr → Nat → Heap → Prop} {xs : List Str} {Q : Value → Shared → Prop} (S : Src prog w T TI l items Is At) (hh : A.handled = none) (is0 : Is s.heap) (ia : StrsAre items.toList xs) (nd : xs.Nodup) (few : xs.length < 64)
    (h : ∀ (h' : Heap) (tk : Nat), h'.SetOf (PySem.strKind prog w) s.heap.objs.size (fun z => (xs.take items.size).any (· == z)) items.size → (∀ b o, b < s.heap.objs.size → s.heap.get? b = some o → h'.get? b = some o) → Q (.ref s.heap.objs.size) { s with heap := h', toks := tk }) :
    wpAny (model prog w) A (call (.type "set") [.ref l]) Q E s := by
  obtain ⟨c, tl, hmro⟩ := PySem.F.called_set.mro
  have hmade := PySem.F.called_set.made
  have hsub := PySem.F.called_set.sub
  refine wpAny_call (codeAny_of_tree ?_)
  show wpAny _ _ (callAny (.type "set") _) _ _ _
  refine wpAny_pure ⟨Code.quiet_builtin _ (by decide +kernel), codeAny_builtin PySem.F.entry_type_call ?_⟩
  rw [Around.under_plain (weight_type_call_type "set" [.ref l] []) rfl]
  have k1 := PySem.F.called_set.notType
  have k2 := PySem.F.called_set.canCreate
  have k3 := PySem.F.typeCall_set_1 (.ref l)
  repeat (any_goals (first | assumption | wp_step))
  refine codeAny_mono (code_set_new_1 (.ref l) (E := E) (Q₁ := fun obj z => ∃ led : Bool, obj = .ref s.heap.objs.size ∧ z = { s with heap := s.heap.push { cls := .type "set", dict := none, data := .set #[] 0 (.fresh 0 0 led) } }) fun led => ⟨led, rfl, rfl⟩) fun r z hr => ?_
  cases r with
  | error e => exact hr
  | ok fl =>
    cases fl with
    | ret obj =>
      obtain ⟨led, rfl, rfl⟩ := hr
      generalize eN : s.heap.push { cls := .type "set", dict := none, data := .set #[] 0 (.fresh 0 0 led) } = N
      have at_ : N.get? s.heap.objs.size = some { cls := .type "set", dict := none, data := .set #[] 0 (.fresh 0 0 led) } := by rw [← eN]; exact Heap.get?_push_size _ rfl
      have zN : N.objs.size = s.heap.objs.size + 1 := by rw [← eN]; exact Heap.size_push ..
      have kN : ∀ b o, s.heap.get? b = some o → N.get? b = some o := fun b o e => by rw [← eN]; exact Heap.get?_push_of_some _ e
      have ty : Shared.TypeIs { s with heap := N } (.ref s.heap.objs.size) "set" := ⟨_, at_, rfl⟩
      have isN : Is N := S.keep _ _ is0 kN
      have hli := PySem.F.called_set.init.lookup
      have hbi := PySem.F.called_set.init.bind (.ref s.heap.objs.size)
      repeat (any_goals (first | assumption | wp_step))
      refine codeAny_mono (codeAny_call_builtin (R := wants (fun r z => r = .none ∧ ∃ h' tk, z = { s with heap := h', toks := tk } ∧ h'.SetOf (PySem.strKind prog w) s.heap.objs.size (fun y => (xs.take items.size).any (· == y)) items.size ∧
          (∀ b o, b < s.heap.objs.size → s.heap.get? b = some o → h'.get? b = some o)) E) PySem.F.called_set.init.plain PySem.F.entry_set_init (check_set_init_1 ty ?_)) fun r₂ z hr₂ => ?_
      · obtain ⟨ol, gl, cl⟩ := S.obj _ isN
        obtain ⟨ocls, odict, odata, oslots⟩ := ol
        simp only at cl
        subst cl
        have g1 := S.s1
        have g2 := S.s2
        have g3 := S.s3
        unfold Builtin.«set.__init__» noKeywords Builtin.Frozenset.updateFrom
        generalize ePI : pyIter = PI
        wp_walk
        subst ePI
        refine S.iter _ _ _ _ isN ?_
        refine wpAny_bind (wpAny_runValue ?_)
        have lS : l < s.heap.objs.size := by
          obtain ⟨o, g, _⟩ := S.obj _ is0
          exact Heap.lt_size g
        have h3 : A.in1.in1.in1.handled = none := by simp [hh]
        have lI : l ≠ N.objs.size := by rw [zN]; exact Nat.ne_of_lt (Nat.lt_succ_of_lt lS)
        have dF : s.heap.objs.size ∉ [N.objs.size, l] := by
          rw [zN]
          simp only [List.mem_cons, List.mem_singleton, List.not_mem_nil, or_false, not_or]
          exact ⟨Nat.ne_of_lt (Nat.lt_succ_self _), Nat.ne_of_gt lS⟩
        have len : xs.length = items.size := by rw [← StrsAre.len_eq ia, Array.length_toList]
        have gI : (N.push { cls := .type TI, data := .fields #[.ref l, .int 0 0] }).get? N.objs.size = some { cls := .type TI, data := .fields #[.ref l, .int 0 0] } := Heap.get?_push_size _ rfl
        have kI : ∀ b o, N.get? b = some o → (N.push { cls := .type TI, data := .fields #[.ref l, .int 0 0] }).get? b = some o := fun b o e => Heap.get?_push_of_some _ e
        refine grow_set ((S.walk _ _ h3 lI).toS) s.heap.objs.size dF xs len nd (by rw [← len]; exact few) (fun i v hv => SS.strs_at ia i v (by rw [Array.getElem?_toList]; exact hv)) (items.size - 0) 0 _ (by omega) (Nat.zero_le _)
          ⟨S.at0 _ _ gI, S.keep _ _ isN kI⟩ ?start0 ?fin0
        case start0 => exact PyProof.Rows.SetOf_congr ((PyProof.Rows.setObjOf_fresh (knd := PySem.strKind prog w) led).setOf (kI _ _ at_) (by unfold scanBound; omega)) (fun _ => rfl) rfl
        case fin0 =>
          intro s' mv hS'
          obtain ⟨h', g', d', tk', os'⟩ := s'
          have eg : g' = s.gens := mv.gens
          have ed : d' = s.drawn := mv.drawn
          have eo : os' = s.os := mv.os
          subst eg; subst ed; subst eo
          show wpAny _ _ _ _ _ _
          refine wpAny_pure ?_
          show wpAny _ _ (ret Value.none) _ _ _
          refine wpAny_pure ⟨rfl, h', tk', rfl, hS', fun b o hb e => mv.heap b o ?_ (kI _ _ (kN _ _ e))⟩
          simp only [List.mem_cons, List.mem_singleton, List.not_mem_nil, or_false, not_or]
          exact ⟨Nat.ne_of_lt hb, by show b ≠ N.objs.size; rw [zN]; exact Nat.ne_of_lt (Nat.lt_succ_of_lt hb)⟩
      · cases r₂ with
        | error e => exact hr₂
        | ok fl₂ =>
          cases fl₂ with
          | ret r =>
            obtain ⟨rfl, h', tk, rfl, hS', hk'⟩ := hr₂
            repeat (any_goals (first | assumption | wp_step))
            exact h _ _ hS' hk'
          | _ => exact hr₂.elim
    | _ => exact hr.elim
end
end Ow

namespace Ow
open PySem PySem.Spec PyProof.Rows L2
section
variable {prog : Program} {w : World}
theorem src_list (l : Addr) (items : Array Value) : Src prog w "list" "list_iterator" l items (fun h => h.IsList l items) (fun I i h => h.IsListIter I l i) where
  keep := fun h h' z k => z.at fun o e => k l o e
  obj := fun h z => by obtain ⟨o, g, c, _⟩ := z; exact ⟨o, g, c⟩
  s1 := PySem.F.sub_list_set
  s2 := PySem.F.sub_list_frozenset
  s3 := by decide
  iter := fun A' E s Q z q => wpAny_pyIter_list z q
  walk := fun A' I hh ne => Walks.list hh I l ne items
  at0 := fun h I g => ⟨_, g, rfl, rfl⟩
theorem src_tup (l : Addr) (items : Array Value) : Src prog w "tuple" "tuple_iterator" l items (fun h => h.IsTuple l items) (fun I i h => h.IsTupleIter I l i) where
  keep := fun h h' z k => z.at fun o e => k l o e
  obj := fun h z => by obtain ⟨o, g, c, _⟩ := z; exact ⟨o, g, c⟩
  s1 := PySem.F.sub_tuple_set
  s2 := PySem.F.sub_tuple_frozenset
  s3 := by decide
  iter := fun A' E s Q z q => wpAny_pyIter_tuple z q
  walk := fun A' I hh ne => Walks.tuple hh I l ne items
  at0 := fun h I g => ⟨_, g, rfl, rfl⟩
end
section
variable {X : Cx}
def tLenSetT (K : PySem.W.Frag) (ta : TE) : TE := fun σ H Q => ta σ H fun x H1 => ∃ l, ∃ xs : List Str, x = .ref l ∧ (SqL K H1 l (xs.map V.str) ∨ SqT K H1 l (xs.map V.str)) ∧ xs.Nodup ∧ xs.length < 64 ∧ Q (.int xs.length) H1
theorem pe_lenSetT {a : Expr} {ta : TE} {p p2 q pos : Pos} (hc : X.calm = true) (hg : Gl X "len") (hm : X.mg "len" = none) (hg2 : Gl X "set") (hm2 : X.mg "set" = none) (ha : PE X a ta)
    (na : starEach [a] X.env = (false, eval a X.env) :: starEach [] X.env := by rfl) : PE X (.Call (.Name "len" p) [.Call (.Name "set" p2) [a] [] q] [] pos) (tLenSetT X.K ta) := by
  refine ⟨fun pins s σ H Q I h => ?_⟩
  refine Call_ (ld_blt I hg hm boot_len (PyProof.Rows.callWith_builtin1 (PyProof.Rows.args_cons ?_ rfl) rfl rfl))
  refine Call_ (ld_blt I hg2 hm2 boot_set ?_)
  refine PyProof.Rows.callWith_type1 (PyProof.Rows.args_cons (thn (ha.run pins s σ H _ I h) fun v s1 ⟨x, H1, I1, r1, q1⟩ => PyProof.Rows.args_nil ?_) na) na rfl
  obtain ⟨l, xs, rfl, hq, nd, few, q1⟩ := q1
  cases r1
  have last : ∀ (its : List Value), Vals (xs.map V.str) its → ∀ (h' : Heap) (tk : Nat), h'.SetOf (PySem.strKind X.prog X.w) s1.heap.objs.size (fun z => (xs.take its.toArray.size).any (· == z)) its.toArray.size →
      (∀ b o, b < s1.heap.objs.size → s1.heap.get? b = some o → h'.get? b = some o) →
      wpAny (model X.prog X.w) X.A (spliced (backTo pos (starEach [] X.env))) (fun vs z => wpAny (model X.prog X.w) X.A (call (.builtin "len") (Value.ref s1.heap.objs.size :: vs)) (EP X pins σ Q) X.xe z) X.xe { s1 with heap := h', toks := tk } := fun its r h' tk hS hk => by
    refine PyProof.Rows.args_nil ?_
    have hl : its.toArray.size = xs.length := by rw [List.size_toArray, ← r.length, List.length_map]
    rw [hl] at hS
    obtain ⟨o, es, ep, t, ho, hex, hd, _, _, _, hf, hn⟩ := hS
    have I2 : Inv X pins σ H1 { s1 with heap := h', toks := tk } := I1.kept fun b o e => hk b o (Heap.lt_size e) e
    exact call_len_set ho hex hd hf (by rw [hn]; omega) ⟨.int xs.length, H1, I2.tok _, ⟨_, by rw [hn]⟩, q1⟩
  rcases hq with hq | hq
  · obtain ⟨its, r, pl, hz⟩ := I1.list hq
    exact set_from (src_list l its.toArray) (I1.ok.hd hc) pl.isList (by simpa using strsAre_of r) nd few fun h' tk hS hk => last its r h' tk hS hk
  · obtain ⟨its, r, pl, hz⟩ := I1.tuple hq
    exact set_from (src_tup l its.toArray) (I1.ok.hd hc) pl (by simpa using strsAre_of r) nd few fun h' tk hS hk => last its r h' tk hS hk
end
end Ow

/-! C(e, ..) and o.m(e, ..) where the def may raise: what it lets out depends on the slots. -/
namespace Xv
open PySem PySem.Spec PyProof.Rows L2
section
variable {X : Cx} {CX : CXT} {k : Nat} {f C : Addr} {fd : FuncData} {ps : List Str} {sp : Sp} {E : L2.St → XK} {x m : Str} {p pos apos : Pos} {e o : Expr} {es : List Expr} {ta : TE} {t : TA}
theorem run_makeS {pins : List (Addr × Obj)} {σ : L2.St} {H : Hp} {s : Shared} {Q : VK} {us : List Value} {vs : List V} (M : Mk X.K C f) (F : FnOk X.prog X.w X.K X.mg X.base CX k f fd ps sp) (hr : Room (k + 1) X.A) (hb : Binds X.K fd ps [])
    (hx : PassesAt CX X σ (E σ)) (I : Inv X pins σ H s) (r : Vals vs us)
    (h : ∀ x dx, H x = none → H dx = none → dx ≠ x → sp (.ref x :: vs) (upd (upd H dx (.own x)) x (.ins C dx [])) (fun v H2 => v = .non ∧ Q (.ref x) H2) (E σ)) :
    wpAny (model X.prog X.w) X.A (call (.ref C) us) (EP X pins σ Q) X.xe s := by
  have hq := h (s.heap.objs.size + 1) s.heap.objs.size (I.hok.fresh (Nat.le_succ _)) (I.hok.fresh (Nat.le_refl _)) (Nat.ne_of_lt (Nat.lt_succ_self _))
  have I2 := Inv.made (C := C) I
  have r2 : Vals (V.ref (s.heap.objs.size + 1) :: vs) (Value.ref (s.heap.objs.size + 1) :: us) := .cons rfl r
  have hl : (Value.ref (s.heap.objs.size + 1) :: us).length = ps.length := by
    rw [← r2.length]
    exact F.len _ _ _ _ hq
  have b := hb _ (Value.ref (s.heap.objs.size + 1) :: us) I2.kIn (by rw [List.append_nil]; exact hl)
  rw [List.append_nil] at b
  refine wpAny_call (make_map (f := f) I.kIn M.makes M.init (beq_iff_eq.mp M.fn) (codeAny_mono (F.run _ X.stack _ _ ⟨Value.ref (s.heap.objs.size + 1) :: us, []⟩ (Value.ref (s.heap.objs.size + 1) :: us) _ _ (E σ) (hr.make C us [])
    (I2.env0.make C us []) b r2 hq) fun r s' hq' => ?_))
  cases r with
  | error e => exact hx pins _ _ e s' I2 hq'
  | ok fl =>
    cases fl with
    | ret u =>
      obtain ⟨v, H', I3, rv, ev, q3⟩ := I2.after hq'
      subst ev
      exact ⟨rv, ⟨V.ref (s.heap.objs.size + 1), H', I3, rfl, q3⟩⟩
    | next => exact False.elim hq'
    | brk => exact False.elim hq'
    | cont => exact False.elim hq'
/-- C(..), its __init__ may raise -/
def tMakeS (C : Addr) (sp : Sp) (E : L2.St → XK) (t : TA) : TE := fun σ H Q => t σ H fun vs H1 => ∀ x dx, H1 x = none → H1 dx = none → dx ≠ x →
  sp (.ref x :: vs) (upd (upd H1 dx (.own x)) x (.ins C dx [])) (fun v H2 => v = .non ∧ Q (.ref x) H2) (E σ)
theorem pe_makeS (M : Mk X.K C f) (F : FnOk X.prog X.w X.K X.mg X.base CX k f fd ps sp) (hr : Room (k + 1) X.A) (hg : Gl X x) (hm : X.mg x = some (.ref C)) (hb : Binds X.K fd ps []) (hx : ∀ σ, PassesAt CX X σ (E σ))
    (ha : PA X (e :: es) t) (hdb : (x == ("__debug__" : Str)) = false := by decide) (he : starEach (e :: es) X.env = (false, eval e X.env) :: starEach es X.env := by rfl) (hpl : (backTo pos (starEach es X.env)).any (·.1) = false := by rfl) :
    PE X (.Call (.Name x p) (e :: es) [] pos) (tMakeS C sp E t) := by
  refine ⟨fun pins s σ H Q I h => ?_⟩
  refine wpAny_Call_Name_kw (ld_glob I hg hm ?_ hdb)
  refine PySem.W.callWith_K (h₀ := X.base) I.ok.mod.kin M.kp (thn (ha.run pos pins s σ H _ I h) fun us s1 ⟨vs, H1, I1, r, q⟩ => ⟨I1.kIn, ?_⟩) he hpl
  exact run_makeS M F hr hb (hx σ) I1 r q
/-- o.m(..), m may raise -/
def tMethE (C : Addr) (m : Str) (sp : Sp) (E : L2.St → XK) (ta : TE) (t : TA) : TE := fun σ H Q => ta σ H fun x H1 => ∃ a dx fs, x = .ref a ∧ H1 a = some (.ins C dx fs) ∧ fs.lookup m = none ∧
  t σ H1 fun vs H2 => sp (x :: vs) H2 Q (E σ)
theorem pe_methE {pl : Sem Bool} (he : PE X o ta) (c : Cls X.K C) (hm : Meth X.K C m f) (F : FnOk X.prog X.w X.K X.mg X.base CX k f fd ps sp) (hr : Room k X.A) (hb : Binds X.K fd ps []) (hx : ∀ σ, PassesAt CX X σ (E σ)) (ha : PA X (e :: es) t)
    (hst : starEach (e :: es) X.env = (false, eval e X.env) :: starEach es X.env := by rfl) (hpl : (backTo pos (starEach es X.env)).any (·.1) = false := by rfl)
    (ht : eval (.Call (.Attribute o m apos) (e :: es) [] pos) X.env = (do
      let ov ← eval o X.env
      standAt apos.atName
      let (f, first) ← holding [ov] (getMethod ov m pl)
      callWith pos f first (backTo pos (starEach (e :: es) X.env)) (backToKw pos (keywordEach [] X.env))) := by rfl) :
    PE X (.Call (.Attribute o m apos) (e :: es) [] pos) (tMethE C m sp E ta t) := by
  refine ⟨fun pins s σ H Q I h => ?_⟩
  refine PySem.W.methodCall_KW (pl := pl) (thn (he.run pins s σ H _ I h) fun u s1 ⟨x, H1, I1, rx, a, dx, fs, ex, ea, l, q⟩ => ?_) ht
  subst ex
  obtain rfl : u = Value.ref a := rx
  refine getmeth_ok I1 ea c hm l ?_
  refine PySem.W.callWith_K (first := [.ref a]) (h₀ := X.base) I.ok.mod.kin hm.kp (thn (ha.run pos pins s1 σ H1 _ I1 q) fun us s2 ⟨vs, H2, I2, r, q2⟩ => ⟨I2.kIn, ?_⟩) hst hpl
  exact run_fnS (us := .ref a :: us) (vs := .ref a :: vs) F hr hb (hx σ) I2 (.cons rfl r) q2
end
end Xv

/-! len(set(xs)), xs a list or a tuple of unlike texts -/
namespace Ow
open PySem PySem.Spec PyProof.Rows L2
/-- how many unlike ones stand ahead of place i -/
def cn (xs : List Str) : Nat → Nat
  | 0 => 0
  | i + 1 => if (xs.take i).any (· == xs.getD i Str.empty) = true then cn xs i else cn xs i + 1
theorem cn_le (xs : List Str) : ∀ i, cn xs i ≤ i
  | 0 => Nat.le_refl _
  | i + 1 => by
    have := cn_le xs i
    unfold cn
    split <;> omega
section
variable {prog : Program} {w : World} {A : Around} {R : Result → Shared → Prop} {I : Addr} {fp wr : List Addr} {G : Array GenState → Array GenState → Prop} {n : Nat} {P : Nat → Value → Prop} {St : Nat → Shared → Prop}
theorem grow_setD (Wk : WalksS prog w A.in1 I fp wr G n P St) (D : Addr) (dF : D ∉ fp) (xs : List Str) (len : xs.length = n) (few : n < 64) (val : ∀ i v, P i v → ∃ t, v = .str (xs.getD i Str.empty) t) :
    ∀ (k i : Nat) (s : Shared), n - i = k → i ≤ n → St i s → s.heap.SetOf (PySem.strKind prog w) D (fun z => (xs.take i).any (· == z)) (cn xs i) →
      (∀ s', Moved (D :: wr) G s s' → s'.heap.SetOf (PySem.strKind prog w) D (fun z => (xs.take n).any (· == z)) (cn xs n) → R (.ok (.ret .none)) s') → codeAny (model prog w) A (.builtin "set.update.loop" ⟨[.ref D, .ref I], []⟩) R s := by
  have dW : D ∉ wr := fun z => dF (Wk.sub _ z)
  have up : ∀ b ∈ wr, b ∈ D :: wr := fun b z => List.mem_cons_of_mem _ z
  intro k
  induction k with
  | zero =>
    intro i s hk hi st hS fin
    have ein : i = n := by omega
    subst ein
    refine codeAny_builtin PyProof.Rows.F.entry_set_update_loop ?_
    rw [Around.under_plainId PyProof.Rows.F.plain_set_update_loop _]
    show wpAny _ A.in1 (pyNext (.ref I) >>= _) _ _ s
    refine wpAny_bind (Wk.done s _ _ st fun s' mv => wpAny_pure (fin s' (mv.mono up) ?_))
    obtain ⟨o, es, ep, t, ho, more⟩ := hS
    exact ⟨o, es, ep, t, mv.heap D _ dW ho, more⟩
  | succ k ih =>
    intro i s hk hi st hS fin
    have lt : i < n := by omega
    have lx : i < xs.length := by omega
    refine codeAny_builtin PyProof.Rows.F.entry_set_update_loop ?_
    rw [Around.under_plainId PyProof.Rows.F.plain_set_update_loop _]
    show wpAny _ A.in1 (pyNext (.ref I) >>= _) _ _ s
    refine wpAny_bind (Wk.item i s _ _ lt st fun v s' pv st' mv => ?_)
    obtain ⟨t, rfl⟩ := val i v pv
    have hS' : s'.heap.SetOf (PySem.strKind prog w) D (fun z => (xs.take i).any (· == z)) (cn xs i) := by
      obtain ⟨o, es, ep, tb, ho, more⟩ := hS
      exact ⟨o, es, ep, tb, mv.heap D _ dW ho, more⟩
    show wpAny _ A.in1 (holding [Value.str (xs.getD i Str.empty) t] (setAdd D (.str (xs.getD i Str.empty) t)) >>= _) _ _ s'
    refine wpAny_bind (wpAny_holding ?_)
    unfold setAdd
    refine wpAny_holding (wpAny_bind ((PySem.strKind prog w).pyHash (k := xs.getD i Str.empty) (strKind_is _ _ _ _) ?_))
    refine wpAny_setAddHashed_of (knd := PySem.strKind prog w) (s := { s' with toks := s'.toks + 1 }) (strKind_is _ _ _ _) rfl hS' (by have := cn_le xs i; unfold scanBound; omega) fun h' sb grown => ?_
    have grown' : h'.SetOf (PySem.strKind prog w) D (fun z => (xs.take (i + 1)).any (· == z)) (cn xs (i + 1)) :=
      PyProof.Rows.SetOf_congr grown (fun z => (any_take lx z).symm) (by first | rfl | (unfold cn; split <;> simp_all))
    refine wpAny_pure ⟨plainId_quiet PyProof.Rows.F.plain_set_update_loop _, ih (i + 1) _ (by omega) lt (Wk.frame _ s' _ _ st' (Nat.le_succ _) fun b hb o e => ?_) grown' fun s'' mv2 done => ?_⟩
    · rw [sb.2 b (fun z : b = D => dF (by rw [← z]; exact hb))]
      exact e
    · refine fin s'' (Moved.trans Wk.gtrans ((mv.mono up).then_heap (Nat.le_succ _) fun b o hb e => ?_) mv2) done
      rw [sb.2 b (fun z : b = D => hb (by rw [z]; exact List.mem_cons_self))]
      exact e
end
section
variable {prog : Program} {w : World} {A : Around} {E : Value → Shared → Prop} {s : Shared}
set_option maxHeartbeats 3200000 in
theorem set_fromD {T TI : String} {l : Addr} {items : Array Value} {Is : Heap → Prop} {At : Addr → Nat → Heap → Prop} {xs : List Str} {Q : Value → Shared → Prop} (S : Src prog w T TI l items Is At) (hh : A.handled = none) (is0 : Is s.heap) (ia : StrsAre items.toList xs) (few : xs.length < 64)
    (h : ∀ (h' : Heap) (tk : Nat), h'.SetOf (PySem.strKind prog w) s.heap.objs.size (fun z => (xs.take items.size).any (· == z)) (cn xs items.size) → (∀ b o, b < s.heap.objs.size → s.heap.get? b = some o → h'.get? b = some o) → Q (.ref s.heap.objs.size) { s with heap := h', toks := tk }) :
    wpAny (model prog w) A (call (.type "set") [.ref l]) Q E s := by
  obtain ⟨c, tl, hmro⟩ := PySem.F.called_set.mro
  have hmade := PySem.F.called_set.made
  have hsub := PySem.F.called_set.sub
  refine wpAny_call (codeAny_of_tree ?_)
  show wpAny _ _ (callAny (.type "set") _) _ _ _
  refine wpAny_pure ⟨Code.quiet_builtin _ (by decide +kernel), codeAny_builtin PySem.F.entry_type_call ?_⟩
  rw [Around.under_plain (weight_type_call_type "set" [.ref l] []) rfl]
  have k1 := PySem.F.called_set.notType
  have k2 := PySem.F.called_set.canCreate
  have k3 := PySem.F.typeCall_set_1 (.ref l)
  repeat (any_goals (first | assumption | wp_step))
  refine codeAny_mono (code_set_new_1 (.ref l) (E := E) (Q₁ := fun obj z => ∃ led : Bool, obj = .ref s.heap.objs.size ∧ z = { s with heap := s.heap.push { cls := .type "set", dict := none, data := .set #[] 0 (.fresh 0 0 led) } }) fun led => ⟨led, rfl, rfl⟩) fun r z hr => ?_
  cases r with
  | error e => exact hr
  | ok fl =>
    cases fl with
    | ret obj =>
      obtain ⟨led, rfl, rfl⟩ := hr
      generalize eN : s.heap.push { cls := .type "set", dict := none, data := .set #[] 0 (.fresh 0 0 led) } = N
      have at_ : N.get? s.heap.objs.size = some { cls := .type "set", dict := none, data := .set #[] 0 (.fresh 0 0 led) } := by rw [← eN]; exact Heap.get?_push_size _ rfl
      have zN : N.objs.size = s.heap.objs.size + 1 := by rw [← eN]; exact Heap.size_push ..
      have kN : ∀ b o, s.heap.get? b = some o → N.get? b = some o := fun b o e => by rw [← eN]; exact Heap.get?_push_of_some _ e
      have ty : Shared.TypeIs { s with heap := N } (.ref s.heap.objs.size) "set" := ⟨_, at_, rfl⟩
      have isN : Is N := S.keep _ _ is0 kN
      have hli := PySem.F.called_set.init.lookup
      have hbi := PySem.F.called_set.init.bind (.ref s.heap.objs.size)
      repeat (any_goals (first | assumption | wp_step))
      refine codeAny_mono (codeAny_call_builtin (R := wants (fun r z => r = .none ∧ ∃ h' tk, z = { s with heap := h', toks := tk } ∧ h'.SetOf (PySem.strKind prog w) s.heap.objs.size (fun y => (xs.take items.size).any (· == y)) (cn xs items.size) ∧
          (∀ b o, b < s.heap.objs.size → s.heap.get? b = some o → h'.get? b = some o)) E) PySem.F.called_set.init.plain PySem.F.entry_set_init (check_set_init_1 ty ?_)) fun r₂ z hr₂ => ?_
      · obtain ⟨ol, gl, cl⟩ := S.obj _ isN
        obtain ⟨ocls, odict, odata, oslots⟩ := ol
        simp only at cl
        subst cl
        have g1 := S.s1
        have g2 := S.s2
        have g3 := S.s3
        unfold Builtin.«set.__init__» noKeywords Builtin.Frozenset.updateFrom
        generalize ePI : pyIter = PI
        wp_walk
        subst ePI
        refine S.iter _ _ _ _ isN ?_
        refine wpAny_bind (wpAny_runValue ?_)
        have lS : l < s.heap.objs.size := by
          obtain ⟨o, g, _⟩ := S.obj _ is0
          exact Heap.lt_size g
        have h3 : A.in1.in1.in1.handled = none := by simp [hh]
        have lI : l ≠ N.objs.size := by rw [zN]; exact Nat.ne_of_lt (Nat.lt_succ_of_lt lS)
        have dF : s.heap.objs.size ∉ [N.objs.size, l] := by
          rw [zN]
          simp only [List.mem_cons, List.mem_singleton, List.not_mem_nil, or_false, not_or]
          exact ⟨Nat.ne_of_lt (Nat.lt_succ_self _), Nat.ne_of_gt lS⟩
        have len : xs.length = items.size := by rw [← StrsAre.len_eq ia, Array.length_toList]
        have gI : (N.push { cls := .type TI, data := .fields #[.ref l, .int 0 0] }).get? N.objs.size = some { cls := .type TI, data := .fields #[.ref l, .int 0 0] } := Heap.get?_push_size _ rfl
        have kI : ∀ b o, N.get? b = some o → (N.push { cls := .type TI, data := .fields #[.ref l, .int 0 0] }).get? b = some o := fun b o e => Heap.get?_push_of_some _ e
        refine grow_setD ((S.walk _ _ h3 lI).toS) s.heap.objs.size dF xs len (by rw [← len]; exact few) (fun i v hv => SS.strs_at ia i v (by rw [Array.getElem?_toList]; exact hv)) (items.size - 0) 0 _ (by omega) (Nat.zero_le _)
          ⟨S.at0 _ _ gI, S.keep _ _ isN kI⟩ ?start0 ?fin0
        case start0 => exact PyProof.Rows.SetOf_congr ((PyProof.Rows.setObjOf_fresh (knd := PySem.strKind prog w) led).setOf (kI _ _ at_) (by unfold scanBound; omega)) (fun _ => rfl) rfl
        case fin0 =>
          intro s' mv hS'
          obtain ⟨h', g', d', tk', os'⟩ := s'
          have eg : g' = s.gens := mv.gens
          have ed : d' = s.drawn := mv.drawn
          have eo : os' = s.os := mv.os
          subst eg; subst ed; subst eo
          show wpAny _ _ _ _ _ _
          refine wpAny_pure ?_
          show wpAny _ _ (ret Value.none) _ _ _
          refine wpAny_pure ⟨rfl, h', tk', rfl, hS', fun b o hb e => mv.heap b o ?_ (kI _ _ (kN _ _ e))⟩
          simp only [List.mem_cons, List.mem_singleton, List.not_mem_nil, or_false, not_or]
          exact ⟨Nat.ne_of_lt hb, by show b ≠ N.objs.size; rw [zN]; exact Nat.ne_of_lt (Nat.lt_succ_of_lt hb)⟩
      · cases r₂ with
        | error e => exact hr₂
        | ok fl₂ =>
          cases fl₂ with
          | ret r =>
            obtain ⟨rfl, h', tk, rfl, hS', hk'⟩ := hr₂
            repeat (any_goals (first | assumption | wp_step))
            exact h _ _ hS' hk'
          | _ => exact hr₂.elim
    | _ => exact hr.elim
end
end Ow

namespace Ow
open PySem PySem.Spec PyProof.Rows L2
section
variable {X : Cx}
def tLenSetD (K : PySem.W.Frag) (ta : TE) : TE := fun σ H Q => ta σ H fun x H1 => ∃ l, ∃ xs : List Str, x = .ref l ∧ (SqL K H1 l (xs.map V.str) ∨ SqT K H1 l (xs.map V.str)) ∧ xs.length < 64 ∧ Q (.int (cn xs xs.length)) H1
theorem pe_lenSetD {a : Expr} {ta : TE} {p p2 q pos : Pos} (hc : X.calm = true) (hg : Gl X "len") (hm : X.mg "len" = none) (hg2 : Gl X "set") (hm2 : X.mg "set" = none) (ha : PE X a ta)
    (na : starEach [a] X.env = (false, eval a X.env) :: starEach [] X.env := by rfl) : PE X (.Call (.Name "len" p) [.Call (.Name "set" p2) [a] [] q] [] pos) (tLenSetD X.K ta) := by
  refine ⟨fun pins s σ H Q I h => ?_⟩
  refine Call_ (ld_blt I hg hm boot_len (PyProof.Rows.callWith_builtin1 (PyProof.Rows.args_cons ?_ rfl) rfl rfl))
  refine Call_ (ld_blt I hg2 hm2 boot_set ?_)
  refine PyProof.Rows.callWith_type1 (PyProof.Rows.args_cons (thn (ha.run pins s σ H _ I h) fun v s1 ⟨x, H1, I1, r1, q1⟩ => PyProof.Rows.args_nil ?_) na) na rfl
  obtain ⟨l, xs, rfl, hq, few, q1⟩ := q1
  cases r1
  have last : ∀ (its : List Value), Vals (xs.map V.str) its → ∀ (h' : Heap) (tk : Nat), h'.SetOf (PySem.strKind X.prog X.w) s1.heap.objs.size (fun z => (xs.take its.toArray.size).any (· == z)) (cn xs its.toArray.size) →
      (∀ b o, b < s1.heap.objs.size → s1.heap.get? b = some o → h'.get? b = some o) →
      wpAny (model X.prog X.w) X.A (spliced (backTo pos (starEach [] X.env))) (fun vs z => wpAny (model X.prog X.w) X.A (call (.builtin "len") (Value.ref s1.heap.objs.size :: vs)) (EP X pins σ Q) X.xe z) X.xe { s1 with heap := h', toks := tk } := fun its r h' tk hS hk => by
    refine PyProof.Rows.args_nil ?_
    have hl : its.toArray.size = xs.length := by rw [List.size_toArray, ← r.length, List.length_map]
    rw [hl] at hS
    obtain ⟨o, es, ep, t, ho, hex, hd, _, _, _, hf, hn⟩ := hS
    have I2 : Inv X pins σ H1 { s1 with heap := h', toks := tk } := I1.kept fun b o e => hk b o (Heap.lt_size e) e
    have := cn_le xs xs.length
    exact call_len_set ho hex hd hf (by rw [hn]; omega) ⟨.int (cn xs xs.length), H1, I2.tok _, ⟨_, by rw [hn]⟩, q1⟩
  rcases hq with hq | hq
  · obtain ⟨its, r, pl, hz⟩ := I1.list hq
    exact set_fromD (src_list l its.toArray) (I1.ok.hd hc) pl.isList (by simpa using strsAre_of r) few fun h' tk hS hk => last its r h' tk hS hk
  · obtain ⟨its, r, pl, hz⟩ := I1.tuple hq
    exact set_fromD (src_tup l its.toArray) (I1.ok.hd hc) pl (by simpa using strsAre_of r) few fun h' tk hS hk => last its r h' tk hS hk
end
end Ow

/-! what walks lists and tuples alike -/
namespace Ow
open PySem PySem.Spec PyProof.Rows L2
def SqA (K : PySem.W.Frag) (H : Hp) (a : Addr) (xs : List V) : Prop := SqL K H a xs ∨ SqT K H a xs
theorem sqt_same {K : PySem.W.Frag} {H H' : Hp} {a : Addr} {xs : List V} (s : Same H H') (h : SqT K H a xs) : SqT K H' a xs :=
  h.elim (fun h => .inl (h.elim (fun h => .inl (s _ _ h)) fun ⟨o, h⟩ => .inr ⟨o, s _ _ h⟩)) fun h => .inr h
theorem SqA.same {K : PySem.W.Frag} {H H' : Hp} {a : Addr} {xs : List V} (s : Same H H') (h : SqA K H a xs) : SqA K H' a xs := h.elim (fun h => .inl (s.seq h)) fun h => .inr (sqt_same s h)
theorem walk_enumT {K : PySem.W.Frag} {a : Addr} {xs : List V} : Walk (IteT K a) xs.length (fun H => SqT K H a xs) (YPair (fun i => some (.int (i : Nat))) (fun i => xs[i]?)) := by
  refine ⟨fun i _ hi q => ⟨xs, xs[i], q, by simp [hi]⟩, fun _ q => ⟨xs, q, rfl⟩, fun i H v H' _ q y => ?_⟩
  obtain ⟨T, x, h1, h2, h3, h4⟩ := y
  exact ⟨T, .int (i : Nat), x, h1, h2, h3, rfl, h4 xs q⟩
/-- for x in a list or a tuple: the walker is one that gives xs[i] while the heap only grows -/
def iSeqA (K : PySem.W.Frag) (tl : TE) : TI := fun σ H R => tl σ H fun x H1 => ∃ a xs, x = .ref a ∧ SqA K H1 a xs ∧ ∀ (J : It) (G : Hp → Prop), Walk J xs.length G (YAt xs) → (∀ H', Same H1 H' → G H') → R J H1
theorem pi_seqA {X : Cx} {tg l : Expr} {tl : TE} (hl : PE X l tl) : PI X tg l (iSeqA X.K tl) := by
  refine ⟨fun pins s σ H R I h => ?_⟩
  refine thn (hl.run pins s σ H _ I h) fun v s1 ⟨x, H1, I1, r1, a, xs, e, hA, q⟩ => ?_
  subst e
  cases r1
  rcases hA with hq | hq
  · obtain ⟨its, rv, p, hz⟩ := I1.list hq
    refine wpAny_pyIter_list p.isList ?_
    refine ⟨s1.heap.objs.size, [s1.heap.objs.size], _, _, H1, rfl, I1.kept (t' := s1.toks) fun b o e => Heap.get?_push_of_some _ e, turn_list a _, ⟨_, Heap.get?_push_size _ rfl, rfl, rfl⟩, fun b hb => ?_, q _ _ walk_list fun H' z => z.seq hq⟩
    have e : b = s1.heap.objs.size := by simpa using hb
    subst e
    exact I1.fpOk (Nat.le_refl _) (I1.hok.fresh (Nat.le_refl _))
  · obtain ⟨its, rv, p, hz⟩ := I1.tuple hq
    refine wpAny_pyIter_tuple (show s1.heap.IsTuple a its.toArray from p) ?_
    refine ⟨s1.heap.objs.size, [s1.heap.objs.size], _, _, H1, rfl, I1.kept (t' := s1.toks) fun b o e => Heap.get?_push_of_some _ e, turn_tuple a _, ⟨_, Heap.get?_push_size _ rfl, rfl, rfl⟩, fun b hb => ?_, q _ _ walk_tup fun H' z => sqt_same z hq⟩
    have e : b = s1.heap.objs.size := by simpa using hb
    subst e
    exact I1.fpOk (Nat.le_refl _) (I1.hok.fresh (Nat.le_refl _))
/-- for i, x in enumerate(a list or a tuple) -/
def iEnumA (K : PySem.W.Frag) (ta : TA) : TI := fun σ H R => ta σ H fun vs H1 => ∃ a xs, vs = [.ref a] ∧ SqA K H1 a xs ∧ ∀ (J : It) (G : Hp → Prop), Walk J xs.length G (YPair (fun i => some (.int (i : Nat))) (fun i => xs[i]?)) → (∀ H', Same H1 H' → G H') → R J H1
theorem pi_enumA {X : Cx} {e : Expr} {ta : TA} {p pos tpos : Pos} {elts : List Expr} {kk : Nat} (hg : Gl X "enumerate") (hm : X.mg "enumerate" = none) (ha : PA X [e] ta) (hs : starEach [e] X.env = [(false, eval e X.env)] := by rfl) :
    PI X (.Tuple elts kk tpos) (.Call (.Name "enumerate" p) [e] [] pos) (iEnumA X.K ta) := by
  refine ⟨fun pins s σ H R I h => ?_⟩
  refine Call_ (ld_blt I hg hm boot_enumerate (PyProof.Rows.callWith_type1 (thn (ha.run pos pins s σ H _ I h) fun us s1 ⟨vs, H1, I1, r1, q1⟩ => ?_) hs rfl))
  obtain ⟨a, xs, ex, hA, q⟩ := q1
  subst ex
  cases r1 with
  | cons r rr =>
    cases rr
    cases r
    have fpo : ∀ b, b ∈ [s1.heap.objs.size + 1, s1.heap.objs.size] → s1.heap.objs.size ≤ b := fun b hb => by
      have e' : b = s1.heap.objs.size + 1 ∨ b = s1.heap.objs.size := by simpa using hb
      omega
    rcases hA with hq | hq
    · obtain ⟨its, rv, p', hz⟩ := I1.list hq
      refine call_enumerate_list p'.isList fun h' he hit hsz hk => wpAny_pyIter_enum he ?_
      have I2 : Inv X pins σ H1 { s1 with heap := h' } := I1.kept (t' := s1.toks) hk
      exact ⟨s1.heap.objs.size + 1, [s1.heap.objs.size + 1, s1.heap.objs.size], _, _, H1, rfl, I2, turn_enum a (s1.heap.objs.size + 1) s1.heap.objs.size, ⟨⟨.none, he⟩, hit, Nat.succ_ne_self _⟩, fun b hb => I1.fpOk (fpo b hb) (I1.hok.fresh (fpo b hb)), q _ _ walk_enum fun H' z => z.seq hq⟩
    · obtain ⟨its, rv, p', hz⟩ := I1.tuple hq
      have p' : s1.heap.IsTuple a its.toArray := p'
      have al : a < s1.heap.objs.size := by obtain ⟨o, q, _⟩ := p'; exact Heap.lt_size q
      refine enum_tup p' fun h' he hit hsz hk => wpAny_pyIter_enum he ?_
      have I2 : Inv X pins σ H1 { s1 with heap := h' } := I1.kept (t' := s1.toks) hk
      exact ⟨s1.heap.objs.size + 1, [s1.heap.objs.size + 1, s1.heap.objs.size], _, _, H1, rfl, I2, turn_enumT a (s1.heap.objs.size + 1) s1.heap.objs.size, ⟨⟨.none, he⟩, hit, Nat.succ_ne_self _, Nat.ne_of_lt al, Nat.ne_of_gt (Nat.lt_succ_of_lt al)⟩, fun b hb => I1.fpOk (fpo b hb) (I1.hok.fresh (fpo b hb)), q _ _ walk_enumT fun H' z => sqt_same z hq⟩
end Ow

/-! xs[::-1] of a list, of a tuple -/
namespace Ow
open PySem PySem.Spec PyProof.Rows L2 HT
section
variable {prog : Program} {w : World} {A : Around} {E : Value → Shared → Prop} {s : Shared}
theorem adj_rev (n : Nat) : Builtin.Slice.sliceAdjust none none (-1) (n : Int) = ((n : Int) - 1, -1) := by
  unfold Builtin.Slice.sliceAdjust
  simp
theorem plc_rev (n : Nat) : Builtin.Slice.slicePlaces ((n : Int) - 1) (-1) (-1) = n := by
  unfold Builtin.Slice.slicePlaces
  by_cases h : n = 0
  · subst h
    simp
  · have g : ((n : Int) - 1) > -1 := by omega
    simp
    omega
theorem appl_rev {sl : Addr} {tk : Tok} {n : Nat} {Q : Int × Int × Nat → Shared → Prop} (hs : s.heap.IsSliceOf sl .none .none (.int (-1) tk)) (q : Q ((n : Int) - 1, -1, n) s) :
    wpAny (model prog w) A (Builtin.Slice.sliceApplied (.ref sl) (pure (n : Int))) Q E s := by
  obtain ⟨ob, e1, e2, e3⟩ := id hs
  unfold Builtin.Slice.sliceApplied Builtin.Slice.sliceFields
  refine wpAny_bind (wpAny_bind (wpAny_field e1 e3 (x := .none) rfl (wpAny_bind (wpAny_field e1 e3 (x := .none) rfl (wpAny_bind (wpAny_field e1 e3 (x := .int (-1) tk) rfl (wpAny_pure ?_)))))))
  refine wpAny_bind (slicePart_int ?_)
  show wpAny _ _ (if ((-1 : Int) == 0) = true then _ else _) _ _ s
  rw [if_neg (by decide)]
  refine wpAny_bind (slicePart_none (wpAny_bind (slicePart_none (wpAny_bind (wpAny_pure ?_)))))
  show wpAny _ _ (match Builtin.Slice.sliceAdjust none none (-1) (n : Int) with | (l, h) => pure (l, (-1 : Int), Builtin.Slice.slicePlaces l h (-1))) _ _ s
  rw [adj_rev]
  show wpAny _ _ (pure ((n : Int) - 1, (-1 : Int), Builtin.Slice.slicePlaces ((n : Int) - 1) (-1) (-1))) _ _ s
  rw [plc_rev]
  exact wpAny_pure q
theorem pick_rev (xs : Array Value) : ((List.range xs.size).filterMap fun (m : Nat) => xs[((xs.size : Int) - 1 + (m : Int) * -1).toNat]?).toArray = xs.toList.reverse.toArray := by
  refine congrArg List.toArray ?_
  have e : ∀ n, n ≤ xs.size → (List.range n).filterMap (fun (m : Nat) => xs[((xs.size : Int) - 1 + (m : Int) * -1).toNat]?) = xs.toList.reverse.take n := by
    intro n
    induction n with
    | zero => intro _; rfl
    | succ n ih =>
      intro hn
      have j : ((xs.size : Int) - 1 + (n : Int) * -1).toNat = xs.size - 1 - n := by omega
      have l2 : xs.size - 1 - n < xs.size := by omega
      have r : xs.toList.reverse[n]? = some xs[xs.size - 1 - n] := by
        rw [List.getElem?_reverse (by simp; omega)]
        simp [Array.getElem?_eq_getElem l2]
      have q : xs[((xs.size : Int) - 1 + (n : Int) * -1).toNat]? = some xs[xs.size - 1 - n] := by
        rw [j]
        exact Array.getElem?_eq_getElem l2
      rw [List.range_succ, List.filterMap_append, ih (by omega), List.take_add_one, r]
      simp only [List.filterMap_cons, q, List.filterMap_nil]
      rfl
  rw [e xs.size (Nat.le_refl _)]
  exact List.take_of_length_le (by simp)
theorem item_rev {t sl : Addr} {items : Array Value} {tk : Tok} {Q : Value → Shared → Prop} (ht : IsTup s.heap t items) (hs : s.heap.IsSliceOf sl .none .none (.int (-1) tk))
    (q : Q (.ref s.heap.objs.size) { s with heap := s.heap.push { cls := .type "tuple", data := .seq items.toList.reverse.toArray } }) (hz : items.size ≤ sizeLine) : wpAny (model prog w) A (getItem (.ref t) (.ref sl)) Q E s := by
  have zz : sizeOk (.seq items.toList.reverse.toArray) := by
    show items.toList.reverse.toArray.size ≤ sizeLine
    simpa using hz
  obtain ⟨ob, e1, e2, e3⟩ := id hs
  have ty : s.TypeIs (.ref sl) "slice" := ⟨ob, e1, e2⟩
  unfold getItem
  try with_reducible refine wpAny_holding ?_
  first | refine wpAny_bind (wpAny_pure ?_) | skip
  refine wpAny_bind (wpAny_sequenceKey ht.typeIs (by decide) ?_)
  refine wpAny_bind (wpAny_callSpecial?_slot (name := Str.ofString "__getitem__") ht.typeIs PyProof.Rows.slot_tuple_getitem (wpAny_call_entry PyProof.Rows.slot_tuple_getitem ht.typeIs entry_tuple_getitem ?_ (args_tuple_getitem _ _)))
  show wpAny _ _ (Builtin.Tuple.tupleItemsOf (.ref t) >>= _) _ _ s
  refine wpAny_bind (tupleItemsOf_ ht (wpAny_bind (wpAny_typeOf ty ?_)))
  rw [if_pos (by decide)]
  refine wpAny_bind (appl_rev hs ?_)
  have no : ¬ ((((items.size : Int) - 1) == 0 && (-1 : Int) == 1 && items.size == items.size) = true) := by simp
  show wpAny _ _ (if (((items.size : Int) - 1) == 0 && (-1 : Int) == 1 && items.size == items.size) = true then _ else _) _ _ s
  rw [if_neg no, pick_rev]
  first
    | exact wpAny_bind (m := Builtin.Tuple.tupleExact _) (wpAny_newObj_type (wpAny_pure ⟨_, rfl, wpAny_pure q⟩) zz)
    | exact wpAny_bind (m := Builtin.Tuple.tupleExact _) (wpAny_newObj_type (wpAny_bind (wpAny_pure (wpAny_pure ⟨_, rfl, wpAny_pure q⟩))) zz)
    | exact wpAny_bind (wpAny_bind (m := Builtin.Tuple.tupleExact _) (wpAny_newObj_type (wpAny_pure (wpAny_pure ⟨_, rfl, wpAny_pure q⟩)) zz))
end
/-- the items the other way round -/
def rRev (K : PySem.W.Frag) : V → Hp → VK → Prop := fun x H Q => ∃ a xs, x = .ref a ∧ ((SqL K H a xs ∧ ∀ p, H p = none → Q (.ref p) (upd H p (.lst xs.reverse))) ∨ (SqT K H a xs ∧ ∀ p, H p = none → Q (.ref p) (upd H p (.tup xs.reverse))))
def tRev (K : PySem.W.Frag) (te ts : TE) : TE := fun σ H Q => te σ H fun x H1 => ts σ H1 fun i H2 => i = .int (-1) ∧ rRev K x H2 Q
section
variable {X : Cx} {e st : Expr} {te ts : TE} {pos p2 : Pos}
theorem pe_rev (he : PE X e te) (hst : PE X st ts) : PE X (.Subscript e (.Slice none none (some st) p2) pos) (tRev X.K te ts) := by
  refine ⟨fun pins s σ H Q I h => ?_⟩
  refine Subscript_ (thn (he.run pins s σ H _ I h) fun v s1 ⟨x, H1, I1, rx, q1⟩ => ?_)
  refine wpAny_Slice ?_
  simp only [evalPart_none, evalPart_some]
  refine wpAny_pure (wpAny_pure ?_)
  refine thn (hst.run pins s1 σ H1 _ I1 q1) fun vs s2 ⟨i, H2, I2, ri, ei, a, xs, ex, q2⟩ => ?_
  subst ei ex
  obtain ⟨tk, rfl⟩ := ri
  obtain rfl : v = Value.ref a := rx
  have I3 : Inv X pins σ H2 { s2 with heap := s2.heap.push { cls := .type "slice", data := .fields #[.none, .none, .int (-1) tk] } } := I2.kept (t' := s2.toks) fun b ob q => Heap.get?_push_of_some _ q
  have hsl : (s2.heap.push { cls := .type "slice", data := .fields #[.none, .none, .int (-1) tk] }).IsSliceOf s2.heap.objs.size .none .none (.int (-1) tk) := Heap.IsSliceOf.new ..
  show wpAny (model X.prog X.w) X.A (subscriptTail e (.Slice none none (some st) p2) (.ref a) (.ref s2.heap.objs.size)) (EP X pins σ Q) X.xe { s2 with heap := s2.heap.push { cls := .type "slice", data := .fields #[.none, .none, .int (-1) tk] } }
  rcases q2 with ⟨hx, q⟩ | ⟨hx, q⟩
  · obtain ⟨its, rv, pl, hz⟩ := I3.list hx
    refine tail_any pl.isList.typeIs slot_list_getitem.lookup (wpAny_getItem_list_slice (hsz := by rw [List.size_toArray, ← rv.length]; exact hz) pl.isList hsl .none .none (.int (-1) tk) (by decide) ?_) (by with_unfolding_all rfl)
    rw [PySem.W.krv_pick]
    refine ⟨.ref _, _, I3.laid (t' := s2.toks) (o := .lst xs.reverse) (fun b ob q => Heap.get?_push_of_some _ q) (Nat.le_refl _) ?_, rfl, q _ (I3.hok.fresh (Nat.le_refl _))⟩
    exact ⟨by rw [List.length_reverse]; exact hz, _, _, rv.reverse, Heap.get?_push_size _ rfl⟩
  · obtain ⟨its, rv, ht, hz⟩ := I3.tuple hx
    refine tail_any ht.typeIs PyProof.Rows.slot_tuple_getitem.lookup (item_rev ht hsl ?_ (by rw [List.size_toArray, ← rv.length]; exact hz)) (by with_unfolding_all rfl)
    refine ⟨.ref _, _, I3.laid (t' := s2.toks) (o := .tup xs.reverse) (fun b ob q => Heap.get?_push_of_some _ q) (Nat.le_refl _) ?_, rfl, q _ (I3.hok.fresh (Nat.le_refl _))⟩
    exact ⟨by rw [List.length_reverse]; exact hz, _, rv.reverse, IsTup.new _ _⟩
end
end Ow

/-! values of any kind: in a tuple of texts, their kind, their text; several except clauses with a name -/
namespace PySem.SeqAt
open AutoSeq1 (wpAny_loadPart')
open MeetsSeq
theorem dict_eq_declines_str (l : Addr) (es : Array DictEntry) (n : Nat) (dd : Option Addr) (sl : Array (Option Value)) (b : Str) (u : Tok) :
    Meets (Builtin.«dict.__eq__» ⟨[.ref l, .str b u], []⟩) (fun _ R s => s.heap.get? l = some { cls := .type "dict", dict := dd, data := .dict es n, slots := sl } ∧ R (.ok (.ret .notImplemented)) s) :=
  .of_wp fun prog w A R s h => by obtain ⟨hp, g, d, tk, os⟩ := s; obtain ⟨hl, h⟩ := h; have f1 := F.sub_str_dict; wp_walk using wpAny_loadPart' hl, wpAny_load hl; exact ⟨_, rfl, h⟩
theorem str_eq_declines_dict (b : Str) (u : Tok) (l : Addr) (c : Value) (es : Array DictEntry) (n : Nat) (dd : Option Addr) (sl : Array (Option Value)) :
    Meets (Builtin.«str.__eq__» ⟨[.str b u, .ref l], []⟩) (fun _ R s => s.heap.get? l = some { cls := c, dict := dd, data := .dict es n, slots := sl } ∧ R (.ok (.ret .notImplemented)) s) :=
  .of_wp fun prog w A R s h => by obtain ⟨hp, g, d, tk, os⟩ := s; obtain ⟨hl, h⟩ := h; wp_walk using wpAny_loadPart' hl, wpAny_load hl; exact ⟨_, rfl, h⟩
theorem RcAt.str_dict {A : Around} {s : Shared} {l : Addr} {o : Obj} {es : Array DictEntry} {n : Nat} (b : Str) (u : Tok) (ho : s.heap.get? l = some o) (hc : o.cls = .type "dict") (hd : o.data = .dict es n) (hu : A.units < cLine) : RcAt A s (.str b u) (.ref l) false := fun prog w E Q h => by
  obtain ⟨cls, dd, data, sl⟩ := o
  simp only at hc hd
  subst hc hd
  exact rc_eq_decline_or (k := false) (typeIs_str s b u) ⟨_, ho, rfl⟩ (by decide) F.sub_dict_str F.slot_str_eq F.slot_dict_eq_refl
    (fun _ hq => call_meets F.slot_str_eq (typeIs_str s b u) F.entry_str_eq (F.args_str_eq_2 _ _) (str_eq_declines_dict b u l (.type "dict") es n dd sl) ⟨ho, hq⟩)
    (fun _ hq => call_meets F.slot_dict_eq_refl ⟨_, ho, rfl⟩ F.entry_dict_eq (F.args_dict_eq_2 _ _) (dict_eq_declines_str l es n dd sl b u) ⟨ho, hq⟩)
    (fun _ hq => wpAny_of_eq (rfl : isSame (.str b u) (.ref l) = pure false) hq) (.inr hu) h
theorem EqAt.str_dict {A : Around} {s : Shared} {l : Addr} {o : Obj} {es : Array DictEntry} {n : Nat} (b : Str) (u : Tok) (ho : s.heap.get? l = some o) (hc : o.cls = .type "dict") (hd : o.data = .dict es n) (hu : A.units < cLine) : EqAt A s (.str b u) (.ref l) false := fun prog w E Q h => by
  unfold eqBool
  refine wpAny_holding ?_
  refine wpAny_ite_split (fun hab => absurd (eq_of_beq hab) nofun) (fun _ => ?_)
  exact wpAny_bind (RcAt.str_dict b u ho hc hd hu prog w E _ (wpAny_truthy_bool h))
end PySem.SeqAt
namespace Xv
open PySem PySem.Spec PyProof.Rows L2
/-- a value of any kind -/
inductive Any (K : PySem.W.Frag) (H : Hp) : V → PyData → Prop
  | non : Any K H .non .none
  | bl (b : Bool) : Any K H (.bl b) (.bool b)
  | int (i : Int) (h : i.natAbs.log2 < 1920) : Any K H (.int i) (.int i)
  | str (x : Str) : Any K H (.str x) (.str x)
  | lst {a : Addr} (xs : List Str) (h : SqL K H a (xs.map V.str)) : Any K H (.ref a) (.list (xs.map PyData.str))
  | tup {a : Addr} (xs : List Str) (h : SqT K H a (xs.map V.str)) : Any K H (.ref a) (.tuple (xs.map PyData.str))
  | dic {a : Addr} (e : H a = some (.dK [])) : Any K H (.ref a) (.dict [])
theorem dpa_str {K : PySem.W.Frag} {H : Hp} : ∀ xs : List Str, DpAll K H (xs.map V.str) (xs.map PyData.str)
  | [] => .nil
  | x :: xs => .cons (.str x) (dpa_str xs)
theorem Any.dp {K : PySem.W.Frag} {H : Hp} {v : V} {d : PyData} (h : Any K H v d) : Dp K H v d ∨ ∃ a, v = .ref a ∧ d = .dict [] ∧ H a = some (.dK []) := by
  cases h with
  | non => exact .inl .non
  | bl b => exact .inl (.bl b)
  | int i h => exact .inl (.int i)
  | str x => exact .inl (.str x)
  | lst xs h => exact .inl (.lst h (dpa_str xs))
  | tup xs h => exact .inl (.tup h (dpa_str xs))
  | dic e => exact .inr ⟨_, rfl, rfl, e⟩
section
variable {X : Cx} {pins : List (Addr × Obj)} {σ : L2.St} {H : Hp} {s : Shared}
theorem dk_nil (I : Inv X pins σ H s) {a : Addr} (e : H a = some (.dK [])) : a ≠ sysModules ∧ ∃ o es n, s.heap.get? a = some o ∧ o.cls = .type "dict" ∧ o.data = .dict es n ∧ es.toList = [] := by
  obtain ⟨_, hd, vs, rel, o, es, ep, h1, h2, h3, _, h5, _⟩ := dk_rd I.hok (.inl e)
  refine ⟨beq_eq_false_iff_ne.mp hd, o, es, ep, h1, h2.1, h3, ?_⟩
  cases rel
  generalize hes : es.toList = l at h5
  cases h5
  rfl
theorem no_dicts : ∀ xs : List Str, PyData.hasDictAll (xs.map PyData.str) = false
  | [] => by simp [PyData.hasDictAll]
  | x :: xs => by simp [PyData.hasDictAll, PyData.hasDict, no_dicts xs]
theorem show_strs : ∀ xs : List Str, PyData.showableAll (xs.map PyData.str) = true
  | [] => by simp [PyData.showableAll]
  | x :: xs => by simp [PyData.showableAll, PyData.showable, show_strs xs]
theorem deep_strs : ∀ xs : List Str, PyData.depthAll (xs.map PyData.str) = 0
  | [] => by simp [PyData.depthAll]
  | x :: xs => by simp [PyData.depthAll, PyData.depth, deep_strs xs]
theorem Any.show {K : PySem.W.Frag} {v : V} {d : PyData} (h : Any K H v d) : d.showable = true ∧ d.depth ≤ 1 := by
  cases h with
  | non => exact ⟨by simp [PyData.showable], by simp [PyData.depth]⟩
  | bl b => exact ⟨by simp [PyData.showable], by simp [PyData.depth]⟩
  | int i h => exact ⟨by simpa [PyData.showable] using h, by simp [PyData.depth]⟩
  | str x => exact ⟨by simp [PyData.showable], by simp [PyData.depth]⟩
  | lst xs h => exact ⟨by simp [PyData.showable, show_strs], by simp [PyData.depth, deep_strs]⟩
  | tup xs h => exact ⟨by simp [PyData.showable, show_strs], by simp [PyData.depth, deep_strs]⟩
  | dic e => exact ⟨by simp [PyData.showable, PyData.showableKv], by simp [PyData.depth, PyData.depthKv]⟩
theorem Any.reads (I : Inv X pins σ H s) {v : V} {d : PyData} {u : Value} (h : Any X.K H v d) (r : RelV v u) : ∃ as, Reads s.heap u d as ∧ (d.hasDict = true → sysModules ∉ as) := by
  have go : Dp X.K H v d → d.hasDict = false → ∃ as, Reads s.heap u d as ∧ (d.hasDict = true → sysModules ∉ as) := fun g n => by
    obtain ⟨as, q⟩ := Dp.reads I d v u g r
    exact ⟨as, q, fun z => absurd (n.symm.trans z) (by simp)⟩
  cases h with
  | non => exact go .non (by simp [PyData.hasDict])
  | bl b => exact go (.bl b) (by simp [PyData.hasDict])
  | int i h => exact go (.int i) (by simp [PyData.hasDict])
  | str x => exact go (.str x) (by simp [PyData.hasDict])
  | lst xs h => exact go (.lst h (dpa_str xs)) (by simp [PyData.hasDict, no_dicts])
  | tup xs h => exact go (.tup h (dpa_str xs)) (by simp [PyData.hasDict, no_dicts])
  | @dic a e =>
    obtain rfl : u = Value.ref a := r
    obtain ⟨n, o, es, ep, h1, h2, h3, h4⟩ := dk_nil I e
    refine ⟨[a], Reads.dict (as := []) (bs := []) h1 h2 h3 (by rw [h4]; exact .nil) (by rw [h4]; exact .nil), fun _ z => n (List.mem_singleton.mp z).symm⟩
end
theorem Any.same {K : PySem.W.Frag} {H H' : Hp} {v : V} {d : PyData} (s : ∀ b o, H b = some o → H' b = some o) (h : Any K H v d) : Any K H' v d := by
  cases h with
  | non => exact .non
  | bl b => exact .bl b
  | int i h => exact .int i h
  | str x => exact .str x
  | lst xs h => exact .lst xs (h.elim (fun h => .inl (h.elim (fun h => .inl (s _ _ h)) fun ⟨o, h⟩ => .inr ⟨o, s _ _ h⟩)) fun h => .inr h)
  | tup xs h => exact .tup xs (h.elim (fun h => .inl (h.elim (fun h => .inl (s _ _ h)) fun ⟨o, h⟩ => .inr ⟨o, s _ _ h⟩)) fun h => .inr h)
  | dic e => exact .dic (s _ _ e)
/-! ### in a tuple of texts -/
def isTx (v : V) (xs : List Str) : Bool := xs.any fun z => decide (v = .str z)
def rInAny (K : PySem.W.Frag) : R2 := fun x y H Q => ∃ (d : PyData) (a : Addr) (xs : List Str), y = .ref a ∧ SqT K H a (xs.map V.str) ∧ Any K H x d ∧ Q (.bl (isTx x xs)) H
theorem eq_any {X : Cx} {pins : List (Addr × Obj)} {σ : L2.St} {H : Hp} {s : Shared} (I : Inv X pins σ H s) {A : Around} {v : V} {d : PyData} {u : Value} (z : Str) (t : Tok) (h : Any X.K H v d) (r : RelV v u) (hu : A.units < cLine) : SeqAt.EqAt A s (.str z t) u (decide (v = .str z)) := by
  cases h with
  | non => cases r; rw [decide_eq_false nofun]; exact .str_none z t
  | bl b => cases r; rw [decide_eq_false nofun]; exact .str_bool z t b
  | int i h => obtain ⟨k, rfl⟩ := r; rw [decide_eq_false nofun]; exact .str_int z t i k
  | str x =>
    obtain ⟨k, rfl⟩ := r
    have e := SeqAt.EqAt.str_str (A := A) (s := s) z t x k
    have : decide ((V.str x) = V.str z) = (z == x) := by
      by_cases q : z = x
      · subst q; simp
      · rw [decide_eq_false (fun w => q (V.str.inj w).symm), beq_eq_false_iff_ne.mpr q]
    rw [this]
    exact e
  | @lst a xs h =>
    obtain rfl : u = Value.ref a := r
    obtain ⟨its, _, ⟨o, n, h1, h2, _, h3⟩, _⟩ := I.list h
    rw [decide_eq_false nofun]
    exact .str_list z t ⟨o, h1, h2, n, h3⟩ hu
  | @tup a xs h =>
    obtain rfl : u = Value.ref a := r
    obtain ⟨its, _, ⟨o, h1, h2, n, h3⟩, _⟩ := I.tuple h
    rw [decide_eq_false nofun]
    exact .str_tuple z t ⟨o, h1, h2, n, h3⟩ hu
  | @dic a e =>
    obtain rfl : u = Value.ref a := r
    obtain ⟨_, o, es, ep, h1, h2, h3, _⟩ := dk_nil I e
    rw [decide_eq_false nofun]
    exact .str_dict z t h1 h2 h3 hu
def txE (v : V) : Value → Bool
  | .str z _ => decide (v = .str z)
  | _ => false
theorem any_tx (v : V) : ∀ {xs : List Str} {its : List Value}, Vals (xs.map V.str) its → its.any (txE v) = isTx v xs ∧ ∀ y ∈ its, ∃ z t, y = .str z t
  | [], _, r => by cases r; exact ⟨rfl, fun _ h => nomatch h⟩
  | x :: xs, _, .cons r rs => by
    obtain ⟨t, rfl⟩ := r
    obtain ⟨a, b⟩ := any_tx v rs
    refine ⟨?_, fun y hy => ?_⟩
    · show (txE v (.str x t) || List.any _ (txE v)) = (decide (v = .str x) || isTx v xs)
      rw [a]
      rfl
    · rcases List.mem_cons.mp hy with h | h
      · exact ⟨x, t, h⟩
      · exact b y h
theorem op_inAny {X : Cx} (hu : X.A.units + 1 < cLine) : OpR X (compareOp .In) (rInAny X.K) := by
  intro pins s σ H x y v u Q I rx ry ⟨d, a, xs, e, ht, hx, q⟩
  subst e
  obtain rfl : u = Value.ref a := ry
  obtain ⟨its, rv, ⟨o, h1, h2, n, h3⟩, _⟩ := I.tuple ht
  obtain ⟨e1, e2⟩ := any_tx x rv
  refine SeqAt.in_tupleAt (txE x) (items := its.toArray) ⟨o, h1, h2, n, h3⟩ (fun y hy => ?_) ?_
  · obtain ⟨z, t, rfl⟩ := e2 y (by simpa using hy)
    exact eq_any I z t hx rx hu
  · rw [List.any_toArray, e1]
    exact ⟨.bl _, H, I, rfl, q⟩
/-! ### its text -/
def rReprA (K : PySem.W.Frag) : List V → Hp → VK → Prop := fun xs H Q => ∃ (x : V) (d : PyData), xs = [x] ∧ Any K H x d ∧ d.shown.length ≤ sizeLine ∧ Q (.str d.shown) H
theorem call_reprA {X : Cx} (hg : X.A.guards = some []) (hu : X.A.units + 66 < cLine) : CallR X (.builtin "repr") (rReprA X.K) := by
  intro pins s σ H xs us Q I r ⟨x, d, e, hd, h4, q⟩
  subst e
  obtain ⟨u1, rfl, r1⟩ := vals1 r
  obtain ⟨hs, hp⟩ := hd.show
  have big : ∀ a, x = .ref a → wpAny (model X.prog X.w) X.A (call (.builtin "repr") [u1]) (EP X pins σ Q) X.xe s := fun a ea => by
    subst ea
    obtain ⟨as, rd, hn⟩ := hd.reads I r1
    obtain rfl : u1 = Value.ref a := r1
    exact repr_of_reads' rd hs hn hg (by omega) (fun _ _ z => z) (fun h' u tk hk => ⟨.str d.shown, H, I.kept (t' := tk) hk, ⟨u, rfl⟩, q⟩) h4
  cases hd with
  | non =>
    cases r1
    refine PySem.P.repr_of_none ⟨.str (PyData.shown .none), H, I.tok _, ⟨s.toks, ?_⟩, q⟩
    first | done | simp [PyData.shown]
  | bl b =>
    cases r1
    refine PySem.P.repr_of_bool ⟨.str (PyData.shown (.bool b)), H, I.tok _, ⟨s.toks, ?_⟩, q⟩
    first | done | simp [PyData.shown]
  | int i h =>
    obtain ⟨t, rfl⟩ := r1
    refine PySem.P.repr_of_int h ⟨.str (PyData.shown (.int i)), H, I.tok _, ⟨s.toks, ?_⟩, q⟩
    first | done | simp [PyData.shown]
  | str x =>
    obtain ⟨t, rfl⟩ := r1
    refine PySem.P.repr_of_str ⟨.str (PyData.shown (.str x)), H, I.tok _, ⟨s.toks, ?_⟩, q⟩ (by simpa [PyData.shown] using h4)
    first | done | simp [PyData.shown]
  | lst xs h => exact big _ rfl
  | tup xs h => exact big _ rfl
  | dic e => exact big _ rfl
/-! ### its kind -/
theorem sql_ty {K : PySem.W.Frag} {H : Hp} {a : Addr} {xs : List V} (h : SqL K H a xs) : TyX K H (.ref a) (.type "list") := by
  rcases h with (h | ⟨o, h⟩) | ⟨o, its, n, h, c, _⟩
  · exact .base (.lst h)
  · exact .base (.frz h)
  · exact .kList h c
theorem sqt_tyX {K : PySem.W.Frag} {H : Hp} {a : Addr} {xs : List V} (h : SqT K H a xs) : TyX K H (.ref a) (.type "tuple") := by
  rcases h with (h | ⟨o, h⟩) | ⟨o, its, n, h, c, _⟩
  · exact .base (.tup h)
  · exact .fTuple h
  · exact .kTuple h c
theorem Any.ty {K : PySem.W.Frag} {H : Hp} {x : V} {d : PyData} (h : Any K H x d) : ∃ (T : String) (b : Bool), TyX K H x (.type T) ∧ kitB T "str" = some b ∧ ((b = true ∧ ∃ z, x = .str z) ∨ (b = false ∧ ∀ z, x ≠ .str z)) := by
  cases h with
  | non => exact ⟨"NoneType", false, .base .non, by decide +kernel, .inr ⟨rfl, nofun⟩⟩
  | bl b => exact ⟨"bool", false, .base (.bl b), by decide +kernel, .inr ⟨rfl, nofun⟩⟩
  | int i h => exact ⟨"int", false, .base (.int i), by decide +kernel, .inr ⟨rfl, nofun⟩⟩
  | str z => exact ⟨"str", true, .base (.str z), by decide +kernel, .inl ⟨rfl, z, rfl⟩⟩
  | lst xs h => exact ⟨"list", false, sql_ty h, by decide +kernel, .inr ⟨rfl, nofun⟩⟩
  | tup xs h => exact ⟨"tuple", false, sqt_tyX h, by decide +kernel, .inr ⟨rfl, nofun⟩⟩
  | dic e => exact ⟨"dict", false, .base (.dK e), by decide +kernel, .inr ⟨rfl, nofun⟩⟩
end Xv

/-! several except clauses, each with the same name; == with what is no instance -/
namespace Xv
open PySem PySem.Spec PyProof.Rows L2
/-- what the clauses wish of an exception of the body; slot i is the name's -/
def wManyA (K : PySem.W.Frag) (i : Nat) (Wout : WX) (D : Ends) : List (Value × (Addr → Value → Option Addr → TS)) → WX
  | [] => Wout
  | (c, ts) :: r => fun cls d σ H => ∃ b, PySem.W.exmOne K cls c = some b ∧ (b = true → ∀ a, H a = none → ts a cls d { nx := fun σ' H' => D.nx (σ'.set i none) H', rt := D.rt, bk := fun σ' H' => D.bk (σ'.set i none) H', ct := fun σ' H' => D.ct (σ'.set i none) H' } (σ.set i (some (.ref a))) H) ∧
    (b = false → wManyA K i Wout D r cls d σ H)
inductive HdsOkA (X : Cx) (n : Str) : List ExceptHandler → List (Value × (Addr → Value → Option Addr → TS)) → Prop
  | nil : HdsOkA X n [] []
  | cons {x : Str} {c : Value} {ts : Addr → Value → Option Addr → TS} {b₀ : Stmt} {suite : List Stmt} {np pos' : Pos} {hds : List ExceptHandler} {l : List (Value × (Addr → Value → Option Addr → TS))} (hc : Names X x c)
      (hsu : ∀ (a : Addr) (oe : Obj) (cls : Value) (d : Option Addr) (pn : List (Addr × Obj)), Zc cls d oe → (∃ vs, oe.data = .fields vs) → PSs (X.suite a ((a, oe) :: pn)) (b₀ :: suite) (ts a cls d)) (r : HdsOkA X n hds l) :
      HdsOkA X n (.ExceptHandler (some (.Name x np)) (some n) (b₀ :: suite) pos' :: hds) ((c, ts) :: l)
section
variable {X : Cx} {n : Str} {i : Nat} {body : List Stmt} {h₀ : ExceptHandler} {hds : List ExceptHandler} {l : List (Value × (Addr → Value → Option Addr → TS))} {pos : Pos} {tb : WX → TS} {Wout : WX}
theorem ps_try_manyA (hs : X.stack = X.env :: X.outer) (hf : X.env.frame = some X.env.locals) (hN : X.N.Nodup) (hi : X.N[i]? = some n) (hln : X.env.kindOf n = some .local) (tk : Takes X Wout)
    (hb : ∀ (W : WX) (pn : List (Addr × Obj)) (xe : Value → Shared → Prop), Takes (X.tr pn xe) W → PassesOwn (model X.prog X.w) X.A X.env xe → PSs (X.tr pn xe) body (tb W))
    (hh : HdsOkA X n (h₀ :: hds) l) : PS X (.Try body (h₀ :: hds) [] [] pos) (fun D σ H => tb (wManyA X.K i Wout D l) D σ H) := by
  refine ⟨fun pins s σ H D I h => ?_⟩
  have ok := I.ok
  have hfr : X.A.frames = some (X.env :: X.outer) := by rw [ok.frames, hs]
  have hloc : Loc X.env.scope n := .inl hln
  refine wpAny_Try_except ?_
  refine wpAny_mono ((hb (wManyA X.K i Wout D l) (X.pn ++ pins) (fun e s₁ => wpAny (model X.prog X.w) X.A (noteFrame e X.env) (fun _ s₂ => wpAny (model X.prog X.w) X.A (setFlight e none) (fun _ s₃ =>
    wpAny (model X.prog X.w) X.A (handleBy e X.env (h₀ :: hds)) (SP X pins D) X.xe s₃) X.xe s₂) X.xe s₁) (fun u s' xx => ?_) PassesOwn.looking).run [] s σ H D (I.toTry _) h) (fun f s1 hsp => ?_) (fun e s1 he => he)
  · obtain ⟨a, B, sI, pins', σ', H', cls, d, rfl, J', nb, up, sky, na, os, ag, w⟩ := xx
    have J : Inv X pins σ' H' sI := J'.ofTry ok
    have sky' : Sky B (X.env :: X.outer) a (Zc cls d) X.env.locals s'.heap := by rw [← hs]; exact sky
    show wpAny (model X.prog X.w) X.A (noteFrame (.ref a) X.env) _ _ _
    refine Sky.land Zc.steady hfr hf sky' fun h3 fl3 up3 => ?_
    have J3 : Inv X pins σ' H' { s' with heap := h3 } := J.landed nb fl3.1 (up.trans up3) os ag
    obtain ⟨oe3, vs3, he3, hz3, hd3⟩ := fl3.there
    have notFr : ∀ {h : Heap} {o : Obj} {vs : Array Value}, h.FunFrames B (X.env :: X.outer) → h.get? a = some o → o.data = .fields vs → a ∉ frs (X.env :: X.outer) := fun {h o vs} ff e dd hm => by
      obtain ⟨_, o', e', hnf⟩ := ff.mem hm
      rw [e] at e'; cases e'
      exact hnf _ dd
    have nfr := notFr fl3.2.2.1 he3 hd3
    have nL : a ≠ X.env.locals := fun z => nfr (List.mem_filterMap.mpr ⟨X.env, List.mem_cons_self, by rw [hf, z]⟩)
    have nF : a ∉ X.fs := fun hm => by
      obtain ⟨e, he, q⟩ := List.mem_filterMap.mp hm
      exact nfr (List.mem_filterMap.mpr ⟨e, List.mem_cons_of_mem _ he, q⟩)
    have S3 := J3.suite he3 hd3 na nL nF
    have go : ∀ {hds' : List ExceptHandler} {l' : List (Value × (Addr → Value → Option Addr → TS))}, HdsOkA X n hds' l' → wManyA X.K i Wout D l' cls d σ' H' →
        wpAny (model X.prog X.w) X.A (handleBy (.ref a) X.env hds') (SP X pins D) X.xe { s' with heap := h3 } := by
      intro hds' l' hk
      induction hk with
      | nil =>
        intro w
        refine wpAny_handleBy_nil ?_
        obtain ⟨k1, k2, k3, oe, vs, T, oT, ts', he, hz, hd, h1, hr⟩ := id fl3
        unfold PySem.passOn
        refine wpAny_bind (wpAny_field he hd h1 ?_)
        rw [if_neg (show ¬ ((Value.ref T == Value.none) = true) from by simp)]
        have fin : wpAny (model X.prog X.w) X.A (setFlight (.ref a) X.env.frame) (fun _ s4 => wpAny (model X.prog X.w) X.A (throw (.ref a) : Sem Flow) (SP X pins D) X.xe s4) X.xe { s' with heap := h3 } := by
          rw [hf]
          refine HandSPX.setFlight_upZ fl3 fun h4 hh4 up4 => wpAny_throw (tk _ _ ?_)
          exact ⟨a, B, sI, pins, σ', H', cls, d, rfl, J, nb, (up.trans up3).trans up4, .inr (.inr (by rw [hs]; exact hh4)), na, os, ag, w⟩
        first
          | exact wpAny_bind (wpAny_pure (wpAny_bind fin))
          | exact wpAny_bind fin
      | @cons x c ts b₀ suite np pos' hds2 l2 hc hsu r ih =>
        intro w
        obtain ⟨b, hb1, hyes, hno⟩ := w
        refine wpAny_handleBy_cons (codeAny_handlers_test ?_) (by intro q; cases q)
        have LT : PySem.W.Looks (model X.prog X.w) h3 (typeOf (.ref a)) cls := fun A Q E s k q => wpAny_typeOf_ref (k _ _ he3) (by rw [hz3.1]; exact q)
        have LM := PySem.W.exm_one (M := model X.prog X.w) (J3.kIn) LT hb1
        have test : ∀ {Q : Value → Shared → Prop} {E : Value → Shared → Prop}, Q c { s' with heap := h3 } → wpAny (model X.prog X.w) (X.A.mark (some (.ref a))) (eval (.Name x np) X.env) Q E { s' with heap := h3 } := fun {Q E} q => by
          obtain ⟨hg, hdbg, hm | ⟨hm, hv, hnn⟩⟩ := hc
          · exact ld_glob (X := X.suite a ((a, oe3) :: (X.pn ++ pins))) S3 hg hm q hdbg
          · exact ld_blt (X := X.suite a ((a, oe3) :: (X.pn ++ pins))) S3 hg hm hv q hnn hdbg
        refine test (LM.here ?_)
        cases b with
        | true =>
          refine codeAny_handlers_suite_as ?_
          refine HandSPX.lands_againZ fl3 fun h4 fl4 up4 => ?_
          have J4 : Inv X pins σ' H' { s' with heap := h4 } := J.landed nb fl4.1 ((up.trans up3).trans up4) os ag
          obtain ⟨oe4, vs4, he4, hz4, hd4⟩ := fl4.there
          have S4 := J4.suite he4 hd4 na nL nF
          refine store_ok (X := X.suite a ((a, oe4) :: (X.pn ++ pins))) (v := .ref a) S4 hN hi hloc rfl (fun s5 S5 => ?_) (.inr hln)
          refine wpAny_mono ((hsu a oe4 cls d (X.pn ++ pins) hz4 ⟨_, hd4⟩).run [] s5 _ H' _ S5 (hyes rfl a na)) (fun f s6 hsp => ?_) (fun _ _ z => False.elim z)
          have end_ : ∀ {σ6 : L2.St} {H6 : Hp} {Q : Shared → Prop}, Inv (X.suite a ((a, oe4) :: (X.pn ++ pins))) [] σ6 H6 s6 → (∀ s7, Inv X pins (σ6.set i none) H6 s7 → Q s7) →
              wpAny (model X.prog X.w) X.A (do bindName X.env n .none; unbindBehindTheSuite X.env n pos') (fun _ s7 => Q s7) X.xe s6 := fun {σ6 H6 Q} S6 hq => gone_ok (S6.unsuite ok) hN hi hln hq
          cases f with
          | next =>
            obtain ⟨σ6, H6, S6, q6⟩ := hsp
            exact end_ S6 fun s7 J7 => ⟨_, _, J7, q6⟩
          | brk =>
            obtain ⟨σ6, H6, S6, q6⟩ := hsp
            exact end_ S6 fun s7 J7 => ⟨_, _, J7, q6⟩
          | cont =>
            obtain ⟨σ6, H6, S6, q6⟩ := hsp
            exact end_ S6 fun s7 J7 => ⟨_, _, J7, q6⟩
          | ret u =>
            obtain ⟨v6, σ6, H6, S6, r6, q6⟩ := hsp
            exact end_ S6 fun s7 J7 => ⟨_, _, _, J7, r6, q6⟩
        | false =>
          show wpAny _ X.A (handleBy (.ref a) X.env hds2) _ _ _
          exact ih (hno rfl)
    exact go hh w
  · cases f with
    | next =>
      obtain ⟨σ', H', J', q⟩ := hsp
      exact wpAny_execs_nil ⟨σ', H', J'.ofTry ok, q⟩
    | brk =>
      obtain ⟨σ', H', J', q⟩ := hsp
      exact ⟨σ', H', J'.ofTry ok, q⟩
    | cont =>
      obtain ⟨σ', H', J', q⟩ := hsp
      exact ⟨σ', H', J'.ofTry ok, q⟩
    | ret u =>
      obtain ⟨v, σ', H', J', r, q⟩ := hsp
      exact ⟨v, σ', H', J'.ofTry ok, r, q⟩
end
/-! ### an instance == a list, == a number -/
inductive Oth (K : PySem.W.Frag) (H : Hp) : V → Value → Prop
  | lst {a : Addr} {xs : List V} (h : SqL K H a xs) : Oth K H (.ref a) (.type "list")
  | int (i : Int) : Oth K H (.int i) (.type "int")
def rOwnT (C : Addr) (sp : Sp) (K : PySem.W.Frag) : R2 := fun x y H Q => ∃ a dx fs t, x = .ref a ∧ H a = some (.ins C dx fs) ∧ ((∃ b dy gs, y = .ref b ∧ H b = some (.ins C dy gs) ∧ t = .ref C) ∨ Oth K H y t) ∧ PySem.W.notFirst K C t = true ∧ sp [.ref a, y] H Q E0
theorem op_own_eqT {X : Cx} {n : Nat} {C f : Addr} {fd : FuncData} {ps : List Str} {sp : Sp} (O : Ow.OwnFn X n C "__eq__" f fd ps sp) : OpR X (compareOp .Eq) (rOwnT C sp X.K) := by
  intro pins s σ H x y v u Q I rx ry hq
  obtain ⟨a, dx, fs, t, rfl, ha, ht, hn, h⟩ := hq
  cases rx
  obtain ⟨mA, J, _⟩ := ins_get I.hok ha
  obtain ⟨od, J, _⟩ := J.look
  obtain ⟨m, F⟩ := I.fr
  have LT : PySem.W.Looks (model X.prog X.w) s.heap (typeOf u) t := by
    rcases ht with ⟨b, dy, gs, rfl, hb, rfl⟩ | ht
    · cases ry
      obtain ⟨mB, J', _⟩ := ins_get I.hok hb
      obtain ⟨od', J', _⟩ := J'.look
      exact J'.type
    · cases ht with
      | @lst b xs hh =>
        obtain rfl : u = Value.ref b := ry
        obtain ⟨its, _, ⟨o, n, h1, h2, _, h3⟩, _⟩ := I.list hh
        exact fun A Q E s k q => wpAny_typeOf_ref (k _ _ h1) (by rw [h2]; exact q)
      | int i =>
        obtain ⟨k, rfl⟩ := ry
        exact PySem.W.Looks.of_pure rfl
  show wpAny _ _ (richCompare .Eq (.ref a) u) _ _ _
  exact PySem.W.cmp_K (tb := t) O.rm.units0 F I.ok.mod.kin J LT hn O.at_ O.fn (wpAny_mono (O.run (vs := [.ref a, y]) I (.cons rfl (.cons ry .nil)) h) (fun _ _ z => Ow.backs z) fun _ _ z => z)
end Xv

/-! nested values of any kind, empty dicts among them -/
namespace Xv
open PySem PySem.Spec PyProof.Rows L2
mutual
/-- what stands in a value -/
inductive Va (K : PySem.W.Frag) (H : Hp) : V → PyData → Prop
  | non : Va K H .non .none
  | bl (b : Bool) : Va K H (.bl b) (.bool b)
  | int (i : Int) : Va K H (.int i) (.int i)
  | str (x : Str) : Va K H (.str x) (.str x)
  | lst {a : Addr} {xs : List V} {ds : List PyData} (h : SqL K H a xs) (g : VaAll K H xs ds) : Va K H (.ref a) (.list ds)
  | tup {a : Addr} {xs : List V} {ds : List PyData} (h : SqT K H a xs) (g : VaAll K H xs ds) : Va K H (.ref a) (.tuple ds)
  | dic {a : Addr} (e : H a = some (.dK [])) : Va K H (.ref a) (.dict [])
inductive VaAll (K : PySem.W.Frag) (H : Hp) : List V → List PyData → Prop
  | nil : VaAll K H [] []
  | cons {v : V} {vs : List V} {d : PyData} {ds : List PyData} (h : Va K H v d) (g : VaAll K H vs ds) : VaAll K H (v :: vs) (d :: ds)
end
mutual
theorem Va.mono {K : PySem.W.Frag} {H H' : Hp} (s : Same H H') : ∀ {v : V} {d : PyData}, Va K H v d → Va K H' v d
  | _, _, .non => .non
  | _, _, .bl b => .bl b
  | _, _, .int i => .int i
  | _, _, .str x => .str x
  | _, _, .lst h g => .lst (s.seq h) (g.mono s)
  | _, _, .tup h g => .tup (h.elim (fun h => .inl (h.elim (fun h => .inl (s _ _ h)) fun ⟨o, h⟩ => .inr ⟨o, s _ _ h⟩)) fun h => .inr h) (g.mono s)
  | _, _, .dic e => .dic (s _ _ e)
theorem VaAll.mono {K : PySem.W.Frag} {H H' : Hp} (s : Same H H') : ∀ {vs : List V} {ds : List PyData}, VaAll K H vs ds → VaAll K H' vs ds
  | _, _, .nil => .nil
  | _, _, .cons h g => .cons (h.mono s) (g.mono s)
end
theorem VaAll.len {K : PySem.W.Frag} {H : Hp} : ∀ {vs : List V} {ds : List PyData}, VaAll K H vs ds → vs.length = ds.length
  | _, _, .nil => rfl
  | _, _, .cons _ g => congrArg Nat.succ g.len
theorem VaAll.at_ {K : PySem.W.Frag} {H : Hp} : ∀ {vs : List V} {ds : List PyData}, VaAll K H vs ds → ∀ {i : Nat} {v : V}, vs[i]? = some v → ∃ d, ds[i]? = some d ∧ Va K H v d
  | _, _, .nil, i, v, e => by cases e
  | _, _, .cons h g, 0, v, e => ⟨_, rfl, (Option.some.inj e) ▸ h⟩
  | _, _, .cons h g, i + 1, v, e => g.at_ (i := i) e
theorem VaAll.app {K : PySem.W.Frag} {H : Hp} : ∀ {vs ws : List V} {ds es : List PyData}, VaAll K H vs ds → VaAll K H ws es → VaAll K H (vs ++ ws) (ds ++ es)
  | _, _, _, _, .nil, g => g
  | _, _, _, _, .cons h r, g => .cons h (r.app g)
theorem VaAll.take {K : PySem.W.Frag} {H : Hp} : ∀ {vs : List V} {ds : List PyData}, VaAll K H vs ds → ∀ n : Nat, VaAll K H (vs.take n) (ds.take n)
  | _, _, .nil, n => by rw [List.take_nil, List.take_nil]; exact .nil
  | _, _, .cons h g, 0 => .nil
  | _, _, .cons h g, n + 1 => .cons h (g.take n)
theorem VaAll.drop {K : PySem.W.Frag} {H : Hp} : ∀ {vs : List V} {ds : List PyData}, VaAll K H vs ds → ∀ n : Nat, VaAll K H (vs.drop n) (ds.drop n)
  | _, _, .nil, n => by rw [List.drop_nil, List.drop_nil]; exact .nil
  | _, _, .cons h g, 0 => .cons h g
  | _, _, .cons h g, n + 1 => g.drop n
theorem VaAll.strs {K : PySem.W.Frag} {H : Hp} : ∀ xs : List Str, VaAll K H (xs.map V.str) (xs.map PyData.str)
  | [] => .nil
  | x :: xs => .cons (.str x) (VaAll.strs xs)
section
variable {X : Cx} {pins : List (Addr × Obj)} {σ : L2.St} {H : Hp} {s : Shared}
theorem rp_scalar (I : Inv X pins σ H s) {v : V} {d : PyData} {u : Value} (h : Dp X.K H v d) (r : RelV v u) (nd : d.hasDict = false) (hs : d.showable = true) (hz : d.shown.length ≤ sizeLine) :
    (∃ as, Reads s.heap u d as) ∧ ∃ bs, ReadAtMost s.heap d.depth bs ∧ ReprK X.prog X.w bs s.heap d.depth u d.shown := by
  obtain ⟨as, q⟩ := Dp.reads I d v u h r
  exact ⟨⟨as, q⟩, ReprK.of_reads q hs (fun z => absurd (nd.symm.trans z) (by simp)) hz⟩
mutual
theorem Va.rp (I : Inv X pins σ H s) {v : V} {d : PyData} (h : Va X.K H v d) {u : Value} (r : RelV v u) (hs : d.showable = true) (hz : d.shown.length ≤ sizeLine) :
    (∃ as, Reads s.heap u d as) ∧ ∃ bs, ReadAtMost s.heap d.depth bs ∧ ReprK X.prog X.w bs s.heap d.depth u d.shown := by
  match h with
  | .non => exact rp_scalar I .non r (by simp [PyData.hasDict]) hs hz
  | .bl b => exact rp_scalar I (.bl b) r (by simp [PyData.hasDict]) hs hz
  | .int i => exact rp_scalar I (.int i) r (by simp [PyData.hasDict]) hs hz
  | .str x => exact rp_scalar I (.str x) r (by simp [PyData.hasDict]) hs hz
  | .dic (a := a) e =>
    obtain rfl : u = Value.ref a := r
    obtain ⟨n, o, es, ep, h1, h2, h3, h4⟩ := dk_nil I e
    have q : Reads s.heap (.ref a) (.dict []) [a] := Reads.dict (as := []) (bs := []) h1 h2 h3 (by rw [h4]; exact .nil) (by rw [h4]; exact .nil)
    exact ⟨⟨_, q⟩, ReprK.of_reads q hs (fun _ z => n (List.mem_singleton.mp z).symm) hz⟩
  | .lst (a := a) (xs := xs) (ds := ds) hl g =>
    obtain rfl : u = Value.ref a := r
    obtain ⟨its, rv, ⟨o, n, h1, h2, hn, h3⟩, _⟩ := I.list hl
    have hz2 : (listText (PyData.shownAll ds)).length ≤ sizeLine := by simpa only [PyData.shown] using hz
    have hs2 : PyData.showableAll ds = true := by simpa only [PyData.showable] using hs
    obtain ⟨⟨as, ra⟩, bs, hb, hk⟩ := VaAll.rp I g rv hs2 fun t ht => Nat.le_trans (listText_mem_le ht) hz2
    have rd : Reads s.heap (.ref a) (.list ds) _ := Reads.list h1 h2 h3 (show ReadsAll s.heap its.toArray.toList ds as by simpa using ra)
    have far : a ∉ bs := not_mem_of_deeper rd (by simp only [PyData.depth]; omega) hb
    refine ⟨⟨_, rd⟩, a :: bs, ReadAtMost.cons rd (by simp only [PyData.depth]; omega) hb, ?_⟩
    simp only [PyData.depth, PyData.shown]
    cases its with
    | nil =>
      cases ra
      rw [show PyData.shownAll [] = [] by simp [PyData.shownAll], listText_nil]
      exact ReprK.listEmpty h1 h2 h3
    | cons y l =>
      have z := ReprK.list h1 h2 h3 far (by rw [hk.length_eq]; simp) (fun i y' e => hk.item i y' (by simpa using e))
      exact z
  | .tup (a := a) (xs := xs) (ds := ds) hl g =>
    obtain rfl : u = Value.ref a := r
    obtain ⟨its, rv, ⟨o, h1, h2, n, h3⟩, _⟩ := I.tuple hl
    have hz2 : (tupleText (PyData.shownAll ds)).length ≤ sizeLine := by simpa only [PyData.shown] using hz
    have hs2 : PyData.showableAll ds = true := by simpa only [PyData.showable] using hs
    obtain ⟨⟨as, ra⟩, bs, hb, hk⟩ := VaAll.rp I g rv hs2 fun t ht => Nat.le_trans (tupleText_mem_le ht) hz2
    have rd : Reads s.heap (.ref a) (.tuple ds) _ := Reads.tuple h1 h2 h3 (show ReadsAll s.heap its.toArray.toList ds as by simpa using ra)
    have far : a ∉ bs := not_mem_of_deeper rd (by simp only [PyData.depth]; omega) hb
    refine ⟨⟨_, rd⟩, a :: bs, ReadAtMost.cons rd (by simp only [PyData.depth]; omega) hb, ?_⟩
    simp only [PyData.depth, PyData.shown]
    exact ReprK.tuple h1 h2 h3 far (by simpa using hk)
theorem VaAll.rp (I : Inv X pins σ H s) {vs : List V} {ds : List PyData} (h : VaAll X.K H vs ds) {us : List Value} (r : Vals vs us) (hs : PyData.showableAll ds = true) (hz : ∀ t ∈ PyData.shownAll ds, t.length ≤ sizeLine) :
    (∃ as, ReadsAll s.heap us ds as) ∧ ∃ bs, ReadAtMost s.heap (PyData.depthAll ds) bs ∧ ReprAllK X.prog X.w bs s.heap (PyData.depthAll ds) us (PyData.shownAll ds) := by
  match h with
  | .nil =>
    cases r
    exact ⟨⟨_, .nil⟩, [], fun b hb => absurd hb List.not_mem_nil, by rw [show PyData.shownAll [] = [] by simp [PyData.shownAll]]; exact .nil⟩
  | .cons (d := d) (ds := ds) h1 h2 =>
    cases r with
    | cons r1 r2 =>
    rw [PyData.showableAll, Bool.and_eq_true] at hs
    rw [PyData.shownAll] at hz
    obtain ⟨⟨as1, q1⟩, b1, m1, k1⟩ := Va.rp I h1 r1 hs.1 (hz _ List.mem_cons_self)
    obtain ⟨⟨as2, q2⟩, b2, m2, k2⟩ := VaAll.rp I h2 r2 hs.2 fun t ht => hz t (List.mem_cons_of_mem _ ht)
    refine ⟨⟨_, .cons q1 q2⟩, b1 ++ b2, ?_, ?_⟩
    · rw [PyData.depthAll]
      exact (m1.mono (Nat.le_max_left _ _)).append (m2.mono (Nat.le_max_right _ _))
    · rw [PyData.depthAll, PyData.shownAll]
      exact .cons ((k1.more fun b hb => List.mem_append_left _ hb).level_le (Nat.le_max_left _ _)) (k2.more_le (fun b hb => List.mem_append_right _ hb) (Nat.le_max_right _ _))
end
end
/-! ### its text -/
def rReprV (K : PySem.W.Frag) : List V → Hp → VK → Prop := fun xs H Q => ∃ (x : V) (d : PyData), xs = [x] ∧ Va K H x d ∧ d.showable = true ∧ d.depth ≤ 60 ∧ d.shown.length ≤ sizeLine ∧ Q (.str d.shown) H
theorem call_reprV {X : Cx} (hg : X.A.guards = some []) (hu : X.A.units + 66 < cLine) : CallR X (.builtin "repr") (rReprV X.K) := by
  intro pins s σ H xs us Q I r ⟨x, d, e, hd, hs, hp, h4, q⟩
  subst e
  obtain ⟨u1, rfl, r1⟩ := vals1 r
  have fin : ∀ (h' : Heap) (u : Tok) (tk : Tok), (∀ b o, s.heap.get? b = some o → h'.get? b = some o) → EP X pins σ Q (.str d.shown u) { s with heap := h', toks := tk } := fun h' u tk hk => ⟨.str d.shown, H, I.kept (t' := tk) hk, ⟨u, rfl⟩, q⟩
  have fin0 : ∀ t : Str, t = d.shown → EP X pins σ Q (.str t s.toks) { s with toks := s.toks + 1 } := fun t e => ⟨.str d.shown, H, I.tok _, ⟨s.toks, by rw [e]⟩, q⟩
  match hd with
  | .non => cases r1; exact PySem.P.repr_of_none (fin0 _ (by simp [PyData.shown]))
  | .bl b => cases r1; exact PySem.P.repr_of_bool (fin0 _ (by simp [PyData.shown]))
  | .int i => obtain ⟨t, rfl⟩ := r1; exact PySem.P.repr_of_int (by simpa [PyData.showable] using hs) (fin0 _ (by simp [PyData.shown]))
  | .str x => obtain ⟨t, rfl⟩ := r1; exact PySem.P.repr_of_str (fin0 _ (by simp [PyData.shown])) (by simpa [PyData.shown] using h4)
  | .dic (a := a) e =>
    obtain rfl : u1 = Value.ref a := r1
    obtain ⟨n, o, es, ep, h1, h2, h3, h5⟩ := dk_nil I e
    have rd : Reads s.heap (.ref a) (.dict []) [a] := Reads.dict (as := []) (bs := []) h1 h2 h3 (by rw [h5]; exact .nil) (by rw [h5]; exact .nil)
    exact repr_of_reads' rd hs (fun _ z => n (List.mem_singleton.mp z).symm) hg (by omega) (fun _ _ z => z) fin h4
  | .lst (a := a) (ds := ds) hl g =>
    obtain rfl : u1 = Value.ref a := r1
    obtain ⟨its, rv, ⟨o, n, h1, h2, hn, h3⟩, _⟩ := I.list hl
    have hz2 : (listText (PyData.shownAll ds)).length ≤ sizeLine := by simpa only [PyData.shown] using h4
    have hs2 : PyData.showableAll ds = true := by simpa only [PyData.showable] using hs
    obtain ⟨⟨as, ra⟩, bs, hb, hk⟩ := g.rp I rv hs2 fun t ht => Nat.le_trans (listText_mem_le ht) hz2
    have rd : Reads s.heap (.ref a) (.list ds) _ := Reads.list h1 h2 h3 (show ReadsAll s.heap its.toArray.toList ds as by simpa using ra)
    have far : a ∉ bs := not_mem_of_deeper rd (by simp only [PyData.depth]; omega) hb
    simp only [PyData.depth] at hp
    simp only [PyData.shown] at fin
    refine call_repr_slot (by omega) ⟨o, h1, h2⟩ PySem.F.slot_list_repr.toG ?_
    cases its with
    | nil =>
      cases ra
      rw [show PyData.shownAll [] = [] by simp [PyData.shownAll], listText_nil] at fin
      exact call_list_repr_empty ⟨o, h1, h2⟩ h1 h3 ⟨_, _, rfl, fin s.heap _ _ fun _ _ e => e⟩
    | cons y l =>
      exact call_list_reprK h1 h2 h3 far (by rw [hk.length_eq]; simp) (fun i y' e => hk.item i y' (by simpa using e)) hg (fun b _ => Clear.nil b) (by show X.A.units + 1 + (PyData.depthAll ds + 1) < cLine; omega) (fun _ _ z => z) (fun h' u tk hk => ⟨_, _, rfl, fin h' u tk hk⟩) hz2
  | .tup (a := a) (ds := ds) hl g =>
    obtain rfl : u1 = Value.ref a := r1
    obtain ⟨its, rv, ⟨o, h1, h2, n, h3⟩, _⟩ := I.tuple hl
    have hz2 : (tupleText (PyData.shownAll ds)).length ≤ sizeLine := by simpa only [PyData.shown] using h4
    have hs2 : PyData.showableAll ds = true := by simpa only [PyData.showable] using hs
    obtain ⟨⟨as, ra⟩, bs, hb, hk⟩ := g.rp I rv hs2 fun t ht => Nat.le_trans (tupleText_mem_le ht) hz2
    have rd : Reads s.heap (.ref a) (.tuple ds) _ := Reads.tuple h1 h2 h3 (show ReadsAll s.heap its.toArray.toList ds as by simpa using ra)
    have far : a ∉ bs := not_mem_of_deeper rd (by simp only [PyData.depth]; omega) hb
    simp only [PyData.depth] at hp
    simp only [PyData.shown] at fin
    refine call_repr_slot (by omega) ⟨o, h1, h2⟩ PySem.F.slot_tuple_repr ?_
    exact call_tuple_reprK h1 h2 h3 far (by simpa using hk) hg (fun b _ => Clear.nil b) (by show X.A.units + 1 + (PyData.depthAll ds + 1) < cLine; omega) (fun _ _ z => z) (fun h' u tk hk => ⟨_, _, rfl, fin h' u tk hk⟩) hz2
end Xv

/-! nested values: in a row of texts, their kind -/
namespace Xv
open PySem PySem.Spec PyProof.Rows L2
theorem eq_anyV {X : Cx} {pins : List (Addr × Obj)} {σ : L2.St} {H : Hp} {s : Shared} (I : Inv X pins σ H s) {A : Around} {v : V} {d : PyData} {u : Value} (z : Str) (t : Tok) (h : Va X.K H v d) (r : RelV v u) (hu : A.units < cLine) : SeqAt.EqAt A s (.str z t) u (decide (v = .str z)) := by
  cases h with
  | non => cases r; rw [decide_eq_false nofun]; exact .str_none z t
  | bl b => cases r; rw [decide_eq_false nofun]; exact .str_bool z t b
  | int i => obtain ⟨k, rfl⟩ := r; rw [decide_eq_false nofun]; exact .str_int z t i k
  | str x => exact eq_any I z t (Any.str x) r hu
  | @lst a xs ds h g =>
    obtain rfl : u = Value.ref a := r
    obtain ⟨its, _, ⟨o, n, h1, h2, _, h3⟩, _⟩ := I.list h
    rw [decide_eq_false nofun]
    exact .str_list z t ⟨o, h1, h2, n, h3⟩ hu
  | @tup a xs ds h g =>
    obtain rfl : u = Value.ref a := r
    obtain ⟨its, _, ⟨o, h1, h2, n, h3⟩, _⟩ := I.tuple h
    rw [decide_eq_false nofun]
    exact .str_tuple z t ⟨o, h1, h2, n, h3⟩ hu
  | dic e => exact eq_any I z t (Any.dic e) r hu
def rInV (K : PySem.W.Frag) (neg : Bool) : R2 := fun x y H Q => ∃ (d : PyData) (a : Addr) (xs : List Str), y = .ref a ∧ (SqL K H a (xs.map V.str) ∨ SqT K H a (xs.map V.str)) ∧ Va K H x d ∧ Q (.bl (if neg then !isTx x xs else isTx x xs)) H
theorem op_inV {X : Cx} (hu : X.A.units + 1 < cLine) : OpR X (compareOp .In) (rInV X.K false) := by
  intro pins s σ H x y v u Q I rx ry ⟨d, a, xs, e, hq, hx, q⟩
  subst e
  obtain rfl : u = Value.ref a := ry
  rcases hq with ht | ht
  · obtain ⟨its, rv, pl, _⟩ := I.list ht
    obtain ⟨e1, e2⟩ := any_tx x rv
    refine SeqAt.in_listAt (txE x) (items := its.toArray) pl.isList (fun y hy => ?_) ?_
    · obtain ⟨z, t, rfl⟩ := e2 y (by simpa using hy)
      exact eq_anyV I z t hx rx hu
    · rw [List.any_toArray, e1]
      exact ⟨.bl _, H, I, rfl, q⟩
  · obtain ⟨its, rv, pl, _⟩ := I.tuple ht
    obtain ⟨e1, e2⟩ := any_tx x rv
    refine SeqAt.in_tupleAt (txE x) (items := its.toArray) pl (fun y hy => ?_) ?_
    · obtain ⟨z, t, rfl⟩ := e2 y (by simpa using hy)
      exact eq_anyV I z t hx rx hu
    · rw [List.any_toArray, e1]
      exact ⟨.bl _, H, I, rfl, q⟩
theorem op_notInV {X : Cx} (hu : X.A.units + 1 < cLine) : OpR X (compareOp .NotIn) (rInV X.K true) := by
  intro pins s σ H x y v u Q I rx ry ⟨d, a, xs, e, hq, hx, q⟩
  subst e
  obtain rfl : u = Value.ref a := ry
  rcases hq with ht | ht
  · obtain ⟨its, rv, pl, _⟩ := I.list ht
    obtain ⟨e1, e2⟩ := any_tx x rv
    refine SeqAt.notIn_listAt (txE x) (items := its.toArray) pl.isList (fun y hy => ?_) ?_
    · obtain ⟨z, t, rfl⟩ := e2 y (by simpa using hy)
      exact eq_anyV I z t hx rx hu
    · rw [List.any_toArray, e1]
      exact ⟨.bl _, H, I, rfl, q⟩
  · obtain ⟨its, rv, pl, _⟩ := I.tuple ht
    obtain ⟨e1, e2⟩ := any_tx x rv
    refine SeqAt.notIn_tupleAt (txE x) (items := its.toArray) pl (fun y hy => ?_) ?_
    · obtain ⟨z, t, rfl⟩ := e2 y (by simpa using hy)
      exact eq_anyV I z t hx rx hu
    · rw [List.any_toArray, e1]
      exact ⟨.bl _, H, I, rfl, q⟩
/-! ### its kind -/
def kdStr : PyData → Bool
  | .str _ => true
  | _ => false
def kdTup : PyData → Bool
  | .tuple _ => true
  | _ => false
theorem Va.ty {K : PySem.W.Frag} {H : Hp} {x : V} {d : PyData} (h : Va K H x d) : ∃ T : String, TyX K H x (.type T) ∧ kitB T "str" = some (kdStr d) ∧ kitB T "tuple" = some (kdTup d) := by
  cases h with
  | non => exact ⟨"NoneType", .base .non, by decide +kernel, by decide +kernel⟩
  | bl b => exact ⟨"bool", .base (.bl b), (by decide +kernel : kitB "bool" "str" = some false), (by decide +kernel : kitB "bool" "tuple" = some false)⟩
  | int i => exact ⟨"int", .base (.int i), (by decide +kernel : kitB "int" "str" = some false), (by decide +kernel : kitB "int" "tuple" = some false)⟩
  | str z => exact ⟨"str", .base (.str z), (by decide +kernel : kitB "str" "str" = some true), (by decide +kernel : kitB "str" "tuple" = some false)⟩
  | lst h g => exact ⟨"list", sql_ty h, (by decide +kernel : kitB "list" "str" = some false), (by decide +kernel : kitB "list" "tuple" = some false)⟩
  | tup h g => exact ⟨"tuple", sqt_tyX h, (by decide +kernel : kitB "tuple" "str" = some false), (by decide +kernel : kitB "tuple" "tuple" = some true)⟩
  | dic e => exact ⟨"dict", .base (.dK e), (by decide +kernel : kitB "dict" "str" = some false), (by decide +kernel : kitB "dict" "tuple" = some false)⟩
theorem Va.strD {K : PySem.W.Frag} {H : Hp} {x : V} {d : PyData} (h : Va K H x d) : (∃ z, x = .str z ∧ d = .str z) ∨ (kdStr d = false ∧ ∀ z, x ≠ .str z) := by
  cases h with
  | str z => exact .inl ⟨z, rfl, rfl⟩
  | _ => exact .inr ⟨rfl, nofun⟩
theorem Va.tupD {K : PySem.W.Frag} {H : Hp} {x : V} {d : PyData} (h : Va K H x d) : (∃ a xs ds, x = .ref a ∧ d = .tuple ds ∧ SqT K H a xs ∧ VaAll K H xs ds) ∨ kdTup d = false := by
  cases h with
  | tup h g => exact .inl ⟨_, _, _, rfl, rfl, h, g⟩
  | _ => exact .inr rfl
/-- a tuple of any values against the empty tuple -/
def rEqN (K : PySem.W.Frag) : R2 := fun x y H Q => ∃ (a b : Addr) (xs : List V), x = .ref a ∧ y = .ref b ∧ SqT K H a xs ∧ SqT K H b [] ∧ Q (.bl xs.isEmpty) H
theorem op_eqN {X : Cx} (hu : X.A.units < cLine) : OpR X (compareOp .Eq) (rEqN X.K) := by
  intro pins s σ H x y v u Q I rx ry ⟨a, b, xs, e1, e2, h1, h2, q⟩
  subst e1 e2
  obtain rfl : v = Value.ref a := rx
  obtain rfl : u = Value.ref b := ry
  obtain ⟨its, rv, pl, _⟩ := I.tuple h1
  obtain ⟨jts, rw2, pl2, _⟩ := I.tuple h2
  cases rw2
  refine SeqAt.eq_tupleAt (items := its.toArray) (items2 := #[]) (e := fun _ => true) pl pl2 hu (fun j h1 h2 => absurd h2 (Nat.not_lt_zero j)) ?_
  refine ⟨.bl _, H, I, rfl, ?_⟩
  rw [show ((List.range (min its.toArray.size (#[] : Array Value).size)).all (fun _ => true) && its.toArray.size == (#[] : Array Value).size) = xs.isEmpty by
    cases rv <;> simp]
  exact q
/-! ### d.update(e) -/
def rDUpd : V → List V → Hp → VK → Prop := fun x vs H Q => ∃ (a b : Addr) (kvs more : List (Key × V)), x = .ref a ∧ vs = [.ref b] ∧ a ≠ b ∧ H a = some (.dK kvs) ∧ H b = some (.dK more) ∧ kvs.length + more.length ≤ 1000 ∧ Q .non (upd H a (.dK (mergeK kvs more)))
theorem mt_update {X : Cx} : MtR X "dict.update" rDUpd := by
  intro pins s σ H x vs v us Q I rx rv ⟨a, b, kvs, more, e1, e2, ne, h1, h2, hn, q⟩
  subst e1 e2
  obtain rfl : v = Value.ref a := rx
  obtain ⟨u, rfl, r1⟩ := vals1 rv
  obtain rfl : u = Value.ref b := r1
  obtain ⟨z1, hd1, vs1, rel1, dd1⟩ := dk_of I.hok h1
  obtain ⟨z2, hd2, vs2, rel2, dd2⟩ := dk_of I.hok h2
  have hz : vs1.length + vs2.length ≤ sizeLine := by
    rw [← rel1.length, ← rel2.length, sizeLine_eq]
    omega
  refine call_meetsIn PySem.F.slot_dict_update dd1.typeIs PySem.F.entry_dict_update (PySem.F.args_dict_update_2 _ _) (meets_dict_update (mixKind X.prog X.w) a b ne hd2) ⟨vs1, vs2, dd1, dd2, hz, fun h' dd' _ hs => ?_⟩
  have he : ∃ q, h'.get? a = some q := let ⟨q, _, _, hq, _⟩ := dd'; ⟨q, hq⟩
  have hl : (mergeK kvs more).length ≤ sizeLine := by
    have := length_mergeK more kvs
    rw [sizeLine_eq]
    omega
  exact ⟨.non, _, d_write (t' := s.toks) I (by rw [h1]; exact True.intro) hs he (dk_new hl hd1 (KV.merge rel2 rel1) dd'), rfl, q⟩
end Xv

/-! a list of any values against the empty list -/
namespace Xv
open PySem PySem.Spec PyProof.Rows L2
def rNeNL (K : PySem.W.Frag) : R2 := fun x y H Q => ∃ (a b : Addr) (xs : List V), x = .ref a ∧ y = .ref b ∧ SqL K H a xs ∧ SqL K H b [] ∧ Q (.bl (!xs.isEmpty)) H
theorem op_neNL {X : Cx} (hu : X.A.units < cLine) : OpR X (compareOp .NotEq) (rNeNL X.K) := by
  intro pins s σ H x y v u Q I rx ry ⟨a, b, xs, e1, e2, h1, h2, q⟩
  subst e1 e2
  obtain rfl : v = Value.ref a := rx
  obtain rfl : u = Value.ref b := ry
  obtain ⟨its, rv, pl, _⟩ := I.list h1
  obtain ⟨jts, rw2, pl2, _⟩ := I.list h2
  cases rw2
  cases rv with
  | nil =>
    refine SeqAt.RcNeAt.lists (items := #[]) (items2 := #[]) (e := fun _ => true) pl.isList pl2.isList rfl hu (fun j h1 h2 => absurd h2 (Nat.not_lt_zero j)) X.prog X.w _ _ ?_
    exact ⟨.bl _, H, I, rfl, q⟩
  | cons r rs =>
    refine SeqAt.RcNeAt.lists_lengths pl.isList pl2.isList (by simp) hu X.prog X.w _ _ ?_
    exact ⟨.bl _, H, I, rfl, q⟩
/-- a tuple of any values is not the empty tuple -/
def rNeNT (K : PySem.W.Frag) : R2 := fun x y H Q => ∃ (a b : Addr) (xs : List V), x = .ref a ∧ y = .ref b ∧ SqT K H a xs ∧ SqT K H b [] ∧ Q (.bl (!xs.isEmpty)) H
theorem op_neNT {X : Cx} (hu : X.A.units < cLine) : OpR X (compareOp .NotEq) (rNeNT X.K) := by
  intro pins s σ H x y v u Q I rx ry ⟨a, b, xs, e1, e2, h1, h2, q⟩
  subst e1 e2
  obtain rfl : v = Value.ref a := rx
  obtain rfl : u = Value.ref b := ry
  obtain ⟨its, rv, pl, _⟩ := I.tuple h1
  obtain ⟨jts, rw2, pl2, _⟩ := I.tuple h2
  cases rw2
  refine SeqAt.RcNeAt.tuples (items := its.toArray) (items2 := #[]) (e := fun _ => true) pl pl2 hu (fun j h1 h2 => absurd h2 (Nat.not_lt_zero j)) X.prog X.w _ _ ?_
  refine ⟨.bl _, H, I, rfl, ?_⟩
  rw [show (!((List.range (min its.toArray.size (#[] : Array Value).size)).all (fun _ => true) && its.toArray.size == (#[] : Array Value).size)) = !xs.isEmpty by
    cases rv <;> simp]
  exact q
end Xv

/-! an except clause that names its exception and raises another; own errors with an __init__ of their own, made in such a clause -/
namespace Xv
open PySem PySem.Spec PyProof.Rows L2 L2H HotX
section
variable {X : Cx} {C : Addr} {CX : CXT} {bmB : List Value} {B newId initId : String} {x : Str} {fI : Addr} {k : Nat} {fd : FuncData} {ps : List Str} {sp : Sp} {p pos : Pos} {e : Expr} {es : List Expr} {ta : TA}
/-- C(e, ..), where nothing is handled -/
theorem pmk5_excI (F : ExcBaseFacts B newId initId bmB)
    (q : PySem.W.excInitIn X.K C bmB newId = true) (iC : PySem.W.findIn X.K (.ref C) "__init__" = some (some (.ref fI))) (tI : PySem.W.typeIn X.K (.ref fI) = some (.type "function")) (kC : PySem.W.keepIn X.K (.ref C) = true) (rC : Raises X (.ref C))
    (F1 : FnOk X.prog X.w X.K X.mg X.base CX k fI fd ps sp) (hr : Room (k + 1) X.A) (hb : Binds X.K fd ps []) (hx : Passes CX X (fun _ _ _ => False)) (hg : Gl X x) (hm : X.mg x = some (.ref C)) (ha : PA X (e :: es) ta)
    (hdb : (x == ("__debug__" : Str)) = false := by decide) (he : starEach (e :: es) X.env = (false, eval e X.env) :: starEach es X.env := by rfl) (hpl : (backTo pos (starEach es X.env)).any (·.1) = false := by rfl) :
    PMk5 X (.Call (.Name x p) (e :: es) [] pos) (tMkO C sp [] ta) := by
  intro pins s σ H Q I h
  refine wpAny_Call_Name_kw (ld_glob I hg hm ?_ hdb)
  refine PySem.W.callWith_K (h₀ := X.base) I.ok.mod.kin kC (thn (ha.run pos pins s σ H _ I h) fun us s1 ⟨vs, H1, I1, r1, hz, q1⟩ => ⟨I1.kIn, ?_⟩) he hpl
  show wpAny _ _ (call (.ref C) us) _ _ _
  obtain ⟨hp, g, dr, tk, os⟩ := s1
  have hsz : hp.objs.size ≤ hp.objs.size + 1 := Nat.le_succ _
  have hn : H1 (hp.objs.size + 1) = none := I1.hok.fresh hsz
  have hq := q1 (hp.objs.size + 1) hn
  rw [List.append_nil] at hq
  obtain ⟨nm, N', qn, bs, bm, hdct, sn, sub, abt, col, dd, k0, k1, k2, k3, k5, hC, hT⟩ := PySem.W.excInit_of I1.kIn q
  have kk : ∀ b o, hp.get? b = some o → ((hp.push (PySem.W.kdv_tup us)).push (PySem.HandSPX.excO C hp.objs.size)).get? b = some o := fun b o e => Heap.get?_push_of_some _ (Heap.get?_push_of_some _ e)
  have hget : ((hp.push (PySem.W.kdv_tup us)).push (PySem.HandSPX.excO C hp.objs.size)).get? (hp.objs.size + 1) = some (PySem.HandSPX.excO C hp.objs.size) := by heap_get
  have I2 : Inv X pins σ (upd H1 (hp.objs.size + 1) (exo (hp.objs.size + 1) C none)) ⟨(hp.push (PySem.W.kdv_tup us)).push (PySem.HandSPX.excO C hp.objs.size), g, dr, tk, os⟩ :=
    I1.laid (t' := tk) (a := hp.objs.size + 1) (o := exo (hp.objs.size + 1) C none) (h' := (hp.push (PySem.W.kdv_tup us)).push (PySem.HandSPX.excO C hp.objs.size)) kk hsz (exo_ok hget)
  have rl : Vals (V.ref (hp.objs.size + 1) :: vs) (Value.ref (hp.objs.size + 1) :: us) := .cons rfl r1
  have ln : (Value.ref (hp.objs.size + 1) :: us).length = ps.length := by rw [← rl.length]; exact F1.len _ _ _ _ hq
  have uz : us.length ≤ sizeLine := by rw [← Paired.length r1, sizeLine_eq]; omega
  have bd := hb _ (Value.ref (hp.objs.size + 1) :: us) I2.kIn (by rw [List.append_nil]; exact ln)
  rw [List.append_nil] at bd
  refine wpAny_call (PySem.HandSPX.call_own F hT hC (PySem.W.looks_findIn I1.kIn iC) (fun self => PySem.W.bind_fn I1.kIn self tI) uz
    (codeAny_mono (F1.run _ X.stack _ _ ⟨Value.ref (hp.objs.size + 1) :: us, []⟩ _ _ _ (fun _ _ _ => False) (hr.make C us []) (I2.env0.make C us []) bd rl hq) fun r s' hq' => ?_))
  cases r with
  | error er => exact hx pins σ _ _ er s' I2 hq'
  | ok fl =>
    cases fl with
    | ret u =>
      obtain ⟨v, H2, os2, bare2, un2, hok2, rv, ev, d, fs, ea, ed, hd1, q2⟩ := hq'
      subst ev
      obtain ⟨h2, g2, d2, t2, os'⟩ := s'
      obtain ⟨t0, G, J, kG, ge, hoe, na⟩ := mk_end0 (d2 := d2) (t2 := t2) I1 hsz kk un2 hok2 os2 bare2 ea ed hd1
      refine ⟨rv, ⟨hp.objs.size + 1, _, _, ⟨G, g2, d2, t2, os'⟩, _, .ref C, some d, rfl, J, kG, ge, hoe, ⟨rfl, rfl, fun vs hv => ?_⟩, rfl, rfl, na, rfl, bare2, rC, q2⟩, fun a oe vs ea2 hg2 hd2 => ?_⟩
      · cases hv
        rfl
      · cases ea2
        have hg3 : h2.get? (hp.objs.size + 1) = some oe := hg2
        rw [hoe] at hg3
        cases hg3
        cases hd2
        show (4 : Nat) < 6
        decide
    | next => exact False.elim hq'
    | brk => exact False.elim hq'
    | cont => exact False.elim hq'
/-- .. while an exception is handled -/
theorem pmk5_excIH (F : ExcBaseFacts B newId initId bmB)
    (q : PySem.W.excInitIn X.K C bmB newId = true) (iC : PySem.W.findIn X.K (.ref C) "__init__" = some (some (.ref fI))) (tI : PySem.W.typeIn X.K (.ref fI) = some (.type "function")) (kC : PySem.W.keepIn X.K (.ref C) = true) (rC : Raises X (.ref C))
    (F1 : FnH X.prog X.w X.K X.mg X.base CX k fI fd ps sp) (hr : RoomH (k + 1) X.A) (hc : HotC X) (hb : Binds X.K fd ps []) (hx : Passes CX X (fun _ _ _ => False)) (hg : Gl X x) (hm : X.mg x = some (.ref C)) (ha : PA X (e :: es) ta)
    (hdb : (x == ("__debug__" : Str)) = false := by decide) (he : starEach (e :: es) X.env = (false, eval e X.env) :: starEach es X.env := by rfl) (hpl : (backTo pos (starEach es X.env)).any (·.1) = false := by rfl) :
    PMk5 X (.Call (.Name x p) (e :: es) [] pos) (tMkO C sp [] ta) := by
  intro pins s σ H Q I h
  obtain ⟨pn, hot, hpn⟩ := hc
  refine wpAny_Call_Name_kw (ld_glob I hg hm ?_ hdb)
  refine PySem.W.callWith_K (h₀ := X.base) I.ok.mod.kin kC (thn (ha.run pos pins s σ H _ I h) fun us s1 ⟨vs, H1, I1, r1, hz, q1⟩ => ⟨I1.kIn, ?_⟩) he hpl
  show wpAny _ _ (call (.ref C) us) _ _ _
  obtain ⟨hp, g, dr, tk, os⟩ := s1
  have hsz : hp.objs.size ≤ hp.objs.size + 1 := Nat.le_succ _
  have hn : H1 (hp.objs.size + 1) = none := I1.hok.fresh hsz
  have hq := q1 (hp.objs.size + 1) hn
  rw [List.append_nil] at hq
  obtain ⟨nm, N', qn, bs, bm, hdct, sn, sub, abt, col, dd, k0, k1, k2, k3, k5, hC, hT⟩ := PySem.W.excInit_of I1.kIn q
  have kk : ∀ b o, hp.get? b = some o → ((hp.push (PySem.W.kdv_tup us)).push (PySem.HandSPX.excO C hp.objs.size)).get? b = some o := fun b o e => Heap.get?_push_of_some _ (Heap.get?_push_of_some _ e)
  have hget : ((hp.push (PySem.W.kdv_tup us)).push (PySem.HandSPX.excO C hp.objs.size)).get? (hp.objs.size + 1) = some (PySem.HandSPX.excO C hp.objs.size) := by heap_get
  have I2 : Inv X pins σ (upd H1 (hp.objs.size + 1) (exo (hp.objs.size + 1) C none)) ⟨(hp.push (PySem.W.kdv_tup us)).push (PySem.HandSPX.excO C hp.objs.size), g, dr, tk, os⟩ :=
    I1.laid (t' := tk) (a := hp.objs.size + 1) (o := exo (hp.objs.size + 1) C none) (h' := (hp.push (PySem.W.kdv_tup us)).push (PySem.HandSPX.excO C hp.objs.size)) kk hsz (exo_ok hget)
  have rl : Vals (V.ref (hp.objs.size + 1) :: vs) (Value.ref (hp.objs.size + 1) :: us) := .cons rfl r1
  have ln : (Value.ref (hp.objs.size + 1) :: us).length = ps.length := by rw [← rl.length]; exact F1.len _ _ _ _ hq
  have uz : us.length ≤ sizeLine := by rw [← Paired.length r1, sizeLine_eq]; omega
  have bd := hb _ (Value.ref (hp.objs.size + 1) :: us) I2.kIn (by rw [List.append_nil]; exact ln)
  rw [List.append_nil] at bd
  have P1 := I2.pin pn (List.mem_append_left _ hpn)
  have hpin : PinOk X.stack (upd H1 (hp.objs.size + 1) (exo (hp.objs.size + 1) C none)) ⟨(hp.push (PySem.W.kdv_tup us)).push (PySem.HandSPX.excO C hp.objs.size), g, dr, tk, os⟩ pn :=
    ⟨P1.1, P1.2.1, fun hmm => (List.mem_cons.mp (I2.stkSub pn.1 hmm)).elim P1.2.2.1 P1.2.2.2.1, P1.2.2.2.2⟩
  refine wpAny_call (PySem.HandSPX.call_own F hT hC (PySem.W.looks_findIn I1.kIn iC) (fun self => PySem.W.bind_fn I1.kIn self tI) uz
    (codeAny_mono (F1.run _ X.stack _ _ ⟨Value.ref (hp.objs.size + 1) :: us, []⟩ _ _ _ (fun _ _ _ => False) pn (hr.make C us []) ⟨hot.1, hot.2⟩ hpin (I2.env0.make C us []) bd rl hq) fun r s' hq' => ?_))
  cases r with
  | error er => exact hx pins σ _ _ er s' I2 hq'
  | ok fl =>
    cases fl with
    | ret u =>
      obtain ⟨v, H2, os2, bare2, un2, hok2, rv, ev, d, fs, ea, ed, hd1, q2⟩ := hq'
      subst ev
      obtain ⟨h2, g2, d2, t2, os'⟩ := s'
      obtain ⟨t0, G, J, kG, ge, hoe, na⟩ := mk_end0 (d2 := d2) (t2 := t2) I1 hsz kk un2 hok2 os2 bare2 ea ed hd1
      refine ⟨rv, ⟨hp.objs.size + 1, _, _, ⟨G, g2, d2, t2, os'⟩, _, .ref C, some d, rfl, J, kG, ge, hoe, ⟨rfl, rfl, fun vs hv => ?_⟩, rfl, rfl, na, rfl, bare2, rC, q2⟩, fun a oe vs ea2 hg2 hd2 => ?_⟩
      · cases hv
        rfl
      · cases ea2
        have hg3 : h2.get? (hp.objs.size + 1) = some oe := hg2
        rw [hoe] at hg3
        cases hg3
        cases hd2
        show (4 : Nat) < 6
        decide
    | next => exact False.elim hq'
    | brk => exact False.elim hq'
    | cont => exact False.elim hq'
end

/-! ### an exception leaves the suite of a clause that names its own -/
/-- what is then done: the name goes, the new exception flies on -/
def Behind (X : Cx) (A' : Around) (n : Str) (pos : Pos) (R : Value → Shared → Prop) (x : Value) (s : Shared) : Prop :=
  wpAny (model X.prog X.w) A' (noteFrame x X.env) (fun _ s1 =>
    wpAny (model X.prog X.w) A' (do bindName X.env n .none; unbindBehindTheSuite X.env n pos)
      (fun _ s2 => wpAny (model X.prog X.w) A' (passOn "try.except-as" x X.env : Sem Flow) (fun _ _ => False) R s2)
      (fun y s2 => wpAny (model X.prog X.w) A' (setFlight x none) (fun _ s3 => R y s3) R s2) s1) R s
section
variable {X : Cx} {pins : List (Addr × Obj)} {σ : L2.St} {H : Hp} {sI s : Shared} {B : Heap} {A' : Around} {R : Value → Shared → Prop} {Wout : WX} {i : Nat} {n : Str} {pos : Pos} {a : Addr} {cls : Value} {d : Option Addr}
theorem behind (hs : X.stack = X.env :: X.outer) (hf : X.env.frame = some X.env.locals) (hex : X.ex = []) (hfr : A'.frames = some (X.env :: X.outer)) (hN : X.N.Nodup) (hi : X.N[i]? = some n) (hln : X.env.kindOf n = some .local) (tk : L2.Takes X Wout)
    (hR : ∀ e s', X.xe e s' → R e s') (J : Inv X pins σ H sI) (nb : ∀ b o, sI.heap.get? b = some o → b ∉ frs X.stack → B.get? b = some o) (up : sI.heap.UpToSlots s.heap) (sky : L2.Sky B X.stack a (Zc cls d) X.env.locals s.heap)
    (na : H a = none) (os : s.os = sI.os) (ag : AllBare s.gens) (hw : Wout cls d (σ.set i none) H) : Behind X A' n pos R (.ref a) s := by
  have ok := J.ok
  rw [hs] at sky
  -- noted: held by this frame
  have fin : ∀ h1, HandSPX.HeldZ B (X.env :: X.outer) a (Zc cls d) X.env.locals h1 → s.heap.UpToSlots h1 →
      wpAny (model X.prog X.w) A' (do bindName X.env n .none; unbindBehindTheSuite X.env n pos)
        (fun _ s2 => wpAny (model X.prog X.w) A' (passOn "try.except-as" (.ref a) X.env : Sem Flow) (fun _ _ => False) R s2)
        (fun y s2 => wpAny (model X.prog X.w) A' (setFlight (.ref a) none) (fun _ s3 => R y s3) R s2) { s with heap := h1 } := fun h1 hh1 up1 => by
    have J1 : Inv X pins σ H { s with heap := h1 } := J.landed nb hh1.1 (up.trans up1) os ag
    obtain ⟨k1, k2, k3, oe, vs, T, oT, ts, he, hz, hd, hv1, hnT, hTe, hT, hdT, ht3⟩ := id hh1
    have nT : H T = none := (J.inGround nb).gone hnT
    have noFrame : ∀ (b : Addr) (o : Obj) (fv : Array Value), h1.get? b = some o → o.data = .fields fv → b ∉ frs (X.env :: X.outer) := fun b o fv e dd hm => by
      obtain ⟨_, o', e', hnf⟩ := k3.mem hm
      cases e.symm.trans e'
      exact hnf _ dd
    have inF : ∀ b, b = X.env.locals ∨ b ∈ X.fs → b ∈ frs (X.env :: X.outer) := fun b hb => by
      rcases hb with z | z
      · exact List.mem_filterMap.mpr ⟨X.env, List.mem_cons_self, by rw [hf, z]⟩
      · obtain ⟨e, he, q⟩ := List.mem_filterMap.mp z
        exact List.mem_filterMap.mpr ⟨e, List.mem_cons_of_mem _ he, q⟩
    have fa := noFrame a oe vs he hd
    have fT := noFrame T oT ts hT hdT
    have notCell : ∀ {o : Obj} {fv : Array Value}, o.data = .fields fv → ∀ v, o.data ≠ .cell v := fun {o fv} e v z => nomatch e.symm.trans z
    have S1 : Inv X ((a, oe) :: (T, oT) :: pins) σ H { s with heap := h1 } := ⟨J1.ok, J1.os, J1.bare, J1.base, J1.loc, J1.cell, J1.free, J1.freeC, fun p hp => by
      rcases List.mem_append.mp hp with z | z
      · exact J1.pin p (List.mem_append_left _ z)
      · rcases List.mem_cons.mp z with z | z
        · rw [z]
          exact ⟨he, na, fun e => fa (inF _ (.inl e)), fun e => fa (inF _ (.inr e)), fun v e => notCell hd v e⟩
        · rcases List.mem_cons.mp z with z | z
          · rw [z]
            exact ⟨hT, nT, fun e => fT (inF _ (.inl e)), fun e => fT (inF _ (.inr e)), fun v e => notCell hdT v e⟩
          · exact J1.pin p (List.mem_append_right _ z), J1.hok, J1.len⟩
    refine gone_ok S1 hN hi hln fun s6 S6 => ?_
    have J6 : Inv X pins (σ.set i none) H s6 := ⟨ok, S6.os, S6.bare, S6.base, S6.loc, S6.cell, S6.free, S6.freeC, fun p hp => S6.pin p (by
      rcases List.mem_append.mp hp with z | z
      · exact List.mem_append_left _ z
      · exact List.mem_append_right _ (List.mem_cons_of_mem _ (List.mem_cons_of_mem _ z))), S6.hok, S6.len⟩
    have ga : s6.heap.get? a = some oe := (S6.pin (a, oe) (List.mem_append_right _ List.mem_cons_self)).1
    have gT : s6.heap.get? T = some oT := (S6.pin (T, oT) (List.mem_append_right _ (List.mem_cons_of_mem _ List.mem_cons_self))).1
    -- what was there before is neither of the two
    have far : ∀ b o, sI.heap.get? b = some o → b ≠ a ∧ b ≠ T := fun b o e => by
      by_cases hb : b ∈ frs X.stack
      · rw [hs] at hb
        exact ⟨fun z => fa (z ▸ hb), fun z => fT (z ▸ hb)⟩
      · have q := nb b o e hb
        refine ⟨fun z => ?_, fun z => ?_⟩
        · rw [z, k2] at q
          cases q
        · rw [z, hnT] at q
          cases q
    have far0 : ∀ b o, X.s_0.heap.get? b = some o → b ≠ a ∧ b ≠ T := fun b o e => by
      obtain ⟨o', q⟩ := J.base.there b o e (by rw [hex]; simp)
      exact far b o' q
    obtain ⟨G, g1, g2⟩ := restrict s6.heap fun b => !(decide (b = a) || decide (b = T))
    have gIn : ∀ b o, G.get? b = some o → s6.heap.get? b = some o ∧ b ≠ a ∧ b ≠ T := fun b o e => by
      by_cases hb : b = a ∨ b = T
      · rw [g2 b (by rcases hb with z | z <;> simp [z])] at e
        cases e
      · rw [g1 b (by simp; exact ⟨fun z => hb (.inl z), fun z => hb (.inr z)⟩)] at e
        exact ⟨e, fun z => hb (.inl z), fun z => hb (.inr z)⟩
    have gOf : ∀ b o, b ≠ a → b ≠ T → s6.heap.get? b = some o → G.get? b = some o := fun b o n1 n2 e => (g1 b (by simp [n1, n2])).trans e
    have I6 : Inv X pins (σ.set i none) H { s6 with heap := G } := J6.less (fun b o e => (gIn b o e).1) gOf ⟨oe, vs, ga, hd⟩ ⟨oT, ts, gT, hdT⟩ na nT far0 fun p hp => far p.1 p.2 (J.pin p hp).1
    have none_ : ∀ b, b = a ∨ b = T → (PySem.W.hideAll G (frs X.stack)).get? b = none := fun b hb => by
      cases q : (PySem.W.hideAll G (frs X.stack)).get? b with
      | none => rfl
      | some o =>
        obtain ⟨_, n1, n2⟩ := gIn b o (PySem.W.of_hideAll _ q)
        exact (hb.elim n1 n2).elim
    have ff := funFrames_none (B := PySem.W.hideAll G (frs X.stack)) J6.stack fun b hb => PySem.W.hideAll_none _ hb
    unfold PySem.passOn
    refine wpAny_bind (wpAny_field ga hd hv1 ?_)
    rw [if_neg (show ¬ ((Value.ref T == Value.none) = true) from by simp)]
    have goOn : wpAny (model X.prog X.w) A' (setFlight (.ref a) X.env.frame) (fun _ s7 => wpAny (model X.prog X.w) A' (throw (.ref a) : Sem Flow) (fun _ _ => False) R s7) R s6 := by
      rw [hf]
      refine HandSPX.setFlight_anyZ (base := PySem.W.hideAll G (frs X.stack)) (l := X.stack) (Z := Zc cls d) (fun b o e => (gIn b o (PySem.W.of_hideAll _ e)).1) ff ⟨oe, vs, T, oT, ts, ga, hz, hd, hv1, none_ T (.inr rfl), hTe, gT, hdT, ht3⟩ fun h7 q1 q2 q3 up7 => wpAny_throw (hR _ _ (tk _ _ ?_))
      refine ⟨a, PySem.W.hideAll G (frs X.stack), { s6 with heap := G }, pins, σ.set i none, H, cls, d, rfl, I6, fun b o e hb => PySem.W.hideAll_get _ e hb, ?_, .inr (.inr ⟨q1, none_ a (.inl rfl), q2, q3⟩), na, rfl, J6.bare, hw⟩
      exact Heap.UpToSlots.trans (Heap.UpToSlots.of_keeps fun b o e => (gIn b o e).1) up7
    first
      | exact wpAny_bind (wpAny_pure (wpAny_bind goOn))
      | exact wpAny_bind goOn
  show wpAny (model X.prog X.w) A' (noteFrame (.ref a) X.env) _ _ _
  rcases sky with ⟨hB, hn, hl, oe, vs, he0, hz, hd, hv1⟩ | fl | hh
  · exact HandSPX.look_newZ Zc.steady hfr hl hf he0 hB hn hd hv1 hz fin
  · exact HandSPX.looks_onZ Zc.steady hfr hf fl fin
  · exact HandSPX.againZ hf hh.2.2.2 (fin s.heap hh (Heap.UpToSlots.refl _))
end
/-- the context of a named clause's suite that may raise -/
abbrev suX (X : Cx) (a : Addr) (pn : List (Addr × Obj)) (xe : Value → Shared → Prop) : Cx := { X with A := X.A.mark (some (.ref a)), calm := false, pn := pn, xe := xe }
section
variable {X : Cx} {x n : Str} {c : Value} {i : Nat} {body suite : List Stmt} {b₀ : Stmt} {np pos pos' : Pos} {tb : WX → TS} {ts : Addr → Value → Option Addr → TS} {Wout : WX}
/-- try: body, except x as n: a suite that may raise; the body's errors have no context -/
theorem ps_try_asX (hs : X.stack = X.env :: X.outer) (hf : X.env.frame = some X.env.locals) (hex : X.ex = []) (hN : X.N.Nodup) (hi : X.N[i]? = some n) (hln : X.env.kindOf n = some .local) (hc : Names X x c)
    (hpa : ∀ hd : Option Value, PassesOwnAt (model X.prog X.w) (X.A.mark hd) X.A X.env X.xe) (tk : L2.Takes X Wout)
    (hb : ∀ (W : WX) (pn : List (Addr × Obj)) (xe : Value → Shared → Prop), L2N.Takes (X.tr pn xe) W → PassesOwn (model X.prog X.w) X.A X.env xe → PSs (X.tr pn xe) body (tb W))
    (hsu : ∀ (a : Addr) (oe : Obj) (cls : Value) (d : Option Addr) (pn : List (Addr × Obj)) (xe : Value → Shared → Prop), L2N.Zn cls d oe → (∃ vs, oe.data = .fields vs) → L2.Takes (suX X a ((a, oe) :: pn) xe) (fun cls d σ H => Wout cls d (σ.set i none) H) → HotC (suX X a ((a, oe) :: pn) xe) →
      PSs (suX X a ((a, oe) :: pn) xe) (b₀ :: suite) (ts a cls d)) :
    PS X (.Try body [.ExceptHandler (some (.Name x np)) (some n) (b₀ :: suite) pos'] [] [] pos) (fun D σ H => tb (wAs X.K c i ts Wout D) D σ H) := by
  refine ⟨fun pins s σ H D I h => ?_⟩
  have ok := I.ok
  have hfr : X.A.frames = some (X.env :: X.outer) := by rw [ok.frames, hs]
  have hloc : Loc X.env.scope n := .inl hln
  have notFr : ∀ {B h : Heap} {a : Addr} {o : Obj} {vs : Array Value}, h.FunFrames B (X.env :: X.outer) → h.get? a = some o → o.data = .fields vs → a ∉ frs (X.env :: X.outer) := fun {B h a o vs} ff e dd hm => by
    obtain ⟨_, o', e', hnf⟩ := ff.mem hm
    cases e.symm.trans e'
    exact hnf _ dd
  refine wpAny_Try_except ?_
  refine wpAny_mono ((hb (wAs X.K c i ts Wout D) (X.pn ++ pins) (fun e s₁ => wpAny (model X.prog X.w) X.A (noteFrame e X.env) (fun _ s₂ => wpAny (model X.prog X.w) X.A (setFlight e none) (fun _ s₃ =>
    wpAny (model X.prog X.w) X.A (handleBy e X.env [.ExceptHandler (some (.Name x np)) (some n) (b₀ :: suite) pos']) (SP X pins D) X.xe s₃) X.xe s₂) X.xe s₁) (fun u s' xx => ?_) PassesOwn.looking).run [] s σ H D (I.toTry _) h) (fun f s1 hsp => ?_) (fun e s1 he => he)
  · obtain ⟨a, B, sI, pins', σ', H', cls, d, rfl, J', nb, up, sky, na, os, ag, b, hb1, hyes, hno⟩ := xx
    have J : Inv X pins σ' H' sI := J'.ofTry ok
    have sky' : Sky B (X.env :: X.outer) a (L2N.Zn cls d) X.env.locals s'.heap := by rw [← hs]; exact sky
    show wpAny (model X.prog X.w) X.A (noteFrame (.ref a) X.env) _ _ _
    refine L2N.Sky.land L2N.Zn.steady hfr hf sky' fun h3 fl3 up3 => ?_
    have J3 : Inv X pins σ' H' { s' with heap := h3 } := J.landed nb fl3.1 (up.trans up3) os ag
    obtain ⟨oe3, vs3, he3, hz3, hd3⟩ := fl3.there
    have nfr : a ∉ frs (X.env :: X.outer) := notFr fl3.2.2.1 he3 hd3
    have nL : a ≠ X.env.locals := fun z => nfr (List.mem_filterMap.mpr ⟨X.env, List.mem_cons_self, by rw [hf, z]⟩)
    have nF : a ∉ X.fs := fun hm => by
      obtain ⟨e, he, q⟩ := List.mem_filterMap.mp hm
      exact nfr (List.mem_filterMap.mpr ⟨e, List.mem_cons_of_mem _ he, q⟩)
    have S3 := J3.suite he3 hd3 na nL nF
    refine wpAny_handleBy_cons (codeAny_handlers_test ?_) (by intro q; cases q)
    have LT : PySem.W.Looks (model X.prog X.w) h3 (typeOf (.ref a)) cls := fun A Q E s k q => wpAny_typeOf_ref (k _ _ he3) (by rw [hz3.1]; exact q)
    have LM := PySem.W.exm_one (M := model X.prog X.w) (J3.kIn) LT hb1
    have test : ∀ {Q : Value → Shared → Prop} {E : Value → Shared → Prop}, Q c { s' with heap := h3 } → wpAny (model X.prog X.w) (X.A.mark (some (.ref a))) (eval (.Name x np) X.env) Q E { s' with heap := h3 } := fun {Q E} q => by
      obtain ⟨hg, hdbg, hm | ⟨hm, hv, hnn⟩⟩ := hc
      · exact ld_glob (X := X.suite a ((a, oe3) :: (X.pn ++ pins))) S3 hg hm q hdbg
      · exact ld_blt (X := X.suite a ((a, oe3) :: (X.pn ++ pins))) S3 hg hm hv q hnn hdbg
    refine test (LM.here ?_)
    cases b with
    | true =>
      refine codeAny_handlers_suite_as ?_
      refine HandSPX.lands_againZ fl3 fun h4 fl4 up4 => ?_
      have J4 : Inv X pins σ' H' { s' with heap := h4 } := J.landed nb fl4.1 ((up.trans up3).trans up4) os ag
      obtain ⟨oe4, vs4, he4, hz4, hd4⟩ := fl4.there
      have S4 := J4.suite he4 hd4 na nL nF
      refine store_ok (X := X.suite a ((a, oe4) :: (X.pn ++ pins))) (v := .ref a) S4 hN hi hloc rfl (fun s5 S5 => ?_) (.inr hln)
      have hot : ∀ xe, HotC (suX X a ((a, oe4) :: (X.pn ++ pins)) xe) := fun xe => ⟨(a, oe4), ⟨rfl, vs4, hd4, hz4.2.2 vs4 hd4⟩, List.mem_cons_self⟩
      have toX : ∀ {xe : Value → Shared → Prop} {pn' : List (Addr × Obj)} {σ2 : L2.St} {H2 : Hp} {s2 : Shared}, Inv (suX X a ((a, oe4) :: (X.pn ++ pins)) xe) pn' σ2 H2 s2 → Inv X pins σ2 H2 s2 := fun J => ⟨ok, J.os, J.bare, J.base, J.loc, J.cell, J.free, J.freeC, fun p hp => J.pin p (List.mem_append_left _ (List.mem_cons_of_mem _ hp)), J.hok, J.len⟩
      have ofS : ∀ {xe : Value → Shared → Prop} {σ2 : L2.St} {H2 : Hp} {s2 : Shared}, Inv (X.suite a ((a, oe4) :: (X.pn ++ pins))) [] σ2 H2 s2 → Inv (suX X a ((a, oe4) :: (X.pn ++ pins)) xe) [] σ2 H2 s2 := fun J =>
        ⟨⟨J.ok.mod, J.ok.kind, J.ok.glob, J.ok.blt, J.ok.above, J.ok.inj, J.ok.has, J.ok.cab, J.ok.hd, J.ok.frames, J.ok.stk, J.ok.exf, J.ok.bs, J.ok.bsz, J.ok.noex, J.ok.exfs, J.ok.funs, J.ok.frf⟩, J.os, J.bare, J.base, J.loc, J.cell, J.free, J.freeC, J.pin, J.hok, J.len⟩
      have key : ∀ xe : Value → Shared → Prop, (∀ u2 s2, L2.XE (suX X a ((a, oe4) :: (X.pn ++ pins)) xe) (fun cls d σ H => Wout cls d (σ.set i none) H) u2 s2 → xe u2 s2) →
          wpAny (model X.prog X.w) (X.A.mark (some (.ref a))) (execs (b₀ :: suite) X.env) (SP (suX X a ((a, oe4) :: (X.pn ++ pins)) xe) [] { nx := fun σ' H' => D.nx (σ'.set i none) H', rt := D.rt, bk := fun σ' H' => D.bk (σ'.set i none) H', ct := fun σ' H' => D.ct (σ'.set i none) H' }) xe s5 :=
        fun xe hx => (hsu a oe4 cls d (X.pn ++ pins) xe hz4 ⟨_, hd4⟩ hx (hot xe)).run [] s5 _ H' _ (ofS S5) (hyes rfl a na)
      refine wpAny_mono (key _ (fun u2 s2 x2 => ?_)) (fun f s6 hsp => ?_) (fun _ _ z => z)
      · obtain ⟨a2, B2, sI2, pn2, σ2, H2, cls2, d2, rfl, I2, nb2, up2, sky2, na2, os2, ag2, w2⟩ := x2
        exact behind (A' := X.A.mark (some (.ref a))) hs hf hex hfr hN hi hln tk (fun e6 s6 z => hpa (some (.ref a)) e6 s6 z) (toX I2) nb2 up2 sky2 na2 os2 ag2 w2
      · have end_ : ∀ {σ6 : L2.St} {H6 : Hp} {Q : Shared → Prop} {E6 : Value → Shared → Prop} {A6 : Around}, Inv X pins σ6 H6 s6 → (∀ s7, Inv X pins (σ6.set i none) H6 s7 → Q s7) →
            wpAny (model X.prog X.w) A6 (do bindName X.env n .none; unbindBehindTheSuite X.env n pos') (fun _ s7 => Q s7) E6 s6 := fun {σ6 H6 Q E6 A6} S6 hq => gone_ok S6 hN hi hln hq
        cases f with
        | next =>
          obtain ⟨σ6, H6, S6, q6⟩ := hsp
          exact end_ (toX S6) fun s7 J7 => ⟨_, _, J7, q6⟩
        | brk =>
          obtain ⟨σ6, H6, S6, q6⟩ := hsp
          exact end_ (toX S6) fun s7 J7 => ⟨_, _, J7, q6⟩
        | cont =>
          obtain ⟨σ6, H6, S6, q6⟩ := hsp
          exact end_ (toX S6) fun s7 J7 => ⟨_, _, J7, q6⟩
        | ret u =>
          obtain ⟨v6, σ6, H6, S6, r6, q6⟩ := hsp
          exact end_ (toX S6) fun s7 J7 => ⟨_, _, _, J7, r6, q6⟩
    | false =>
      show wpAny _ X.A (handleBy (.ref a) X.env []) _ _ _
      refine wpAny_handleBy_nil ?_
      obtain ⟨k1, k2, k3, oe, vs, T, oT, ts', he, hz, hd, h1, hr⟩ := id (flyingZ_imp (fun o z => L2N.Zn.zc z) fl3)
      unfold PySem.passOn
      refine wpAny_bind (wpAny_field he hd h1 ?_)
      rw [if_neg (show ¬ ((Value.ref T == Value.none) = true) from by simp)]
      have fin : wpAny (model X.prog X.w) X.A (setFlight (.ref a) X.env.frame) (fun _ s4 => wpAny (model X.prog X.w) X.A (throw (.ref a) : Sem Flow) (SP X pins D) X.xe s4) X.xe { s' with heap := h3 } := by
        rw [hf]
        refine HandSPX.setFlight_upZ (flyingZ_imp (fun o z => L2N.Zn.zc z) fl3) fun h4 hh4 up4 => wpAny_throw (tk _ _ ?_)
        exact ⟨a, B, sI, pins, σ', H', cls, d, rfl, J, nb, (up.trans up3).trans up4, .inr (.inr (by rw [hs]; exact hh4)), na, os, ag, hno rfl⟩
      first
        | exact wpAny_bind (wpAny_pure (wpAny_bind fin))
        | exact wpAny_bind fin
  · cases f with
    | next =>
      obtain ⟨σ', H', J', q⟩ := hsp
      exact wpAny_execs_nil ⟨σ', H', J'.ofTry ok, q⟩
    | brk =>
      obtain ⟨σ', H', J', q⟩ := hsp
      exact ⟨σ', H', J'.ofTry ok, q⟩
    | cont =>
      obtain ⟨σ', H', J', q⟩ := hsp
      exact ⟨σ', H', J'.ofTry ok, q⟩
    | ret u =>
      obtain ⟨v, σ', H', J', r, q⟩ := hsp
      exact ⟨v, σ', H', J'.ofTry ok, r, q⟩
end
/-- a field of the error that is handled -/
theorem pe_xfP {X : Cx} {a C : Addr} {oe : Obj} {cls : Value} {d : Option Addr} {e : Expr} {te : TE} {pos : Pos} {n : Str} (T : XfC X.K C) (hno : PySem.W.findIn X.K (.ref C) n = some none) (hp : (a, oe) ∈ X.pn)
    (hz : Zc cls d oe) (hf : ∃ vs, oe.data = .fields vs) (he : PE X e te) (hb : attributeBase e n X.env (eval e X.env) = eval e X.env := by rfl) : PE X (.Attribute e n pos) (tXf a cls d C n te) := by
  refine ⟨fun pins s σ H Q I h => attr_of hb (thn (he.run pins s σ H _ I h) fun u s1 hh => ?_)⟩
  obtain ⟨x, H1, I1, rx, rfl, rfl, dd, fs, v, rfl, ea, l, q⟩ := hh
  cases (show u = Value.ref a from rx)
  have ha := (I1.pin (a, oe) (List.mem_append_left _ hp)).1
  obtain ⟨vs, hd⟩ := hf
  obtain ⟨mA, hns, hr⟩ := (show ObjOk X.prog X.w H1 s1.heap dd (.xd fs) from I1.hok dd _ ea)
  obtain ⟨od, ho, hl⟩ := lookIn_ns hns
  obtain ⟨u, hu, ru⟩ := RelO.some_of (v := v) (o := mA n) (by rw [← l]; exact hr n)
  have J : PySem.W.InstAt s1.heap a oe C (some od) := ⟨ha, hz.1, by unfold PySem.W.notCls; rw [hd] <;> rfl, by rw [hz.2]; exact ho⟩
  exact HandSPX.exc_get I1.kIn J T.ga T.gg T.exC (PySem.W.findObj_own T.hdC hno rfl (by rw [hl, hu])) (handed_of ru) ⟨v, H1, I1.tok _, ru, q⟩
end Xv

namespace K37
open PySem PySem.Spec PyProof.Rows L2
abbrev sSrc : Stmt := sLawSource
abbrev sPick : Stmt := sLawPick
abbrev FnP (K : PySem.W.Frag) (x : Str) (st : Stmt) (f : Addr) (fd : FuncData) : Prop := FunD K x x (defArgs st) (defBody st) (defScope st) [] [] f fd
/-! an if whose test is known not to hold -/
def tIfN (tc : TT) (u : TS) : TS := fun D σ H => tc σ H fun k H1 => k = false ∧ u D σ H1
theorem ps_ifN {X : Cx} {c : Expr} {a b : List Stmt} {tc : TT} {u : TS} {pos : Pos} (hc : PT X c tc) (hb : PSs X b u) : PS X (.If c a b pos) (tIfN tc u) := by
  refine ⟨fun pins s σ H D I h => ?_⟩
  refine wpAny_If (thn (hc.run pins s σ H _ I h) fun d s1 ⟨H1, I1, e, q1⟩ => ?_)
  subst e
  exact hb.run pins s1 σ H1 D I1 q1
/-- the source's pairs -/
def skv (c : Addr) (l m t : Int) : List (Key × V) := [(.inr "cells", .ref c), (.inr "left", .int l), (.inr "mixed", .int m), (.inr "turn", .int t)]
theorem skv_cells (c : Addr) (l m t : Int) : valV (skv c l m t) (.inr "cells") = some (.ref c) := by rfl
theorem skv_left (c : Addr) (l m t : Int) : valV (skv c l m t) (.inr "left") = some (.int l) := by rfl
theorem skv_mixed (c : Addr) (l m t : Int) : valV (skv c l m t) (.inr "mixed") = some (.int m) := by rfl
theorem skv_turn (c : Addr) (l m t : Int) : valV (skv c l m t) (.inr "turn") = some (.int t) := by rfl
theorem put_left (c : Addr) (l m t y : Int) : putK (skv c l m t) (.inr "left") (.int y) = skv c y m t := by rfl
theorem put_turn (c : Addr) (l m t y : Int) : putK (skv c l m t) (.inr "turn") (.int y) = skv c l m y := by rfl
theorem skv_merge (c : Addr) (l m t : Int) : mergeK [] (skv c l m t) = skv c l m t := by rfl

theorem dg_cells {H : Hp} {d c : Addr} {l m t : Int} (h : H d = some (.dK (skv c l m t))) : DGet H d (.str "cells") (some (.ref c)) := by
  have z : DGet H d (kV (.inr "cells")) (valV (skv c l m t) (.inr "cells")) := DGet.k h
  rw [skv_cells] at z
  exact z
theorem dg_left {H : Hp} {d c : Addr} {l m t : Int} (h : H d = some (.dK (skv c l m t))) : DGet H d (.str "left") (some (.int l)) := by
  have z : DGet H d (kV (.inr "left")) (valV (skv c l m t) (.inr "left")) := DGet.k h
  rw [skv_left] at z
  exact z
theorem dg_mixed {H : Hp} {d c : Addr} {l m t : Int} (h : H d = some (.dK (skv c l m t))) : DGet H d (.str "mixed") (some (.int m)) := by
  have z : DGet H d (kV (.inr "mixed")) (valV (skv c l m t) (.inr "mixed")) := DGet.k h
  rw [skv_mixed] at z
  exact z
theorem dg_turn {H : Hp} {d c : Addr} {l m t : Int} (h : H d = some (.dK (skv c l m t))) : DGet H d (.str "turn") (some (.int t)) := by
  have z : DGet H d (kV (.inr "turn")) (valV (skv c l m t) (.inr "turn")) := DGet.k h
  rw [skv_turn] at z
  exact z
theorem dp_left {H : Hp} {d c : Addr} {l m t y : Int} (h : H d = some (.dK (skv c l m t))) : DPut H d (.str "left") (.int y) (upd H d (.dK (skv c y m t))) := by
  have z : DPut H d (kV (.inr "left")) (.int y) (upd H d (.dK (putK (skv c l m t) (.inr "left") (.int y)))) := DPut.k h (by show 4 < sizeLine; decide)
  rw [put_left] at z
  exact z
theorem dp_turn {H : Hp} {d c : Addr} {l m t y : Int} (h : H d = some (.dK (skv c l m t))) : DPut H d (.str "turn") (.int y) (upd H d (.dK (skv c l m y))) := by
  have z : DPut H d (kV (.inr "turn")) (.int y) (upd H d (.dK (putK (skv c l m t) (.inr "turn") (.int y)))) := DPut.k h (by show 4 < sizeLine; decide)
  rw [put_turn] at z
  exact z
theorem scS : FnScope ["_law_script", "_law_mixed", "_law_cell", "_law_cells", "_law_k"] ["_law_script"] (defScope sSrc) := ⟨rfl, rfl, rfl, by decide +kernel, rfl, by decide +kernel, by decide +kernel⟩
theorem scP : FnScope ["_law_source_here", "_law_many", "_law_cells", "_law_left", "_law_turn", "_law_mixed"] ["_law_source_here", "_law_many"] (defScope sPick) := ⟨rfl, rfl, rfl, by decide +kernel, rfl, by decide +kernel, by decide +kernel⟩
/-- the source at d, its cells at c -/
def SrcAt (H : Hp) (d c : Addr) : Prop := ∃ (xs : List Int) (l m t : Int), H c = some (.lst (xs.map V.int)) ∧ xs.length ≤ 63 ∧ H d = some (.dK (skv c l m t))
def spSrc (K : PySem.W.Frag) : Sp := fun vs H Q _ => ∃ (a : Addr) (ns : List Int), vs = [.ref a] ∧ SqL K H a (ns.map V.int) ∧ ns.length ≤ 63 ∧
  ∀ (d c : Addr) (H' : Hp), Same H H' → H d = none → H c = none → SrcAt H' d c → Q (.ref d) H'
def spPick : Sp := fun vs H Q _ => ∃ (d c : Addr) (n : Int), vs = [.ref d, .int n] ∧ SrcAt H d c ∧ 1 ≤ n ∧ n ≤ 1000 ∧
  ∀ (r : Int) (H' : Hp), 0 ≤ r → r < n → SrcAt H' d c → (∀ b, b ≠ d → b ≠ c → H' b = H b) → Q (.int r) H'
/-- the built-in names that the text reads -/
structure Bl (mg : Str → Option Value) : Prop where
  abs : mg "abs" = none
  int : mg "int" = none
  len : mg "len" = none
  range : mg "range" = none
  str : mg "str" = none
theorem Fx.bl {w : World} {K : PySem.W.Frag} {mg : Str → Option Value} (Y : Fx w K mg) : Bl mg := ⟨Y.bAbs, Y.bInt, Y.bLen, Y.bRange, Y.bStr⟩
section
variable {P : Program} {w : World} {K : PySem.W.Frag} {mg : Str → Option Value} {base : Heap}
theorem nosl {i : Expr} (h : ∀ ov iv, subscripted i false ov iv = operate [ov, iv] (getItem ov iv) := by intro _ _; rfl) : NoSl i := h
theorem okD {x qual : Str} {params : Arguments} {body : List Stmt} {scope : Scope} {dvs : List V} {kws : List (Str × V)} {f : Addr} {fd : FuncData} {N ps : List Str} {k : Nat} {sp : Sp} (F : FunD K x qual params body scope dvs kws f fd) (S : FnScope N ps scope) (len : ∀ vs H Q E, sp vs H Q E → vs.length = ps.length)
    (hb : ∀ (cdv : Value) (A : Around) (outer : List Env) (s : Shared) (H : Hp) (vs : List V) (Q : VK) (E : XK), Room k (A.deeper (envOfC qual scope s.heap.objs.size f cdv)) → sp vs H Q E →
      ∃ t, PSs (cxOf CX0 P w K mg base N qual scope f cdv A outer s H E).nox body t ∧ t { nx := fun _ H' => Q .non H', rt := Q } (start N vs) H) : FnOk P w K mg base CX0 (k + 1) f fd ps sp :=
  F.ok S len fun cdv A outer s H vs Q E hr h => let ⟨t, h1, h2⟩ := hb cdv A outer s H vs Q E hr h; ⟨t, h1.nox, h2⟩
theorem ok_pick {f : Addr} {fd : FuncData} (F : FnP K "_law_pick" sPick f fd) (B : Bl mg) : FnOk P w K mg base CX0 1 f fd ["_law_source_here", "_law_many"] spPick := by
  refine okD F scP (fun vs H Q E h => ?_) (fun cdv A outer s H vs Q E hr h => ?_)
  · obtain ⟨d, c, n, rfl, _⟩ := h
    rfl
  · have hu := hu_of hr
    have nd := scP.nd
    have TL : ∃ tl, PSs (cxOf CX0 P w K mg base ["_law_source_here", "_law_many", "_law_cells", "_law_left", "_law_turn", "_law_mixed"] "_law_pick" (defScope sPick) f cdv A outer s H E).nox ((defBody sPick).drop 3) tl ∧
        (∀ (Q : VK) (d c : Addr) (n l' m t : Int) (H' : Hp), 1 ≤ n → n ≤ 1000 → H' d = some (.dK (skv c l' m t)) →
          (∀ (r y t' : Int), 0 ≤ r → r < n → Q (.int r) (upd H' d (.dK (skv c y m t')))) → tl { nx := fun _ H' => Q .non H', rt := Q } [some (.ref d), some (.int n), some (.ref c), none, none, none] H') := by
      refine ⟨_, pss_cons (ps_set (i := 3) nd rfl (Or.inl rfl) (pe_dget hu (pv 0) pe_str nosl))
      (pss_cons (ps_if (pt_cmpR op_gt (pv 3) pe_int (nomark _))
        (pss_cons (ps_dput hu (pv 0) pe_str (pe_op op_fdiv (pv 3) (pv 1)) rfl)
          (pss_one (ps_ret (pe_op op_mod (pe_callTy call_int1 (by rfl) B.int boot_int (pa_cons (pv 3) pa_nil)) (pv 1))))) pss_nil)
      (pss_cons (ps_dput hu (pv 0) pe_str (pe_op op_add (pe_dget hu (pv 0) pe_str nosl) pe_int) rfl)
      (pss_cons (ps_set (i := 4) nd rfl (Or.inl rfl) (pe_dget hu (pv 0) pe_str nosl))
      (pss_cons (ps_set (i := 5) nd rfl (Or.inl rfl) (pe_op op_mod (pe_callTy call_int1 (by rfl) B.int boot_int (pa_cons (pe_op op_add (pe_dget hu (pv 0) pe_str nosl) (pe_op op_mul (pv 4) pe_int)) pa_nil)) pe_int))
      (pss_cons (ps_set (i := 5) nd rfl (Or.inl rfl) (pe_op op_mod (pe_callTy call_int1 (by rfl) B.int boot_int (pa_cons (pe_op op_add (pe_op op_mul (pv 5) (pv 5)) (pe_op op_mul (pv 4) pe_int)) pa_nil)) pe_int))
      (pss_cons (ps_ifN (pt_cmpR op_gt (pv 1) (pe_op op_pow pe_int pe_int) (nomark _)) pss_nil)
      (pss_one (ps_ret (pe_op op_mod (pe_callTy call_int1 (by rfl) B.int boot_int (pa_cons (pe_op op_fdiv (pv 5) pe_int) pa_nil)) (pv 1)))))))))), ?_⟩
      intro Q d c n l' m t H' h1 h2 hd' k
      refine ⟨_, rfl, d, .int l', rfl, dg_left hd', ?_⟩
      refine ⟨_, rfl, _, _, rfl, rfl, _, rfl, ite2 (fun c2 => ?_) (fun _ => ?_)⟩
      · refine ⟨_, rfl, _, rfl, _, _, rfl, rfl, ⟨by omega, by omega⟩, _, rfl, d, _, rfl, dp_left hd', ?_⟩
        exact ⟨_, rfl, .inl ⟨_, rfl, _, rfl, _, _, rfl, rfl, (by omega), k _ _ _ (Int.emod_nonneg _ (by omega)) (Int.emod_lt_of_pos _ (by omega))⟩⟩
      · refine ⟨_, rfl, d, .int t, rfl, dg_turn hd', _, _, rfl, rfl, _, rfl, d, _, rfl, dp_turn hd', ?_⟩
        refine ⟨_, rfl, d, .int (t + 1), rfl, dg_turn upd_same, ?_⟩
        refine ⟨_, rfl, d, .int m, rfl, dg_mixed upd_same, _, rfl, _, _, rfl, rfl, .inr ⟨by decide, by decide⟩, _, _, rfl, rfl, .inl ⟨_, rfl, _, _, rfl, rfl, (show (0 : Int) < 998244353 by decide), ?_⟩⟩
        have b1 := Int.emod_nonneg (m + (t + 1) * 104729) (show (998244353 : Int) ≠ 0 by decide)
        have b2 := Int.emod_lt_of_pos (m + (t + 1) * 104729) (show (0 : Int) < 998244353 by decide)
        refine ⟨_, rfl, _, rfl, _, _, rfl, rfl, .inl ⟨by omega, by omega⟩, _, rfl, _, _, rfl, rfl, .inr ⟨by decide, by decide⟩, _, _, rfl, rfl, .inl ⟨_, rfl, _, _, rfl, rfl, (show (0 : Int) < 2147483647 by decide), ?_⟩⟩
        refine ⟨_, rfl, _, _, rfl, rfl, (by unfold CPow; decide), _, _, rfl, rfl, _, rfl, decide_eq_false (by show ¬ (n > (10:Int) ^ (7:Int).toNat); rw [show (10:Int) ^ (7:Int).toNat = 10000000 from by decide]; omega), ?_⟩
        refine ⟨_, rfl, _, _, rfl, rfl, ⟨by decide, by decide⟩, .inl ⟨_, rfl, _, rfl, _, _, rfl, rfl, (by omega), ?_⟩⟩
        exact k _ _ _ (Int.emod_nonneg _ (by omega)) (Int.emod_lt_of_pos _ (by omega))
    obtain ⟨tl, htl, rtl⟩ := TL
    refine ⟨_, pss_cons (ps_if (pt_cmpR op_lt (pv 1) pe_int (nomark _)) (pss_one (ps_ret pe_int)) pss_nil)
      (pss_cons (ps_set (i := 2) nd rfl (Or.inl rfl) (pe_dget hu (pv 0) pe_str nosl))
      (pss_cons (ps_while PassesOwn.never (pw_and (pt_cmpR op_lt (pe_dget hu (pv 0) pe_str nosl) pe_int (nomark _)) (pw_and1 (pt_cmpR op_gt (pe_callB call_len_seq (by rfl) B.len PySem.boot_len (pa_cons (pv 2) pa_nil)) pe_int (nomark _)))).pt
        (pss_one (ps_dput hu (pv 0) pe_str (pe_bm0 PySem.F.plainAttrs_list PySem.F.slot_list_pop PySem.F.type_list_pop mt_pop (pv 2)) rfl))) htl)), ?_⟩
    obtain ⟨d, c, n, rfl, ⟨xs, l, m, t, hc, hx, hd⟩, h1, h2, k⟩ := h
    have ncd : c ≠ d := ne_of hc hd (by intro z; cases z)
    have tail : ∀ (ys : List Int) (l' : Int) (H' : Hp), H' c = some (.lst (ys.map V.int)) → ys.length ≤ 63 → H' d = some (.dK (skv c l' m t)) → (∀ b, b ≠ d → b ≠ c → H' b = H b) →
        tl { nx := fun _ H' => Q .non H', rt := Q } [some (.ref d), some (.int n), some (.ref c), none, none, none] H' := fun ys l' H' hc' hy hd' keep =>
      rtl Q d c n l' m t H' h1 h2 hd' fun r y t' r0 r1 => k r _ r0 r1 ⟨ys, _, m, _, (by rw [upd_ne ncd]; exact hc'), hy, upd_same⟩ (fun b hb hb2 => by rw [upd_ne hb]; exact keep b hb hb2)
    refine ⟨_, rfl, _, _, rfl, rfl, _, rfl, ite2 (fun _ => k 0 H (Int.le_refl 0) (by omega) ⟨xs, l, m, t, hc, hx, hd⟩ fun _ _ _ => rfl) (fun _ => ?_)⟩
    refine ⟨_, rfl, d, .ref c, rfl, dg_cells hd, ?_⟩
    refine while_by (fun σ H' => ∃ (ys : List Int) (l' : Int), σ = [some (.ref d), some (.int n), some (.ref c), none, none, none] ∧ H' c = some (.lst (ys.map V.int)) ∧ ys.length ≤ 63 ∧ H' d = some (.dK (skv c l' m t)) ∧ ∀ b, b ≠ d → b ≠ c → H' b = H b)
      (fun _ H' => match H' c with | some (.lst zs) => zs.length | _ => 0) ⟨xs, l, rfl, hc, hx, hd, fun _ _ _ => rfl⟩ ?_ ?_
    · rintro σ H' ⟨ys, l', rfl, hc', hy, hd', keep⟩
      refine ⟨_, rfl, d, .int l', rfl, dg_left hd', _, _, rfl, rfl, _, rfl, ite2 (fun _ => ⟨_, rfl, c, ys.map V.int, rfl, .inl (SqL.of hc'), _, _, rfl, rfl, _, rfl, ?w1⟩) (fun _ => iteF ?w2)⟩
      case w1 =>
        refine ite2 (fun c1 => ?_) (fun _ => ?w3)
        · have hl : 0 < ys.length := by
            have e := of_decide_eq_true c1
            rw [List.length_map] at e
            omega
          obtain ⟨y, ey⟩ : ∃ y, ys[ys.length - 1]? = some y := ⟨ys[ys.length - 1], by rw [List.getElem?_eq_getElem (by omega)]⟩
          refine ⟨_, rfl, .inl ⟨rfl, _, SqL.of hc'⟩, c, ys.map V.int, .int y, rfl, rfl, hc', (by rw [List.length_map, List.getElem?_map, ey]; rfl), ?_⟩
          have hd2 : upd H' c (.lst (ys.map V.int).dropLast) d = some (.dK (skv c l' m t)) := by rw [upd_ne ncd.symm]; exact hd'
          refine ⟨_, rfl, d, _, rfl, dp_left hd2, ⟨ys.dropLast, y, rfl, ?_, ?_, upd_same, ?_⟩, ?_⟩
          · rw [upd_ne ncd, upd_same, List.map_dropLast]
          · rw [List.length_dropLast]; omega
          · intro b hb hb2
            rw [upd_ne hb, upd_ne hb2]
            exact keep b hb hb2
          · show (match upd (upd H' c (.lst (ys.map V.int).dropLast)) d _ c with | some (.lst zs) => zs.length | _ => 0) < (match H' c with | some (.lst zs) => zs.length | _ => 0)
            rw [upd_ne ncd, upd_same, hc']
            show (ys.map V.int).dropLast.length < (ys.map V.int).length
            rw [List.length_dropLast, List.length_map]
            omega
        case w3 => exact tail ys l' H' hc' hy hd' keep
      case w2 => exact tail ys l' H' hc' hy hd' keep
    · rintro σ H' Q1 Q2 hq ⟨v, e1, a, u, e2, g, i, j, e3, e4, z⟩
      obtain ⟨b, e5, z⟩ := z
      refine ⟨v, e1, a, u, e2, g, i, j, e3, e4, b, e5, ?_⟩
      cases b with
      | false => exact hq _ _ z
      | true =>
        obtain ⟨v, e1, p, ys, e2, hs, i, j, e3, e4, b, e5, z⟩ := z
        exact ⟨v, e1, p, ys, e2, hs, i, j, e3, e4, b, e5, hq _ _ z⟩

/-- len of a list or a tuple, whatever the block -/
def rLn (K : PySem.W.Frag) : List V → Hp → VK → Prop := fun us G R => ∃ (q : Addr) (zs : List V), us = [.ref q] ∧ (SqL K G q zs ∨ SqT K G q zs) ∧ R (.int zs.length) G
abbrev NSrc : List Str := ["_law_script", "_law_mixed", "_law_cell", "_law_cells", "_law_k"]
/-- the cells, none below nought -/
def ab (ns : List Int) : List Int := ns.map fun i => if i < 0 then -i else i
theorem sq_keep {H H' : Hp} {D a : Addr} {xs : List V} (hD : H D = none) (q : ∀ b, b ≠ D → H' b = H b) (h : SqL K H a xs) : SqL K H' a xs :=
  Same.seq (fun b o e => (q b (ne_of_none e hD)).trans e) h
theorem map_abs (ns : List Int) : (ns.map fun i => V.int (if i < 0 then -i else i)) = (ns.map fun i => if i < 0 then -i else i).map V.int := by rw [List.map_map]; rfl
theorem int_at {ns : List Int} {i : Nat} {y : V} (hi : (ns.map V.int)[i]? = some y) : ∃ z, ns[i]? = some z ∧ y = V.int z := by
  rw [List.getElem?_map] at hi
  cases e : ns[i]? with
  | none => rw [e] at hi; cases hi
  | some z => rw [e] at hi; exact ⟨z, rfl, (Option.some.inj hi).symm⟩
theorem ok_src {f : Addr} {fd : FuncData} (F : FnP K "_law_source" sSrc f fd) (B : Bl mg) : FnOk P w K mg base CX0 1 f fd ["_law_script"] (spSrc K) := by
  refine okD F scS (fun vs H Q E h => ?_) (fun cdv A outer s H vs Q E hr h => ?_)
  · obtain ⟨a, ns, rfl, _⟩ := h
    rfl
  · have hu := hu_of hr
    have nd := scS.nd
    refine ⟨_, pss_cons (ps_set (i := 1) nd rfl (Or.inl rfl) pe_int)
      (pss_cons (ps_for PassesOwn.never rfl (pi_list (pv 0)) (pg_name (i := 2) nd rfl (Or.inl rfl))
        (pss_one (ps_set (i := 1) nd rfl (Or.inl rfl) (pe_op op_mod (pe_callTy call_int1 (by rfl) B.int boot_int (pa_cons (pe_op op_add (pe_op op_add (pe_op op_mul (pv 1) pe_int) (pe_op op_mul (pv 2) pe_int)) pe_int) pa_nil)) pe_int))))
      (pss_cons (ps_set (i := 3) nd rfl (Or.inr rfl) (pe_lc (own := [("_law_cell", 2)]) (g := gName 2) (tt := tYes) rfl nd (pi_list (pv 0)) (blkOk_by (N := NSrc) (sc := defScope sSrc) (by decide +kernel)) (fun _ _ _ _ _ => pg_name (i := 2) nd rfl (Or.inl rfl)) (fun _ _ _ _ _ => pts_nil)
        (fun _ _ _ _ _ => pe_callB call_abs (by rfl) B.abs (by decide +kernel) (pa_cons (pv 2) pa_nil))))
      (pss_one (ps_ret (pe_disp (pps_cons pe_str (pe_lc (own := [("_law_k", 4)]) (g := gName 4) (tt := tYes) rfl nd (pi_range1 (by rfl) B.range (pa_cons (pe_callB call_len_seq (by rfl) B.len PySem.boot_len (pa_cons (pv 3) pa_nil)) pa_nil)) (blkOk_by (N := NSrc) (sc := defScope sSrc) (by decide +kernel)) (fun _ _ _ _ _ => pg_name (i := 4) nd rfl (Or.inl rfl)) (fun _ _ _ _ _ => pts_nil)
          (fun _ _ _ _ _ => pe_ix (r := rIxL K) ix_list (pv 3) (pe_op op_sub (pe_op op_sub (pe_callB (r := rLn K) call_len_seq (by rfl) B.len PySem.boot_len (pa_cons (pv 3) pa_nil)) pe_int) (pv 4)) (fun _ _ => rfl)))
        (pps_cons pe_str pe_int (pps_cons pe_str (pv 1) (pps_cons pe_str pe_int pps_nil)))) rfl rfl (by simp) (by decide)))))), ?_⟩
    obtain ⟨a, ns, rfl, hS, hl, k⟩ := h
    refine ⟨_, rfl, a, rfl, ⟨_, hS⟩, for_list (K := K) (a := a) (xs := ns.map V.int) (fun i σ H2 => ∃ (z : Int) (v : Option V), σ = [some (.ref a), some (.int z), v, none, none] ∧ 0 ≤ z ∧ z < 2147483629 ∧ H2 = H)
      ⟨11, none, rfl, by decide, by decide, rfl⟩ (fun i σ H2 _ ⟨_, _, _, _, _, e⟩ => by rw [e]; exact hS) ?_ ?_⟩
    · rintro i y σ H2 hi ⟨z, v, rfl, z0, z1, rfl⟩
      obtain ⟨x, _, rfl⟩ := int_at hi
      refine ⟨_, rfl, _, _, rfl, rfl, .inr ⟨by decide, by decide⟩, _, rfl, _, _, rfl, rfl, .inr ⟨by decide, by decide⟩, _, _, rfl, rfl, _, _, rfl, rfl, .inl ⟨_, rfl, _, _, rfl, rfl, (show (0 : Int) < 2147483629 by decide), ?_⟩⟩
      exact ⟨_, _, rfl, Int.emod_nonneg _ (by decide), Int.emod_lt_of_pos _ (by decide), rfl⟩
    · rintro σ H2 ⟨z, v, rfl, z0, z1, rfl⟩
      refine ⟨_, rfl, a, rfl, ⟨_, hS⟩, fun D hD => ?_⟩
      refine lc_list (xs := ns.map V.int) (fun i H' => H' D = some (.lst ((ab (ns.take i)).map V.int)) ∧ ∀ b, b ≠ D → H' b = H2 b) ⟨upd_same, fun b hb => upd_ne hb⟩ (fun i H' _ ⟨e, q⟩ => sq_keep hD q hS) ?_ ?_
      · rintro i y H' hi ⟨e, q⟩
        obtain ⟨x, hx, rfl⟩ := int_at hi
        refine ⟨rfl, _, rfl, _, rfl, _, e, ?_, ?_, fun b hb => ?_⟩
        · unfold ab
          rw [List.length_map, List.length_map, List.length_take]
          exact small1000 (by omega)
        · rw [upd_same]
          unfold ab
          rw [List.take_add_one, hx]
          simp
        · rw [upd_ne hb]; exact q b hb
      · rintro H' ⟨e, q⟩
        rw [List.length_map, List.take_length] at e
        intro p hp
        have npD : p ≠ D := (ne_of_none e hp).symm
        have la : (ab ns).length = ns.length := by unfold ab; rw [List.length_map]
        have lm : ((ab ns).map V.int).length = ns.length := by rw [List.length_map, la]
        have eD : upd H' p (.dK []) D = some (.lst ((ab ns).map V.int)) := by rw [upd_ne npD.symm]; exact e
        refine ⟨_, rfl, D, _, rfl, .inl (SqL.of eD), _, rfl, (by rw [lm]; omega), (by rw [lm]; omega), fun C hC => ?_⟩
        rw [lm]
        have nCp : C ≠ p := (ne_of_none upd_same hC).symm
        have nCD : C ≠ D := (ne_of_none eD hC).symm
        refine lc_range (lo := 0) (n := ns.length) (fun i H3 => (∃ ys : List Int, H3 C = some (.lst (ys.map V.int)) ∧ ys.length = i) ∧ ∀ b, b ≠ C → H3 b = upd H' p (.dK []) b) ⟨⟨[], upd_same, rfl⟩, fun b hb => upd_ne hb⟩ ?_ ?_
        · rintro i H3 hi ⟨⟨ys, e3, ly⟩, q3⟩
          obtain ⟨y, ey⟩ : ∃ y, (ab ns)[ns.length - 1 - i]? = some y := ⟨(ab ns)[ns.length - 1 - i], by rw [List.getElem?_eq_getElem (by omega)]⟩
          have e3D : H3 D = some (.lst ((ab ns).map V.int)) := by rw [q3 D nCD.symm]; exact eD
          refine ⟨rfl, _, rfl, _, rfl, D, _, rfl, .inl (SqL.of e3D), _, _, rfl, rfl, _, rfl, _, _, rfl, rfl, D, _, _, .int y, rfl, rfl, SqL.of e3D, ?_, _, e3, ?_, ⟨ys ++ [y], ?_, ?_⟩, fun b hb => ?_⟩
          · exact at_of (j := ns.length - 1 - i) (by rw [lm]; omega) (by rw [List.getElem?_map, ey]; rfl)
          · rw [List.length_map]; exact small1000 (by omega)
          · rw [upd_same]; simp
          · rw [List.length_append, ly]; rfl
          · rw [upd_ne hb]; exact q3 b hb
        · rintro H3 ⟨⟨ys, e3, ly⟩, q3⟩
          refine ⟨_, rfl, ?_⟩
          refine ⟨by rw [q3 p nCp.symm, upd_same], skv C 1 z 0, rfl, (show 4 ≤ 15 by decide), ?_⟩
          rw [skv_merge]
          refine k p C _ (fun b o eb => ?_) ?_ ?_ ⟨ys, 1, z, 0, ?_, by omega, upd_same⟩
          · have hb : b ≠ D := ne_of_none eb hD
            have eb2 : H' b = some o := (q b hb).trans eb
            have hbp : b ≠ p := ne_of_none eb2 hp
            have hbC : b ≠ C := ne_of_none (show upd H' p (.dK []) b = some o by rw [upd_ne hbp]; exact eb2) hC
            rw [upd_ne hbp, q3 b hbC, upd_ne hbp]
            exact eb2
          · rw [← q p npD]; exact hp
          · rw [← q C nCD]
            rw [upd_ne nCp] at hC
            exact hC
          · rw [upd_ne nCp]; exact e3
end
end K37

namespace K37
open PySem PySem.Spec PyProof.Rows L2 Ow
abbrev LT : Str := "abcdefghijklmnopqrstuvwxyz"
abbrev SG : Str := "abcdefghijklmnopqrstuvwxyz0123456789"
/-! ### words -/
/-- a word of the text -/
structure Wd (x : Str) : Prop where
  lo : 1 ≤ x.length
  hi : x.length ≤ 12
  h : ∀ c, x.cps[0]? = some c → c ∈ LT.cps.toList
  s : ∀ (i c : Nat), x.cps[i]? = some c → c ∈ SG.cps.toList
  z : x ≠ ("zz9" : Str)
/-- a list of unlike words -/
structure NL (xs : List Str) : Prop where
  nd : xs.Nodup
  w : ∀ x ∈ xs, Wd x
  n : xs.length ≤ 16
theorem scW : FnScope ["value", "sign"] ["value"] (defScope sIsWord) := ⟨rfl, rfl, rfl, by decide +kernel, rfl, by decide +kernel, by decide +kernel⟩
def spWord : Sp := fun vs H Q _ => ∃ x : Str, vs = [.str x] ∧ Wd x ∧ ∀ H', Same H H' → Q (.bl true) H'
section
variable {P : Program} {w : World} {K : PySem.W.Frag} {mg : Str → Option Value} {base : Heap} {f : Addr} {fd : FuncData}
theorem ok_word (F : FnP K "is_word" sIsWord f fd) (Y : Fx w K mg) : FnOk P w K mg base CX0 1 f fd ["value"] spWord := by
  refine okD F scW (fun vs H Q E h => ?_) (fun cdv A outer s H vs Q E hr h => ?_)
  · obtain ⟨x, rfl, _⟩ := h
    rfl
  · have hu := hu_of hr
    have nd := scW.nd
    have B := Y.bl
    obtain ⟨tl, el⟩ := Y.sLETTERS
    obtain ⟨ts, es⟩ := Y.sSIGNS
    refine ⟨_, pss_cons (ps_ifN (pw_or (pt_not (pt_val (pe_callB call_isi (by rfl) Y.bIsinstance boot_isinstance (pa_cons (pv 0) (pa_cons (pe_bltn (v := .ty "str") (u := .type "str") (by rfl) Y.bStr (by decide +kernel) rfl) pa_nil))))) (pw_or1 (pt_not (pt_chain op_le op_le pe_int (pe_callB call_len_str (by rfl) B.len PySem.boot_len (pa_cons (pv 0) pa_nil)) pe_int)))).pt pss_nil)
      (pss_one (ps_ret (pe_and (pe_cmpR op_in_sign (pe_ix ix_str (pv 0) pe_int (fun _ _ => rfl)) (pe_glob (v := .str LT) (by rfl) el ⟨_, rfl⟩) (by rfl)) (pe_one (pe_callB (cr_all rfl) (by rfl) Y.bAll (by decide +kernel) (pa_cons
        (pe_lc (own := [("sign", 1)]) (g := gName 1) (tt := tYes) rfl nd (pi_str (pv 0)) (blkOk_by (N := ["value", "sign"]) (sc := defScope sIsWord) (by decide +kernel)) (fun _ _ _ _ _ => pg_name (i := 1) nd rfl (Or.inl rfl)) (fun _ _ _ _ _ => pts_nil)
          (fun _ _ _ _ _ => pe_cmpR op_in_sign (pv 1) (pe_glob (v := .str SG) (by rfl) es ⟨_, rfl⟩) (by rfl))) pa_nil)))))), ?_⟩
    obtain ⟨x, rfl, hx, k⟩ := h
    have lz : x.length ≤ sizeLine := Nat.le_trans hx.hi (by decide)
    obtain ⟨c, ec⟩ : ∃ c, x.cps[0]? = some c := ⟨x.cps[0]'(show 0 < x.cps.size from hx.lo), Array.getElem?_eq_getElem _⟩
    have l1 : (1 : Int) ≤ (x.length : Int) := by have z := hx.lo; omega
    have l2 : (x.length : Int) ≤ 12 := by have z := hx.hi; omega
    refine ⟨_, rfl, _, _, _, _, true, rfl, .ty _, .base (.str x), (of_decide_eq_true Y.x0), true, rfl, iteF ⟨_, rfl, x, rfl, lz, _, _, rfl, rfl, _, rfl, ite2 (fun _ => ⟨_, _, rfl, rfl, _, rfl, ?_, ?_⟩) (fun n => absurd (decide_eq_true l1) n)⟩⟩
    · rw [decide_eq_true l2]; rfl
    refine ⟨_, rfl, x, 0, c, rfl, rfl, lz, ?_, c, LT, rfl, rfl, _, rfl, ite2 (fun _ => ?_) (fun n => absurd (decide_eq_true (hx.h c ec)) n)⟩
    · exact (show atI x.cps.toList ((0 : Nat) : Int) = some c from atI_nat (by rw [Array.getElem?_toList]; exact ec))
    refine ⟨_, rfl, x, rfl, fun D hD => ?_⟩
    refine lc_it walk_str (fun i H' => H' D = some (.lst ((List.replicate i true).map V.bl)) ∧ Same H H') ⟨upd_same, fun b o e => (upd_ne (ne_of_none e hD)).trans e⟩ (fun _ _ _ _ => trivial) ?_ ?_
    · rintro i v G G' hi ⟨e, q⟩ ⟨rfl, z, ez, rfl⟩
      refine ⟨rfl, _, rfl, z, SG, rfl, rfl, _, e, ?_, ?_, fun b o eb => (upd_ne (ne_of_none eb hD)).trans (q b o eb)⟩
      · rw [List.length_map, List.length_replicate]
        exact Nat.lt_of_lt_of_le hi (Nat.le_trans hx.hi (by decide))
      · rw [upd_same, decide_eq_true (hx.s i z ez), List.replicate_succ', List.map_append]
        rfl
    · rintro G ⟨e, q⟩
      refine ⟨D, List.replicate x.cps.size true, rfl, SqL.of e, ?_⟩
      rw [show (List.replicate x.cps.size true).all id = true by simp]
      exact k G q
end
end K37

namespace K37
open PySem PySem.Spec PyProof.Rows L2 Ow
/-! ### what is a word, of any text -/
def inC (S : Str) (c : Nat) : Bool := decide (c ∈ S.cps.toList)
def isW (x : Str) : Bool := decide (1 ≤ x.length) && (decide (x.length ≤ 12) && ((match x.cps[0]? with
  | some c => inC LT c
  | none => false) && x.cps.toList.all (inC SG)))
def spIW : Sp := fun vs H Q _ => ∃ x : Str, vs = [.str x] ∧ x.length ≤ 900 ∧ ∀ H', Same H H' → Q (.bl (isW x)) H'
section
variable {P : Program} {w : World} {K : PySem.W.Frag} {mg : Str → Option Value} {base : Heap} {f : Addr} {fd : FuncData}
theorem ok_iw (F : FnP K "is_word" sIsWord f fd) (Y : Fx w K mg) : FnOk P w K mg base CX0 1 f fd ["value"] spIW := by
  refine okD F scW (fun vs H Q E h => ?_) (fun cdv A outer s H vs Q E hr h => ?_)
  · obtain ⟨x, rfl, _⟩ := h
    rfl
  · have hu := hu_of hr
    have nd := scW.nd
    have B := Y.bl
    obtain ⟨tl, el⟩ := Y.sLETTERS
    obtain ⟨ts, es⟩ := Y.sSIGNS
    refine ⟨_, pss_cons (ps_if (pw_or (pt_not (pt_val (pe_callB call_isi (by rfl) Y.bIsinstance boot_isinstance (pa_cons (pv 0) (pa_cons (pe_bltn (v := .ty "str") (u := .type "str") (by rfl) Y.bStr (by decide +kernel) rfl) pa_nil))))) (pw_or1 (pt_not (pt_chain op_le op_le pe_int (pe_callB call_len_str (by rfl) B.len PySem.boot_len (pa_cons (pv 0) pa_nil)) pe_int)))).pt (pss_one (ps_ret pe_bl)) pss_nil)
      (pss_one (ps_ret (pe_and (pe_cmpR op_in_sign (pe_ix ix_str (pv 0) pe_int (fun _ _ => rfl)) (pe_glob (v := .str LT) (by rfl) el ⟨_, rfl⟩) (by rfl)) (pe_one (pe_callB (cr_all rfl) (by rfl) Y.bAll (by decide +kernel) (pa_cons
        (pe_lc (own := [("sign", 1)]) (g := gName 1) (tt := tYes) rfl nd (pi_str (pv 0)) (blkOk_by (N := ["value", "sign"]) (sc := defScope sIsWord) (by decide +kernel)) (fun _ _ _ _ _ => pg_name (i := 1) nd rfl (Or.inl rfl)) (fun _ _ _ _ _ => pts_nil)
          (fun _ _ _ _ _ => pe_cmpR op_in_sign (pv 1) (pe_glob (v := .str SG) (by rfl) es ⟨_, rfl⟩) (by rfl))) pa_nil)))))), ?_⟩
    obtain ⟨x, rfl, hx, k⟩ := h
    have lz : x.length ≤ sizeLine := Nat.le_of_lt (small1000 (by omega))
    refine ⟨_, rfl, _, _, _, _, true, rfl, .ty _, .base (.str x), (of_decide_eq_true Y.x0), true, rfl, iteF ⟨_, rfl, x, rfl, lz, _, _, rfl, rfl, _, rfl, ite2 (fun h1 => ?_) (fun n => ?_)⟩⟩
    · refine ⟨_, _, rfl, rfl, _, rfl, ite2 (fun h2 => ?_) (fun h2 => ?_)⟩
      · have z : isW x = false := by
          have e : decide ((x.length : Int) ≤ 12) = false := by simpa using h2
          have e2 : ¬ (x.length ≤ 12) := by
            have := of_decide_eq_false e
            omega
          unfold isW
          rw [decide_eq_false e2, Bool.false_and, Bool.and_false]
        rw [z] at k
        exact k _ (Same.refl _)
      · have l1 : 1 ≤ x.length := by
          have := of_decide_eq_true h1
          omega
        have l2 : x.length ≤ 12 := by
          have e : decide ((x.length : Int) ≤ 12) = true := by simpa using h2
          have := of_decide_eq_true e
          omega
        obtain ⟨c, ec⟩ : ∃ c, x.cps[0]? = some c := ⟨x.cps[0]'(show 0 < x.cps.size from l1), Array.getElem?_eq_getElem _⟩
        have ew : isW x = (inC LT c && x.cps.toList.all (inC SG)) := by
          unfold isW
          rw [decide_eq_true l1, decide_eq_true l2, ec]
          rfl
        rw [ew] at k
        refine ⟨_, rfl, x, 0, c, rfl, rfl, lz, (show atI x.cps.toList ((0 : Nat) : Int) = some c from atI_nat (by rw [Array.getElem?_toList]; exact ec)), c, LT, rfl, rfl, _, rfl, ite2 (fun h3 => ?_) (fun h3 => ?_)⟩
        · rw [show inC LT c = true from h3, Bool.true_and] at k
          refine ⟨_, rfl, x, rfl, fun D hD => ?_⟩
          refine lc_it walk_str (fun i H' => H' D = some (.lst (((x.cps.toList.take i).map (inC SG)).map V.bl)) ∧ Same H H') ⟨upd_same, fun b o e => (upd_ne (ne_of_none e hD)).trans e⟩ (fun _ _ _ _ => trivial) ?_ ?_
          · rintro i v G G' hi ⟨e, q⟩ ⟨rfl, z, ez, rfl⟩
            have ez2 : x.cps.toList[i]? = some z := by rw [Array.getElem?_toList]; exact ez
            refine ⟨rfl, _, rfl, z, SG, rfl, rfl, _, e, ?_, ?_, fun b o eb => (upd_ne (ne_of_none eb hD)).trans (q b o eb)⟩
            · rw [List.length_map, List.length_map, List.length_take]
              have : i < x.length := hi
              exact small1000 (by omega)
            · rw [upd_same, List.take_add_one, ez2, List.map_append, List.map_append]
              rfl
          · rintro G ⟨e, q⟩
            have lx : x.cps.size = x.cps.toList.length := by rw [Array.length_toList]
            refine ⟨D, _, rfl, SqL.of e, ?_⟩
            rw [lx, List.take_length, List.all_map]
            exact k G q
        · rw [show inC LT c = false from Bool.eq_false_iff.mpr h3, Bool.false_and] at k
          exact k _ (Same.refl _)
    · refine ⟨_, rfl, ite2 (fun h2 => ?_) (fun h2 => ?_)⟩
      · have z : isW x = false := by
          have e2 : ¬ (1 ≤ x.length) := by
            intro q
            exact n (decide_eq_true (show (1 : Int) ≤ (x.length : Int) by omega))
          unfold isW
          rw [decide_eq_false e2, Bool.false_and]
        rw [z] at k
        exact k _ (Same.refl _)
      · exfalso
        have e := Bool.eq_false_iff.mpr n
        exact h2 rfl
end
end K37

namespace K37
open PySem PySem.Spec PyProof.Rows L2 Ow
theorem scCN : FnScope ["lists", "names", "name"] ["lists"] (defScope sCheckNames) := ⟨rfl, rfl, rfl, by decide +kernel, rfl, by decide +kernel, by decide +kernel⟩
/-- at y stands a list or tuple of unlike words -/
def Nms (K : PySem.W.Frag) (H : Hp) (y : V) (xs : List Str) : Prop := ∃ a, y = .ref a ∧ SqA K H a (xs.map V.str) ∧ NL xs
theorem Nms.same {K : PySem.W.Frag} {H H' : Hp} {y : V} {xs : List Str} (s : Same H H') (h : Nms K H y xs) : Nms K H' y xs := by
  obtain ⟨a, e, q, n⟩ := h
  exact ⟨a, e, q.same s, n⟩
def spCheck (K : PySem.W.Frag) : Sp := fun vs H Q _ => ∃ (l : Addr) (y z : V) (xs ys : List Str), vs = [.ref l] ∧ SqL K H l [y, z] ∧ Nms K H y xs ∧ Nms K H z ys ∧ ∀ H', Same H H' → Q .non H'
theorem str_at {xs : List Str} {i : Nat} {y : V} (h : (xs.map V.str)[i]? = some y) : ∃ z, xs[i]? = some z ∧ y = .str z := by
  rw [List.getElem?_map] at h
  cases e : xs[i]? with
  | none => rw [e] at h; cases h
  | some z => rw [e] at h; exact ⟨z, rfl, (Option.some.inj h).symm⟩
section
variable {P : Program} {w : World} {K : PySem.W.Frag} {mg : Str → Option Value} {base : Heap} {f : Addr} {fd : FuncData}
theorem ok_check (F : FnP K "check_names" sCheckNames f fd) (Y : Fx w K mg) : FnOk P w K mg base CX0 2 f fd ["lists"] (spCheck K) := by
  obtain ⟨dW, FW⟩ := Y.dIsWord
  have bW := FunD.bindsN (ps := ["value"]) FW fun _ _ _ _ _ _ us hl => match us, hl with | [_], _ => rfl
  have GW : FnOk P w K mg base CX0 1 _ dW ["value"] spWord := ok_word FW Y
  refine okD F scCN (fun vs H Q E h => ?_) (fun cdv A outer s H vs Q E hr h => ?_)
  · obtain ⟨l, y, z, xs, ys, rfl, _⟩ := h
    rfl
  · have hu := hu_of hr
    have nd := scCN.nd
    have B := Y.bl
    refine ⟨_, pss_cons (ps_for PassesOwn.never rfl (pi_list (pv 0)) (pg_name (i := 1) nd rfl (Or.inl rfl)) (pss_one (ps_for PassesOwn.never rfl (pi_seqA (pv 1)) (pg_name (i := 2) nd rfl (Or.inl rfl))
        (pss_one (ps_ifN (pt_not (pt_val (pe_call GW hr rfl Y.gIsWord FW.kp bW .nil pass0 (pa_cons (pv 2) pa_nil)))) pss_nil)))))
      (pss_one (ps_for PassesOwn.never rfl (pi_list (pv 0)) (pg_name (i := 1) nd rfl (Or.inl rfl))
        (pss_one (ps_ifN (pt_cmpR op_lt (pe_lenSetT rfl (by rfl) B.len (by rfl) Y.bSet (pv 1)) (pe_callB call_len_seq (by rfl) B.len PySem.boot_len (pa_cons (pv 1) pa_nil)) (nomark _)) pss_nil)))), ?_⟩
    obtain ⟨l, y, z, xs, ys, rfl, hl, hy, hz, k⟩ := h
    have it : ∀ (i : Nat) (v : V) (G : Hp), ([y, z] : List V)[i]? = some v → Same H G → ∃ zs, Nms K G v zs := fun i v G hi sm => by
      match i, hi with
      | 0, hi => cases hi; exact ⟨xs, hy.same sm⟩
      | 1, hi => cases hi; exact ⟨ys, hz.same sm⟩
      | (i + 2), hi => cases hi
    refine ⟨_, rfl, l, rfl, ⟨_, hl⟩, for_list (K := K) (a := l) (xs := [y, z]) (fun i σ G => (∃ v1 v2, σ = [some (.ref l), v1, v2]) ∧ Same H G) ⟨⟨_, _, rfl⟩, Same.refl _⟩ (fun i σ G _ q => q.2.seq hl) ?_ ?_⟩
    · rintro i v σ G hi ⟨⟨v1, v2, rfl⟩, sm⟩
      obtain ⟨zs, a, rfl, hA, hn⟩ := it i v G hi sm
      refine ⟨_, rfl, a, zs.map V.str, rfl, hA, fun J GG wk gk => for_it wk (fun j σ G' => (∃ v2, σ = [some (.ref l), some (.ref a), v2]) ∧ Same G G') ⟨⟨_, rfl⟩, Same.refl _⟩ (fun j σ G' _ q => gk _ q.2) ?_ ?_⟩
      · rintro j v σ G' G'' hj ⟨⟨v2, rfl⟩, s2⟩ ⟨rfl, ev⟩
        obtain ⟨x, ex, rfl⟩ := str_at ev
        exact ⟨_, rfl, x, rfl, hn.w x (List.mem_of_getElem? ex), fun G3 s3 => ⟨true, rfl, rfl, ⟨_, rfl⟩, s2.trans s3⟩⟩
      · rintro σ G' ⟨⟨v2, rfl⟩, s2⟩
        exact ⟨⟨_, _, rfl⟩, sm.trans s2⟩
    · rintro σ G ⟨⟨v1, v2, rfl⟩, sm⟩
      refine ⟨_, rfl, l, rfl, ⟨_, sm.seq hl⟩, for_list (K := K) (a := l) (xs := [y, z]) (fun i σ G => (∃ v1 v2, σ = [some (.ref l), v1, v2]) ∧ Same H G) ⟨⟨_, _, rfl⟩, sm⟩ (fun i σ G _ q => q.2.seq hl) ?_ ?_⟩
      · rintro i v σ G hi ⟨⟨v1, v2, rfl⟩, sm⟩
        obtain ⟨zs, a, rfl, hA, hn⟩ := it i v G hi sm
        refine ⟨_, rfl, a, zs, rfl, hA, hn.nd, Nat.lt_of_le_of_lt hn.n (by decide), _, rfl, a, zs.map V.str, rfl, hA, _, _, rfl, rfl, _, rfl, ?_, ⟨_, _, rfl⟩, sm⟩
        rw [List.length_map]
        exact decide_eq_false (Int.lt_irrefl _)
      · rintro σ G ⟨⟨v1, v2, rfl⟩, sm⟩
        exact k G sm
end
end K37

namespace K37
open PySem PySem.Spec PyProof.Rows L2 Ow
/-! ### what stays, and small helps -/
theorem same_upd {H : Hp} {a : Addr} {o : HO} (h : H a = none) : Same H (upd H a o) := fun _ _ e => (upd_ne (ne_of_none e h)).trans e
theorem same_put {H G : Hp} {D : Addr} {o : HO} (hD : H D = none) (s : Same H G) : Same H (upd G D o) := fun b _ e => (upd_ne (ne_of_none e hD)).trans (s b _ e)
theorem szl {n : Nat} (h : n ≤ 1000) : n ≤ sizeLine := Nat.le_of_lt (small1000 h)
def Keep (x : Addr) (H H' : Hp) : Prop := ∀ b o, b ≠ x → H b = some o → H' b = some o
theorem Keep.refl {x : Addr} {H : Hp} : Keep x H H := fun _ _ _ e => e
theorem Keep.trans {x : Addr} {H1 H2 H3 : Hp} (h : Keep x H1 H2) (g : Keep x H2 H3) : Keep x H1 H3 := fun b o n e => g b o n (h b o n e)
theorem Keep.of {x : Addr} {H H' : Hp} (s : Same H H') : Keep x H H' := fun b o _ e => s b o e
theorem Keep.put {x : Addr} {H : Hp} {o : HO} : Keep x H (upd H x o) := fun b u n e => (upd_ne n).trans e
/-- a dict comprehension over a walk -/
theorem dc_it {J : It} {n : Nat} {G : Hp → Prop} {Y : Nat → Hp → V → Hp → Prop} (w : Walk J n G Y) {g : TG} {tt : TT} {tk tv : TE} {vs : List Nat} {σ : L2.St} {H1 : Hp} {D : Addr} {Qd : Hp → Prop} (Pv : Nat → Hp → Prop) (h0 : Pv 0 (upd H1 D (.dK []))) (hG : ∀ i H, i ≤ n → Pv i H → G H)
    (hs : ∀ i x H H', i < n → Pv i H → Y i H x H' → g x (wipe σ vs) H' fun σ2 H2 => wipe σ2 vs = wipe σ vs ∧ tt σ2 H2 fun b H3 =>
      if b = true then tk σ2 H3 fun y H4 => tv σ2 H4 fun z H5 => ∃ kvs k, y = kV k ∧ H5 D = some (.dK kvs) ∧ kvs.length < sizeLine ∧ Pv (i + 1) (upd H5 D (.dK (putK kvs k z))) else Pv (i + 1) H3) (hd : ∀ H, Pv n H → Qd H) :
    ∃ W : Nat → Nat → Hp → Prop, (∃ m, W 0 m (upd H1 D (.dK []))) ∧ ∀ i m H, W i m H →
      (J.stop i H ∧ Qd H) ∨ (J.go i H ∧ ∃ Nx : Hp → Prop, (∀ H', Nx H' → ∃ m', m' < m ∧ W (i + 1) m' H') ∧ ∀ x H', J.yld i H x H' → g x (wipe σ vs) H' fun σ2 H2 => wipe σ2 vs = wipe σ vs ∧ tt σ2 H2 fun b H3 =>
        if b = true then tk σ2 H3 fun y H4 => tv σ2 H4 fun z H5 => ∃ kvs k, y = kV k ∧ H5 D = some (.dK kvs) ∧ kvs.length < sizeLine ∧ Nx (upd H5 D (.dK (putK kvs k z))) else Nx H3) := by
  refine ⟨fun i m H => m = n - i ∧ i ≤ n ∧ Pv i H, ⟨n, rfl, Nat.zero_le _, h0⟩, ?_⟩
  rintro i m H ⟨rfl, le, p⟩
  have q := hG i H le p
  by_cases lt : i < n
  · exact .inr ⟨w.goes i H lt q, Pv (i + 1), fun H' p' => ⟨n - (i + 1), by omega, rfl, lt, p'⟩, fun x H' y => hs i x H H' lt p (w.yields i H x H' lt q y)⟩
  · have e : i = n := by omega
    subst e
    exact .inl ⟨w.stops H q, hd H p⟩
/-- at l stands a list of tuples of these -/
def TupsAt (K : PySem.W.Frag) (H : Hp) (l : Addr) (vss : List (List V)) : Prop := ∃ as : List Addr, SqL K H l (as.map V.ref) ∧ as.length = vss.length ∧ ∀ (i : Nat) (t : Addr), as[i]? = some t → ∃ vs, vss[i]? = some vs ∧ SqT K H t vs
theorem TupsAt.same {K : PySem.W.Frag} {H H' : Hp} {l : Addr} {vss : List (List V)} (s : Same H H') (h : TupsAt K H l vss) : TupsAt K H' l vss := by
  obtain ⟨as, q, e, g⟩ := h
  refine ⟨as, s.seq q, e, fun i t z => ?_⟩
  obtain ⟨vs, e1, e2⟩ := g i t z
  exact ⟨vs, e1, sqt_same s e2⟩
theorem ref_at {as : List Addr} {i : Nat} {v : V} (h : (as.map V.ref)[i]? = some v) : ∃ a, as[i]? = some a ∧ v = .ref a := by
  rw [List.getElem?_map] at h
  cases e : as[i]? with
  | none => rw [e] at h; cases h
  | some a => rw [e] at h; exact ⟨a, rfl, (Option.some.inj h).symm⟩
theorem map_at {α : Type} {f : α → V} {xs : List α} {i : Nat} {v : V} (h : (xs.map f)[i]? = some v) : ∃ x, xs[i]? = some x ∧ v = f x := by
  rw [List.getElem?_map] at h
  cases e : xs[i]? with
  | none => rw [e] at h; cases h
  | some a => rw [e] at h; exact ⟨a, rfl, (Option.some.inj h).symm⟩
theorem flat_strs (xs : List Str) : (xs.map V.str).all flatV = true := by
  rw [List.all_eq_true]
  intro v hv
  obtain ⟨x, _, rfl⟩ := List.mem_map.mp hv
  rfl
theorem inV_strs (x : Str) (xs : List Str) : inV (.str x) (xs.map V.str) = decide (x ∈ xs) := by
  unfold inV
  rw [List.any_map, Bool.eq_iff_iff, List.any_eq_true, decide_eq_true_iff]
  constructor
  · rintro ⟨y, hy, e⟩
    have z : y = x := by simpa [eqV] using e
    exact z ▸ hy
  · intro h
    exact ⟨x, h, by simp [eqV]⟩
/-- a letter: its name, its ends -/
abbrev Lt : Type := Str × Str × Str
def ltV (q : Lt) : List V := [.str q.1, .str q.2.1, .str q.2.2]
/-! ### the frame's checks -/
abbrev NCE : List Str := ["sorts", "letters", "totals", "_", "first", "second", "end", "names", "letter", "name"]
theorem scCE : FnScope NCE ["sorts", "letters", "totals"] (defScope sCheckEnds) := ⟨rfl, rfl, rfl, by decide +kernel, rfl, by decide +kernel, by decide +kernel⟩
def spCE (K : PySem.W.Frag) : Sp := fun vs H Q _ => ∃ (s l t : Addr) (xs : List Str) (ls : List Lt), vs = [.ref s, .ref l, .ref t] ∧ SqL K H s (xs.map V.str) ∧ TupsAt K H l (ls.map ltV) ∧ (∀ q ∈ ls, q.2.1 ∈ xs ∧ q.2.2 ∈ xs) ∧ ls.length ≤ 16 ∧ SqL K H t [] ∧
  ∀ H', Same H H' → Q .non H'
section
variable {P : Program} {w : World} {K : PySem.W.Frag} {mg : Str → Option Value} {base : Heap} {f : Addr} {fd : FuncData}
theorem ok_ce (F : FnP K "_check_ends" sCheckEnds f fd) (Y : Fx w K mg) : FnOk P w K mg base CX0 1 f fd ["sorts", "letters", "totals"] (spCE K) := by
  refine okD F scCE (fun vs H Q E h => ?_) (fun cdv A outer s H vs Q E hr h => ?_)
  · obtain ⟨a, b, c, xs, ls, rfl, _⟩ := h
    rfl
  · have nd := scCE.nd
    refine ⟨_, pss_cons (ps_for PassesOwn.never rfl (pi_list (pv 1)) (pg_tup rfl (pgs_cons (pg_name (i := 3) nd rfl (Or.inl rfl)) (pgs_cons (pg_name (i := 4) nd rfl (Or.inl rfl)) (pgs_cons (pg_name (i := 5) nd rfl (Or.inl rfl)) pgs_nil))))
        (pss_one (ps_for PassesOwn.never rfl (pi_tup (pe_tup (pa_cons (pv 4) (pa_cons (pv 5) pa_nil)))) (pg_name (i := 6) nd rfl (Or.inl rfl))
          (pss_one (ps_ifN (pt_cmpR op_notIn_seq (pv 6) (pv 0) (by rfl)) pss_nil)))))
      (pss_cons (ps_setLc (i := 7) (own := [("letter", 8)]) (g := gName 8) (tt := tYes) (te := tOp (rIxT K) (tVar 8) (tC (.int 0))) rfl nd rfl rfl (by rfl) (pi_list (pv 1)) (blkOk_by (N := NCE) (sc := defScope sCheckEnds) (by decide +kernel)) (fun _ _ _ _ _ => pg_name (i := 8) nd rfl (Or.inl rfl)) (fun _ _ _ _ _ => pts_nil)
        (fun _ _ _ _ _ => pe_ix ix_tup (pv 8) pe_int (fun _ _ => rfl)))
      (pss_one (ps_for PassesOwn.never rfl (pi_list (pv 2)) (pg_tup rfl (pgs_cons (pg_name (i := 9) nd rfl (Or.inl rfl)) (pgs_cons (pg_name (i := 3) nd rfl (Or.inl rfl)) pgs_nil)))
        (pss_one (ps_ifN (pt_cmpR op_notIn_seq (pv 9) (pv 7) (by rfl)) pss_nil))))), ?_⟩
    obtain ⟨a, l, t, xs, ls, rfl, hs, hl, hin, hn, ht, k⟩ := h
    obtain ⟨as, q, la, g⟩ := id hl
    rw [List.length_map] at la
    refine ⟨_, rfl, l, rfl, ⟨_, q⟩, for_list (K := K) (a := l) (xs := as.map V.ref) (fun i σ G => (∃ v3 v4 v5 v6, σ = [some (.ref a), some (.ref l), some (.ref t), v3, v4, v5, v6, none, none, none]) ∧ Same H G) ⟨⟨_, _, _, _, rfl⟩, Same.refl _⟩ (fun i σ G _ p => p.2.seq q) ?_ ?_⟩
    · rintro i v σ G hi ⟨⟨v3, v4, v5, v6, rfl⟩, sm⟩
      obtain ⟨b, eb, rfl⟩ := ref_at hi
      obtain ⟨vs, e1, hT⟩ := g i b eb
      obtain ⟨lt, e2, rfl⟩ : ∃ lt, ls[i]? = some lt ∧ vs = ltV lt := by
        rw [List.getElem?_map] at e1
        cases e : ls[i]? with
        | none => rw [e] at e1; cases e1
        | some z => rw [e] at e1; exact ⟨z, rfl, (Option.some.inj e1).symm⟩
      obtain ⟨m1, m2⟩ := hin lt (List.mem_of_getElem? e2)
      refine ⟨b, _, rfl, sqt_same sm hT, rfl, _, _, rfl, _, _, rfl, _, _, rfl, rfl, ?_⟩
      refine ⟨_, rfl, _, rfl, szl (by show 2 ≤ 1000; decide), fun p hp => ?_⟩
      have sp : Same G (upd G p (.tup [.str lt.2.1, .str lt.2.2])) := same_upd hp
      refine ⟨p, rfl, ⟨_, SqT.of upd_same⟩, for_tup (K := K) (a := p) (xs := [.str lt.2.1, .str lt.2.2]) (fun j σ G' => (∃ v6, σ = [some (.ref a), some (.ref l), some (.ref t), some (.str lt.1), some (.str lt.2.1), some (.str lt.2.2), v6, none, none, none]) ∧ Same (upd G p (.tup [.str lt.2.1, .str lt.2.2])) G') ⟨⟨_, rfl⟩, Same.refl _⟩ (fun j σ G' _ z => sqt_same z.2 (SqT.of upd_same)) ?_ ?_⟩
      · rintro j v σ G' hj ⟨⟨v6, rfl⟩, s2⟩
        obtain ⟨x, hx, rfl⟩ : ∃ x, x ∈ xs ∧ v = .str x := by
          match j, hj with
          | 0, hj => cases hj; exact ⟨_, m1, rfl⟩
          | 1, hj => cases hj; exact ⟨_, m2, rfl⟩
          | (j + 2), hj => cases hj
        refine ⟨_, rfl, _, rfl, a, xs.map V.str, rfl, .inl ((sm.trans (sp.trans s2)).seq hs), rfl, flat_strs xs, ?_⟩
        rw [inV_strs, decide_eq_true hx]
        exact ⟨false, rfl, rfl, ⟨_, rfl⟩, s2⟩
      · rintro σ G' ⟨⟨v6, rfl⟩, s2⟩
        exact ⟨⟨_, _, _, _, rfl⟩, sm.trans (sp.trans s2)⟩
    · rintro σ G ⟨⟨v3, v4, v5, v6, rfl⟩, sm⟩
      refine ⟨_, rfl, l, rfl, ⟨_, sm.seq q⟩, fun D hD => ?_⟩
      refine lc_list (K := K) (a := l) (xs := as.map V.ref) (fun i G' => (∃ ns : List Str, G' D = some (.lst (ns.map V.str)) ∧ ns.length = i) ∧ Same G G') ⟨⟨[], upd_same, rfl⟩, same_upd hD⟩ (fun i G' _ p => (sm.trans p.2).seq q) ?_ ?_
      · rintro i v G' hi ⟨⟨ns, e, ln⟩, s2⟩
        obtain ⟨b, eb, rfl⟩ := ref_at hi
        obtain ⟨vs, e1, hT⟩ := g i b eb
        obtain ⟨lt, e2, rfl⟩ : ∃ lt, ls[i]? = some lt ∧ vs = ltV lt := by
          rw [List.getElem?_map] at e1
          cases z : ls[i]? with
          | none => rw [z] at e1; cases e1
          | some y => rw [z] at e1; exact ⟨y, rfl, (Option.some.inj e1).symm⟩
        have li : i < ls.length := (List.getElem?_eq_some_iff.mp e2).1
        refine ⟨rfl, _, rfl, b, _, 0, _, rfl, rfl, sqt_same (sm.trans s2) hT, rfl, _, e, ?_, ⟨ns ++ [lt.1], ?_, by rw [List.length_append, ln]; rfl⟩, same_put hD s2⟩
        · rw [List.length_map]
          exact small1000 (by omega)
        · rw [upd_same, List.map_append]
          rfl
      · rintro G' ⟨⟨ns, e, ln⟩, s2⟩
        refine ⟨_, rfl, t, rfl, ⟨_, (sm.trans s2).seq ht⟩, for_list (K := K) (a := t) (xs := []) (fun i σ G2 => Same G' G2) (Same.refl _) (fun i σ G2 _ p => (sm.trans (s2.trans p)).seq ht) (fun i v σ G2 hi _ => nomatch hi) fun σ G2 s3 => k G2 (sm.trans (s2.trans s3))⟩
end
end K37

namespace K37
open PySem PySem.Spec PyProof.Rows L2 Ow
/-! ### data that is compared: lists and tuples of texts, of ints -/
theorem dpa_strs {K : PySem.W.Frag} {H : Hp} : ∀ xs : List Str, DpAll K H (xs.map V.str) (xs.map PyData.str)
  | [] => .nil
  | x :: xs => .cons (.str x) (dpa_strs xs)
theorem sg_low : ∀ c ∈ SG.cps.toList, c < 0x110000 := by decide +kernel
theorem Wd.lay {x : Str} (h : Wd x) : PyData.strOk x = true := by
  unfold PyData.strOk
  rw [Array.all_eq_true]
  intro i hi
  exact decide_eq_true (sg_low _ (h.s i _ (Array.getElem?_eq_getElem hi)))
theorem lay_strs : ∀ xs : List Str, (∀ x ∈ xs, Wd x) → PyData.canLayAll0 (xs.map PyData.str) = true
  | [], _ => by simp [PyData.canLayAll0]
  | x :: xs, h => by simp [PyData.canLayAll0, PyData.canLay0, (h x List.mem_cons_self).lay, lay_strs xs fun y hy => h y (List.mem_cons_of_mem _ hy)]
theorem dep_strs : ∀ xs : List Str, PyData.depthAll (xs.map PyData.str) = 0
  | [] => by simp [PyData.depthAll]
  | x :: xs => by simp [PyData.depthAll, PyData.depth, dep_strs xs]
theorem dpa_ints {K : PySem.W.Frag} {H : Hp} : ∀ xs : List Int, DpAll K H (xs.map V.int) (xs.map PyData.int)
  | [] => .nil
  | x :: xs => .cons (.int x) (dpa_ints xs)
theorem lay_ints : ∀ xs : List Int, PyData.canLayAll0 (xs.map PyData.int) = true
  | [] => by simp [PyData.canLayAll0]
  | x :: xs => by simp [PyData.canLayAll0, PyData.canLay0, lay_ints xs]
theorem dep_ints : ∀ xs : List Int, PyData.depthAll (xs.map PyData.int) = 0
  | [] => by simp [PyData.depthAll]
  | x :: xs => by simp [PyData.depthAll, PyData.depth, dep_ints xs]
theorem shp_of {d : PyData} (h1 : d.canLay0 = true) (h2 : d.depth ≤ 64) : SeqAt.shaped d = true := by
  show (d.canLay0 && decide (d.depth ≤ 64)) = true
  rw [h1, decide_eq_true h2]
  rfl
theorem cl_strs {xs : List Str} (hn : NL xs) : (PyData.list (xs.map PyData.str)).canLay0 = true ∧ (PyData.tuple (xs.map PyData.str)).canLay0 = true := ⟨by simpa [PyData.canLay0] using lay_strs xs hn.w, by simpa [PyData.canLay0] using lay_strs xs hn.w⟩
theorem cl_ints (xs : List Int) : (PyData.tuple (xs.map PyData.int)).canLay0 = true := by simpa [PyData.canLay0] using lay_ints xs
theorem shp_lstr {xs : List Str} (hn : NL xs) : SeqAt.shaped (.list (xs.map PyData.str)) = true := shp_of (cl_strs hn).1 (by simp only [PyData.depth, dep_strs]; omega)
theorem shp_tstr {xs : List Str} (hn : NL xs) : SeqAt.shaped (.tuple (xs.map PyData.str)) = true := shp_of (cl_strs hn).2 (by simp only [PyData.depth, dep_strs]; omega)
theorem shp_tint (xs : List Int) : SeqAt.shaped (.tuple (xs.map PyData.int)) = true := shp_of (cl_ints xs) (by simp only [PyData.depth, dep_ints]; omega)
theorem eqv_lstr {xs : List Str} (hn : NL xs) : PyData.eqv (.list (xs.map PyData.str)) (.list (xs.map PyData.str)) = true := SeqAt.eqv_refl _ (cl_strs hn).1
theorem eqv_tstr {xs : List Str} (hn : NL xs) : PyData.eqv (.tuple (xs.map PyData.str)) (.tuple (xs.map PyData.str)) = true := SeqAt.eqv_refl _ (cl_strs hn).2
theorem eqv_ints : ∀ xs ys : List Int, PyData.eqv (.tuple (xs.map PyData.int)) (.tuple (ys.map PyData.int)) = decide (xs = ys)
  | [], [] => by simp [PyData.eqv, PyData.eqvAll]
  | [], y :: ys => by simp [PyData.eqv, PyData.eqvAll]
  | x :: xs, [] => by simp [PyData.eqv, PyData.eqvAll]
  | x :: xs, y :: ys => by
    have e := eqv_ints xs ys
    simp only [PyData.eqv] at e
    simp only [List.map_cons, PyData.eqv, PyData.eqvAll, e]
    by_cases h : x = y <;> by_cases g : xs = ys <;> simp [h, g]
/-- what != asks of two equal lists of texts -/
theorem ne_lstr {K : PySem.W.Frag} {H : Hp} {a b : Addr} {xs : List Str} {Q : VK} (hn : NL xs) (h1 : SqL K H a (xs.map V.str)) (h2 : SqL K H b (xs.map V.str)) (k : Q (.bl false) H) : rNeD K (.ref a) (.ref b) H Q :=
  ⟨.list (xs.map PyData.str), .list (xs.map PyData.str), .lst h1 (dpa_strs xs), .lst h2 (dpa_strs xs), shp_lstr hn, shp_lstr hn, by rw [eqv_lstr hn]; exact k⟩
theorem ne_tstr {K : PySem.W.Frag} {H : Hp} {a b : Addr} {xs : List Str} {Q : VK} (hn : NL xs) (h1 : SqT K H a (xs.map V.str)) (h2 : SqT K H b (xs.map V.str)) (k : Q (.bl false) H) : rNeD K (.ref a) (.ref b) H Q :=
  ⟨.tuple (xs.map PyData.str), .tuple (xs.map PyData.str), .tup h1 (dpa_strs xs), .tup h2 (dpa_strs xs), shp_tstr hn, shp_tstr hn, by rw [eqv_tstr hn]; exact k⟩
theorem eq_tstr {K : PySem.W.Frag} {H : Hp} {a b : Addr} {xs : List Str} {Q : VK} (hn : NL xs) (h1 : SqT K H a (xs.map V.str)) (h2 : SqT K H b (xs.map V.str)) (k : Q (.bl true) H) : rEqD K (.ref a) (.ref b) H Q :=
  ⟨.tuple (xs.map PyData.str), .tuple (xs.map PyData.str), .tup h1 (dpa_strs xs), .tup h2 (dpa_strs xs), shp_tstr hn, shp_tstr hn, by rw [eqv_tstr hn]; exact k⟩
end K37

namespace K37
open PySem PySem.Spec PyProof.Rows L2 Ow
theorem hu64_of {A : Around} {k : Nat} (hr : Room k A) : A.units + 64 < cLine := hr.units
abbrev NCT : List Str := ["totals", "at", "name", "word"]
theorem scCT : FnScope NCT ["totals"] (defScope sCheckTotals) := ⟨rfl, rfl, rfl, by decide +kernel, rfl, by decide +kernel, by decide +kernel⟩
def spCT (K : PySem.W.Frag) : Sp := fun vs H Q _ => ∃ (t : Addr), vs = [.ref t] ∧ SqL K H t [] ∧ ∀ H', Same H H' → Q .non H'
abbrev NCS : List Str := ["sorts", "steps", "left", "leading", "x", "y"]
theorem scCS : FnScope NCS ["sorts", "steps"] (defScope sCheckSteps) := ⟨rfl, rfl, rfl, by decide +kernel, rfl, by decide +kernel, by decide +kernel⟩
/-- the block of the outer comprehension -/
def scCSx : Scope := { kind := .function, names := [(".0", .local), ("x", .cell), ("any", .globalImplicit), ("left", .cell), ("steps", .cell)], isGenerator := false, isCoroutine := false }
def teIn (K : PySem.W.Frag) : TE := tOp (rInD K) (tTup (tCons (tVar 4) (tCons (tVar 5) tNil))) (tVar 1)
def ttAny (K : PySem.W.Frag) : TT := tB (tCB (rAny K) (tCons (tLc (iList K (tVar 2)) (gName 5) tYes (teIn K) [5]) tNil))
theorem shp_pair {x y : Str} (hx : Wd x) (hy : Wd y) : SeqAt.shaped (.tuple [.str x, .str y]) = true :=
  shp_of (by simp [PyData.canLay0, PyData.canLayAll0, hx.lay, hy.lay]) (by simp [PyData.depth, PyData.depthAll])
theorem shp_nil : SeqAt.shaped (.list []) = true := shp_of (by simp [PyData.canLay0, PyData.canLayAll0]) (by simp [PyData.depth, PyData.depthAll])
/-- no step leads on -/
theorem lead_ev {K : PySem.W.Frag} {t L : Addr} {xs : List Str} {v0 v3 : Option V} {G : Hp} {Q : VK} (ht : SqL K G t []) (hL : SqL K G L (xs.map V.str)) (hn : NL xs) (k : ∀ D G', G D = none → Same G G' → G' D = some (.lst []) → Q (.ref D) G') :
    tLc (iList K (tVar 2)) (gName 4) (ttAny K) (tVar 4) [4] [v0, some (.ref t), some (.ref L), v3, none, none] G Q := by
  refine ⟨_, rfl, L, rfl, ⟨_, hL⟩, fun D hD => ?_⟩
  refine lc_list (K := K) (a := L) (xs := xs.map V.str) (fun i G' => G' D = some (.lst []) ∧ Same G G') ⟨upd_same, same_upd hD⟩ (fun i G' _ p => p.2.seq hL) ?_ (fun G' p => k D G' hD p.2 p.1)
  rintro i v G' hi ⟨e, s1⟩
  obtain ⟨x, ex, rfl⟩ := str_at hi
  have hx := hn.w x (List.mem_of_getElem? ex)
  refine ⟨rfl, ?_⟩
  show tB (tCB (rAny K) (tCons (tLc (iList K (tVar 2)) (gName 5) tYes (teIn K) [5]) tNil)) _ _ _
  refine ⟨_, rfl, L, rfl, ⟨_, s1.seq hL⟩, fun D2 hD2 => ?_⟩
  refine lc_list (K := K) (a := L) (xs := xs.map V.str) (fun j G2 => G2 D2 = some (.lst ((List.replicate j false).map V.bl)) ∧ Same G' G2) ⟨upd_same, same_upd hD2⟩ (fun j G2 _ p => p.2.seq (s1.seq hL)) ?_ ?_
  · rintro j v G2 hj ⟨e2, s2⟩
    obtain ⟨y, ey, rfl⟩ := str_at hj
    have hy := hn.w y (List.mem_of_getElem? ey)
    refine ⟨rfl, ?_⟩
    refine ⟨_, rfl, _, rfl, szl (by show 2 ≤ 1000; decide), fun T hT => ?_⟩
    refine ⟨_, rfl, .tuple [.str x, .str y], [], .tup (SqT.of upd_same) (.cons (.str _) (.cons (.str _) .nil)), .lst ((same_upd hT).seq (s2.seq (s1.seq ht))) .nil, shp_pair hx hy, shp_nil, ?_⟩
    refine ⟨_, same_upd hT _ _ e2, ?_, ?_, same_put hD2 (s2.trans (same_upd hT))⟩
    · rw [List.length_map, List.length_replicate]
      have z := (List.getElem?_eq_some_iff.mp ey).1
      have n16 := hn.n
      exact small1000 (by omega)
    · rw [upd_same, List.replicate_succ', List.map_append]
      rfl
  · rintro G2 ⟨e2, s2⟩
    refine ⟨D2, _, rfl, SqL.of e2, false, ?_, ?_⟩
    · rw [show (List.replicate (xs.map V.str).length false).any id = false by simp]
    · exact ⟨s2 _ _ e, s1.trans s2⟩
theorem lead_st {K : PySem.W.Frag} {t L : Addr} {xs : List Str} {v0 v3 : Option V} {G : Hp} {u : TS} {E : Ends} (ht : SqL K G t []) (hL : SqL K G L (xs.map V.str)) (hn : NL xs) (k : ∀ D G', G D = none → Same G G' → G' D = some (.lst []) → u E [v0, some (.ref t), some (.ref L), some (.ref D), none, none] G') :
    tSeq (tAsg (tLc (iList K (tVar 2)) (gName 4) (ttAny K) (tVar 4) (List.map (fun x => x.snd) [(("x" : Str), 4)])) (gName 3)) u E [v0, some (.ref t), some (.ref L), v3, none, none] G :=
  lead_ev (Q := fun v G' => gName 3 v [v0, some (.ref t), some (.ref L), v3, none, none] G' (u E)) ht hL hn k
theorem lead_en {K : PySem.W.Frag} {t L : Addr} {xs : List Str} {v0 v3 : Option V} {G : Hp} {E : Ends} (ht : SqL K G t []) (hL : SqL K G L (xs.map V.str)) (hn : NL xs) (k : ∀ D G', G D = none → Same G G' → G' D = some (.lst []) → E.nx [v0, some (.ref t), some (.ref L), some (.ref D), none, none] G') :
    tAsg (tLc (iList K (tVar 2)) (gName 4) (ttAny K) (tVar 4) (List.map (fun x => x.snd) [(("x" : Str), 4)])) (gName 3) E [v0, some (.ref t), some (.ref L), v3, none, none] G :=
  lead_ev (Q := fun v G' => gName 3 v [v0, some (.ref t), some (.ref L), v3, none, none] G' E.nx) ht hL hn k
def spCS (K : PySem.W.Frag) : Sp := fun vs H Q _ => ∃ (s t : Addr) (xs : List Str), vs = [.ref s, .ref t] ∧ SqL K H s (xs.map V.str) ∧ NL xs ∧ SqL K H t [] ∧ ∀ H', Same H H' → Q .non H'
section
variable {P : Program} {w : World} {K : PySem.W.Frag} {mg : Str → Option Value} {base : Heap} {f : Addr} {fd : FuncData}
theorem ok_ct (F : FnP K "_check_totals" sCheckTotals f fd) (Y : Fx w K mg) : FnOk P w K mg base CX0 1 f fd ["totals"] (spCT K) := by
  refine okD F scCT (fun vs H Q E h => ?_) (fun cdv A outer s H vs Q E hr h => ?_)
  · obtain ⟨t, rfl, _⟩ := h
    rfl
  · have nd := scCT.nd
    refine ⟨_, pss_one (ps_for PassesOwn.never rfl (pi_enumA (by rfl) Y.bEnumerate (pa_cons (pv 0) pa_nil)) (pg_tup rfl (pgs_cons (pg_name (i := 1) nd rfl (Or.inl rfl)) (pgs_cons (pg_tup rfl (pgs_cons (pg_name (i := 2) nd rfl (Or.inl rfl)) (pgs_cons (pg_name (i := 3) nd rfl (Or.inl rfl)) pgs_nil))) pgs_nil)))
      (pss_one (ps_ifN (pw_or (pt_cmpR op_notIn_seq (pv 3) (pe_tup (pa_cons pe_str (pa_cons pe_str pa_nil))) (by rfl)) (pw_or1 (pt_cmpR op_in_seq (pe_tup (pa_cons (pv 2) (pa_cons (pv 3) pa_nil))) (pe_slice sl_list (pv 0) po_none (po_some (pv 1))) (by rfl)))).pt pss_nil))), ?_⟩
    obtain ⟨t, rfl, ht, k⟩ := h
    refine ⟨_, rfl, t, [], rfl, .inl ht, fun J GG wk gk => for_it wk (fun i σ G => Same H G) (Same.refl _) (fun i σ G _ q => gk G q) (fun i v σ G G' hi => absurd hi (Nat.not_lt_zero _)) fun σ G s2 => k G s2⟩
theorem ok_cs (F : FnP K "_check_steps" sCheckSteps f fd) (Y : Fx w K mg) : FnOk P w K mg base CX0 1 f fd ["sorts", "steps"] (spCS K) := by
  refine okD F scCS (fun vs H Q E h => ?_) (fun cdv A outer s H vs Q E hr h => ?_)
  · obtain ⟨a, t, xs, rfl, _⟩ := h
    rfl
  · have nd := scCS.nd
    have hu65 : (A.deeper (envOfC "_check_steps" (defScope sCheckSteps) s.heap.objs.size f cdv)).units + 65 < cLine := by have := hr.un; omega
    have hu64 := hu64_of hr
    refine ⟨_, pss_cons (ps_set (i := 2) nd rfl (Or.inr rfl) (pe_callTy call_list_of (by rfl) Y.bList boot_list (pa_cons (pv 0) pa_nil)))
      (pss_cons (ps_setLc (i := 3) (own := [("x", 4)]) (g := gName 4) (tt := ttAny K) (te := tVar 4) rfl nd rfl rfl (by rfl) (pi_list (pv 2)) (blkOk_by (N := NCS) (sc := defScope sCheckSteps) (by decide +kernel)) (fun _ _ _ _ _ => pg_name (i := 4) nd rfl (Or.inr rfl))
          (fun _ _ _ _ _ => pts_one (pt_val (pe_callB (cr_any rfl) (by rfl) Y.bAny (by decide +kernel) (pa_cons (pe_lc (own := [("y", 5)]) (g := gName 5) (tt := tYes) (te := teIn K) rfl nd (pi_list (pv 2)) (blkOk_by (N := NCS) (sc := scCSx) (by decide +kernel)) (fun _ _ _ _ _ => pg_name (i := 5) nd rfl (Or.inl rfl)) (fun _ _ _ _ _ => pts_nil)
            (fun _ _ _ _ _ => pe_cmpR (op_inD hu65) (pe_tup (pa_cons (pv 4) (pa_cons (pv 5) pa_nil))) (pv 1) (by rfl))) pa_nil))))
          (fun _ _ _ _ _ => pv 4))
      (pss_cons (ps_while PassesOwn.never (pt_cmpR (op_neD hu64) (pv 3) (pv 2) (nomark _))
        (pss_cons (ps_set (i := 2) nd rfl (Or.inr rfl) (pv 3))
        (pss_cons (ps_setLc (i := 3) (own := [("x", 4)]) (g := gName 4) (tt := ttAny K) (te := tVar 4) rfl nd rfl rfl (by rfl) (pi_list (pv 2)) (blkOk_by (N := NCS) (sc := defScope sCheckSteps) (by decide +kernel)) (fun _ _ _ _ _ => pg_name (i := 4) nd rfl (Or.inr rfl))
          (fun _ _ _ _ _ => pts_one (pt_val (pe_callB (cr_any rfl) (by rfl) Y.bAny (by decide +kernel) (pa_cons (pe_lc (own := [("y", 5)]) (g := gName 5) (tt := tYes) (te := teIn K) rfl nd (pi_list (pv 2)) (blkOk_by (N := NCS) (sc := scCSx) (by decide +kernel)) (fun _ _ _ _ _ => pg_name (i := 5) nd rfl (Or.inl rfl)) (fun _ _ _ _ _ => pts_nil)
            (fun _ _ _ _ _ => pe_cmpR (op_inD hu65) (pe_tup (pa_cons (pv 4) (pa_cons (pv 5) pa_nil))) (pv 1) (by rfl))) pa_nil))))
          (fun _ _ _ _ _ => pv 4)) pss_nil)))
      (pss_one (ps_ifN (pt_truth (pv 2) (by intro _; rfl)) pss_nil)))), ?_⟩
    obtain ⟨a, t, xs, rfl, hs, hn, ht, k⟩ := h
    refine ⟨_, rfl, a, _, rfl, .inl hs, fun L hL => ?_⟩
    have s0 := same_upd (o := .lst (xs.map V.str)) hL
    change tSeq _ _ _ _ (upd H L (.lst (xs.map V.str)))
    refine lead_st (xs := xs) (s0.seq ht) (SqL.of upd_same) hn fun D G hD s1 eD => ?_
    have eL : G L = some (.lst (xs.map V.str)) := s1 _ _ upd_same
    replace s1 := s0.trans s1
    change tSeq (tWhile _ _) _ _ _ _
    refine while_by (fun σ G' => ∃ (L D : Addr) (ys : List Str), σ = [some (.ref a), some (.ref t), some (.ref L), some (.ref D), none, none] ∧ G' L = some (.lst (ys.map V.str)) ∧ G' D = some (.lst []) ∧ NL ys ∧ Same H G')
      (fun σ G' => match σ[2]? with
        | some (some (V.ref b)) => (match G' b with
          | some (.lst zs) => zs.length
          | _ => 0)
        | _ => 0) ⟨L, D, xs, rfl, eL, eD, hn, s1⟩ ?_ ?_
    · rintro σ G' ⟨L, D, ys, rfl, hL, hD, hn, sm⟩
      refine ⟨_, rfl, _, rfl, .list [], .list (ys.map PyData.str),   .lst (SqL.of hD) .nil, .lst (SqL.of hL) (dpa_strs ys), shp_nil, shp_lstr hn, ?_⟩
      cases ys with
      | nil =>
        refine ⟨false, by simp [PyData.eqv, PyData.eqvAll], iteF ?_⟩
        exact ⟨_, rfl, false, .inl ⟨_, SqL.of hL, rfl⟩, rfl, k G' sm⟩
      | cons y ys =>
        refine ⟨true, by simp [PyData.eqv, PyData.eqvAll], iteT ?_⟩
        refine ⟨_, rfl, ?_⟩
        change tSeq _ _ _ _ _
        refine lead_st (xs := []) (sm.seq ht) (SqL.of hD) ⟨List.nodup_nil, fun x hx => absurd hx List.not_mem_nil, Nat.zero_le _⟩ fun D2 G2 hD2 s2 e2 => ?_
        refine ⟨⟨D, D2, [], rfl, s2 _ _ hD, e2, ⟨List.nodup_nil, fun x hx => absurd hx List.not_mem_nil, Nat.zero_le _⟩, sm.trans s2⟩, ?_⟩
        show (match G2 D with
          | some (HO.lst zs) => zs.length
          | _ => 0) < (match G' L with
          | some (HO.lst zs) => zs.length
          | _ => 0)
        rw [s2 _ _ hD, hL]
        exact Nat.succ_pos _
    · rintro σ G' Q1 Q2 hq ⟨v, e1, u, e2, d, e, h1, h2, h3, h4, kk, e3, z⟩
      exact ⟨v, e1, u, e2, d, e, h1, h2, h3, h4, kk, e3, hq _ _ z⟩
end
end K37

namespace K37
open PySem PySem.Spec PyProof.Rows L2 Ow
/-- an expression that is never asked -/
def tNo : TE := fun _ _ _ => False
theorem pe_no {X : Cx} {e : Expr} : PE X e tNo := ⟨fun _ _ _ _ _ _ h => h.elim⟩
abbrev FnM (K : PySem.W.Frag) (m q : Str) (st : Stmt) (f : Addr) (fd : FuncData) : Prop := FunD K m q (defArgs st) (defBody st) (defScope st) [] [] f fd
def isIns : HO → Bool
  | .ins _ _ _ => true
  | _ => false
section
variable {K : PySem.W.Frag} {x : Addr} {H H' : Hp}
theorem Keep.one {o : HO} (k : Keep x H H') (hx : ∃ u, H x = some u ∧ isIns u = true) {b : Addr} (e : H b = some o) (n : isIns o = false) : H' b = some o := by
  refine k b o (fun z => ?_) e
  obtain ⟨u, hu, iu⟩ := hx
  subst z
  rw [hu] at e
  cases e
  rw [iu] at n
  cases n
theorem Keep.sqt {a : Addr} {xs : List V} (k : Keep x H H') (hx : ∃ u, H x = some u ∧ isIns u = true) (h : SqT K H a xs) : SqT K H' a xs :=
  h.elim (fun h => .inl (h.elim (fun h => .inl (k.one hx h rfl)) fun ⟨o, h⟩ => .inr ⟨o, k.one hx h rfl⟩)) fun h => .inr h
theorem Keep.sql {a : Addr} {xs : List V} (k : Keep x H H') (hx : ∃ u, H x = some u ∧ isIns u = true) (h : SqL K H a xs) : SqL K H' a xs :=
  h.elim (fun h => .inl (h.elim (fun h => .inl (k.one hx h rfl)) fun ⟨o, h⟩ => .inr ⟨o, k.one hx h rfl⟩)) fun h => .inr h
theorem Keep.tups {l : Addr} {vss : List (List V)} (k : Keep x H H') (hx : ∃ u, H x = some u ∧ isIns u = true) (h : TupsAt K H l vss) : TupsAt K H' l vss := by
  obtain ⟨as, q, e, g⟩ := h
  refine ⟨as, k.sql hx q, e, fun i t z => ?_⟩
  obtain ⟨vs, e1, e2⟩ := g i t z
  exact ⟨vs, e1, k.sqt hx e2⟩
end
abbrev NFI : List Str := ["self", "sorts", "letters", "totals", "kept_totals", "ends", "letter", "name", "word", "first", "second", "total"]
theorem scFI : FnScope NFI ["self", "sorts", "letters", "totals"] (defScope sFrame_Init) := ⟨rfl, rfl, rfl, by decide +kernel, rfl, by decide +kernel, by decide +kernel⟩
/-- a frame's parts without totals -/
structure FrOk (xs : List Str) (ls : List Lt) : Prop where
  nx : NL xs
  nl : NL (ls.map (·.1))
  ends : ∀ q ∈ ls, q.2.1 ∈ xs ∧ q.2.2 ∈ xs
def spFI (K : PySem.W.Frag) : Sp := fun vs H Q _ => ∃ (x s l t dx : Addr) (xs : List Str) (ls : List Lt), vs = [.ref x, .ref s, .ref l, .ref t] ∧ H x = some (.ins (CFrame K) dx []) ∧ SqL K H s (xs.map V.str) ∧ TupsAt K H l (ls.map ltV) ∧ SqL K H t [] ∧ FrOk xs ls ∧
  ∀ H', Keep x H H' → Q .non H'
theorem lt_at {ls : List Lt} {i : Nat} {vs : List V} (e1 : (ls.map ltV)[i]? = some vs) : ∃ lt, ls[i]? = some lt ∧ vs = ltV lt := by
  rw [List.getElem?_map] at e1
  cases e : ls[i]? with
  | none => rw [e] at e1; cases e1
  | some z => rw [e] at e1; exact ⟨z, rfl, (Option.some.inj e1).symm⟩
section
variable {P : Program} {w : World} {K : PySem.W.Frag} {mg : Str → Option Value} {base : Heap} {f : Addr} {fd : FuncData}
theorem ok_fi (F : FnM K "__init__" "Frame.__init__" sFrame_Init f fd) (Y : Fx w K mg) : FnOk P w K mg base CX0 3 f fd ["self", "sorts", "letters", "totals"] (spFI K) := by
  obtain ⟨d1, F1⟩ := Y.dCheckNames
  obtain ⟨d2, F2⟩ := Y.dCheckEnds
  obtain ⟨d3, F3⟩ := Y.dCheckTotals
  obtain ⟨d4, F4⟩ := Y.dCheckSteps
  have b1 := FunD.bindsN (ps := ["lists"]) F1 fun _ _ _ _ _ _ us hl => match us, hl with | [_], _ => rfl
  have b2 := FunD.bindsN (ps := ["sorts", "letters", "totals"]) F2 fun _ _ _ _ _ _ us hl => match us, hl with | [_, _, _], _ => rfl
  have b3 := FunD.bindsN (ps := ["totals"]) F3 fun _ _ _ _ _ _ us hl => match us, hl with | [_], _ => rfl
  have b4 := FunD.bindsN (ps := ["sorts", "steps"]) F4 fun _ _ _ _ _ _ us hl => match us, hl with | [_, _], _ => rfl
  have G1 : FnOk P w K mg base CX0 2 _ d1 ["lists"] (spCheck K) := ok_check F1 Y
  have G2 : FnOk P w K mg base CX0 1 _ d2 ["sorts", "letters", "totals"] (spCE K) := ok_ce F2 Y
  have G3 : FnOk P w K mg base CX0 1 _ d3 ["totals"] (spCT K) := ok_ct F3 Y
  have G4 : FnOk P w K mg base CX0 1 _ d4 ["sorts", "steps"] (spCS K) := ok_cs F4 Y
  refine okD F scFI (fun vs H Q E h => ?_) (fun cdv A outer s H vs Q E hr h => ?_)
  · obtain ⟨x, a, l, t, dx, xs, ls, rfl, _⟩ := h
    rfl
  · have nd := scFI.nd
    have hr1 : Room 1 _ := hr.mono (by decide)
    refine ⟨_, pss_cons (ps_expr (pe_call G1 hr (by rfl) Y.gCheckNames F1.kp b1 .nil pass0 (pa_cons (pe_lst (pa_cons (pv 1) (pa_cons
          (pe_lc (own := [("letter", 6)]) (g := gName 6) (tt := tYes) (te := tOp (rIxT K) (tVar 6) (tC (.int 0))) rfl nd (pi_list (pv 2)) (blkOk_by (N := NFI) (sc := defScope sFrame_Init) (by decide +kernel)) (fun _ _ _ _ _ => pg_name (i := 6) nd rfl (Or.inl rfl)) (fun _ _ _ _ _ => pts_nil) (fun _ _ _ _ _ => pe_ix ix_tup (pv 6) pe_int (fun _ _ => rfl))) pa_nil))) pa_nil)))
      (pss_cons (ps_expr (pe_call G2 hr1 (by rfl) Y.gCheckEnds F2.kp b2 .nil pass0 (pa_cons (pv 1) (pa_cons (pv 2) (pa_cons (pv 3) pa_nil)))))
      (pss_cons (ps_setLc (i := 4) (own := [("name", 7), ("word", 8)]) (g := gTup K 2 (gCons (gName 7) (gCons (gName 8) gNil))) (tt := tYes) (te := tNo) rfl nd rfl rfl (by rfl) (pi_list (pv 3)) (blkOk_by (N := NFI) (sc := defScope sFrame_Init) (by decide +kernel)) (fun _ _ _ _ _ => pg_tup rfl (pgs_cons (pg_name (i := 7) nd rfl (Or.inl rfl)) (pgs_cons (pg_name (i := 8) nd rfl (Or.inl rfl)) pgs_nil))) (fun _ _ _ _ _ => pts_nil) (fun _ _ _ _ _ => pe_no))
      (pss_cons (ps_expr (pe_call G3 hr1 (by rfl) Y.gCheckTotals F3.kp b3 .nil pass0 (pa_cons (pv 4) pa_nil)))
      (pss_cons (ps_set (i := 5) nd rfl (Or.inr rfl) (pe_dc (own := [("name", 7), ("first", 9), ("second", 10)]) (g := gTup K 3 (gCons (gName 7) (gCons (gName 9) (gCons (gName 10) gNil)))) (tt := tYes) (tk := tVar 7) (tv := tTup (tCons (tVar 9) (tCons (tVar 10) tNil))) rfl nd (pi_list (pv 2)) (blkOk_by (N := NFI) (sc := defScope sFrame_Init) (by decide +kernel))
          (fun _ _ _ _ _ => pg_tup rfl (pgs_cons (pg_name (i := 7) nd rfl (Or.inl rfl)) (pgs_cons (pg_name (i := 9) nd rfl (Or.inl rfl)) (pgs_cons (pg_name (i := 10) nd rfl (Or.inl rfl)) pgs_nil)))) (fun _ _ _ _ _ => pts_nil) (fun _ _ _ _ _ => pv 7) (fun _ _ _ _ _ => pe_tup (pa_cons (pv 9) (pa_cons (pv 10) pa_nil)))))
      (pss_cons (ps_expr (pe_call G4 hr1 (by rfl) Y.gCheckSteps F4.kp b4 .nil pass0 (pa_cons (pv 1) (pa_cons
          (pe_lc (own := [("total", 11)]) (g := gName 11) (tt := tYes) (te := tNo) rfl nd (pi_list (pv 4)) (blkOk_by (N := NFI) (sc := defScope sFrame_Init) (by decide +kernel)) (fun _ _ _ _ _ => pg_name (i := 11) nd rfl (Or.inl rfl)) (fun _ _ _ _ _ => pts_nil) (fun _ _ _ _ _ => pe_no)) pa_nil))))
      (pss_cons (ps_fld (pv 0) (pe_callTy call_tuple_of (by rfl) Y.bTuple (by decide +kernel) (pa_cons (pv 1) pa_nil)) rfl)
      (pss_cons (ps_fld (pv 0) (pe_callTy call_tuple_of (by rfl) Y.bTuple (by decide +kernel) (pa_cons
          (pe_lc (own := [("name", 7), ("first", 9), ("second", 10)]) (g := gTup K 3 (gCons (gName 7) (gCons (gName 9) (gCons (gName 10) gNil)))) (tt := tYes) (te := tTup (tCons (tVar 7) (tCons (tVar 9) (tCons (tVar 10) tNil)))) rfl nd (pi_list (pv 2)) (blkOk_by (N := NFI) (sc := defScope sFrame_Init) (by decide +kernel))
            (fun _ _ _ _ _ => pg_tup rfl (pgs_cons (pg_name (i := 7) nd rfl (Or.inl rfl)) (pgs_cons (pg_name (i := 9) nd rfl (Or.inl rfl)) (pgs_cons (pg_name (i := 10) nd rfl (Or.inl rfl)) pgs_nil)))) (fun _ _ _ _ _ => pts_nil) (fun _ _ _ _ _ => pe_tup (pa_cons (pv 7) (pa_cons (pv 9) (pa_cons (pv 10) pa_nil))))) pa_nil)) rfl)
      (pss_cons (ps_fld (pv 0) (pe_callTy call_tuple_of (by rfl) Y.bTuple (by decide +kernel) (pa_cons (pv 4) pa_nil)) rfl)
      (pss_one (ps_fld (pv 0) (pv 5) rfl)))))))))), ?_⟩
    obtain ⟨x, a, l, t, dx, xs, ls, rfl, hx, hs, hl, ht, ok, k⟩ := h
    obtain ⟨as, q, la, g⟩ := id hl
    rw [List.length_map] at la
    have hx0 : ∃ u, H x = some u ∧ isIns u = true := ⟨_, hx, rfl⟩
    have n16 : ls.length ≤ 16 := by have := ok.nl.n; rw [List.length_map] at this; exact this
    refine ⟨_, rfl, _, rfl, l, rfl, ⟨_, q⟩, fun D hD => ?_⟩
    refine lc_list (K := K) (a := l) (xs := as.map V.ref) (fun i G => G D = some (.lst (((ls.take i).map (·.1)).map V.str)) ∧ Same H G) ⟨upd_same, same_upd hD⟩ (fun i G _ p => p.2.seq q) ?_ ?_
    · rintro i v G hi ⟨e, s2⟩
      obtain ⟨b, eb, rfl⟩ := ref_at hi
      obtain ⟨vs, e1, hT⟩ := g i b eb
      obtain ⟨lt, e2, rfl⟩ := lt_at e1
      have li : i < ls.length := (List.getElem?_eq_some_iff.mp e2).1
      refine ⟨rfl, _, rfl, b, _, 0, _, rfl, rfl, sqt_same s2 hT, rfl, _, e, ?_, ?_, same_put hD s2⟩
      · rw [List.length_map, List.length_map, List.length_take]
        exact small1000 (by omega)
      · rw [upd_same, List.take_add_one, e2]
        simp [ltV]
    rintro G0 ⟨eD, s0⟩
    rw [List.length_map, la, List.take_length] at eD
    refine ⟨szl (by show 2 ≤ 1000; decide), fun p hp => ?_⟩
    have sp := s0.trans (same_upd (o := .lst [V.ref a, V.ref D]) hp)
    refine ⟨p, .ref a, .ref D, xs, ls.map (·.1), rfl, SqL.of upd_same, ⟨a, rfl, .inl (sp.seq hs), ok.nx⟩, ⟨D, rfl, .inl (SqL.of (same_upd hp _ _ eD)), ok.nl⟩, fun H1 s1 => ?_⟩
    replace s1 := sp.trans s1
    clear sp hp eD s0 hD
    refine ⟨_, rfl, _, rfl, _, rfl, a, l, t, xs, ls, rfl, s1.seq hs, hl.same s1, ok.ends, n16, s1.seq ht, fun H2 s2 => ?_⟩
    replace s2 := s1.trans s2
    clear s1
    refine ⟨_, rfl, t, rfl, ⟨_, s2.seq ht⟩, fun T hT => ?_⟩
    refine lc_list (K := K) (a := t) (xs := []) (fun i G => G T = some (.lst []) ∧ Same H2 G) ⟨upd_same, same_upd hT⟩ (fun i G _ p => (s2.trans p.2).seq ht) (fun i v G hi => nomatch hi) ?_
    rintro H3 ⟨eT, s3⟩
    replace s3 := s2.trans s3
    clear s2 hT
    refine ⟨_, rfl, T, rfl, SqL.of eT, fun H4 s4 => ?_⟩
    have eT := s4 _ _ eT
    replace s4 := s3.trans s4
    clear s3
    refine ⟨_, rfl, l, rfl, ⟨_, s4.seq q⟩, fun N hN => ?_⟩
    refine dc_it (walk_list (K := K) (a := l) (xs := as.map V.ref)) (fun i G => (∃ kvs : List (Key × V), G N = some (.dK kvs) ∧ kvs.length ≤ i) ∧ Same H4 G) ⟨⟨[], upd_same, Nat.le_refl _⟩, same_upd hN⟩ (fun i G _ p => (s4.trans p.2).seq q) ?_ ?_
    · rintro i v G G' hi ⟨⟨kvs, e, lk⟩, s5⟩ ⟨rfl, ev⟩
      obtain ⟨b, eb, rfl⟩ := ref_at ev
      obtain ⟨vs, e1, hT⟩ := g i b eb
      obtain ⟨lt, e2, rfl⟩ := lt_at e1
      have li : i < ls.length := (List.getElem?_eq_some_iff.mp e2).1
      refine ⟨b, _, rfl, sqt_same (s4.trans s5) hT, rfl, _, _, rfl, _, _, rfl, _, _, rfl, rfl, rfl, _, rfl, _, rfl, _, rfl, szl (by show 2 ≤ 1000; decide), fun T2 hT2 => ?_⟩
      refine ⟨kvs, .inr lt.1, rfl, same_upd hT2 _ _ e, small1000 (by omega), ⟨putK kvs (.inr lt.1) (.ref T2), upd_same, ?_⟩, same_put hN (s5.trans (same_upd hT2))⟩
      exact Nat.le_trans (length_putK _ _ _) (by omega)
    rintro H5 ⟨⟨kvs, eN, _⟩, s5⟩
    have eT := s5 _ _ eT
    replace s5 := s4.trans s5
    clear s4 hN
    refine ⟨_, rfl, _, rfl, T, rfl, ⟨_, SqL.of eT⟩, fun U hU => ?_⟩
    refine lc_list (K := K) (a := T) (xs := []) (fun i G => G U = some (.lst []) ∧ Same H5 G) ⟨upd_same, same_upd hU⟩ (fun i G _ p => SqL.of (p.2 _ _ eT)) (fun i v G hi => nomatch hi) ?_
    rintro H6 ⟨eU, s6⟩
    refine ⟨a, U, xs, rfl, (s5.trans s6).seq hs, ok.nx, SqL.of eU, fun H7 s7 => ?_⟩
    have eT := s7 _ _ (s6 _ _ eT)
    have eN := s7 _ _ (s6 _ _ eN)
    replace s7 := s5.trans (s6.trans s7)
    clear s5 s6 hU eU
    -- the fields
    have x1 := s7 _ _ hx
    have hs1 := s7.seq hs
    have hl1 := hl.same s7
    have k1 : Keep x H H7 := .of s7
    clear s7
    refine ⟨_, rfl, a, _, rfl, .inl ⟨hs1, fun p hp => ⟨_, rfl, x, CFrame K, dx, _, rfl, (upd_ne (ne_of_none x1 hp)).trans x1, Y.cFrame, Y.nFrameSorts, (by show 0 < 1000; decide), ?_⟩⟩⟩
    have kk : Keep x H7 (upd (upd H7 p (.tup (xs.map V.str))) x (.ins (CFrame K) dx [("_sorts", .ref p)])) := (Keep.of (same_upd hp)).trans .put
    replace hl1 := kk.tups ⟨_, x1, rfl⟩ hl1
    replace eT := kk.one ⟨_, x1, rfl⟩ eT rfl
    replace eN := kk.one ⟨_, x1, rfl⟩ eN rfl
    replace k1 := k1.trans kk
    replace x1 : upd (upd H7 p (.tup (xs.map V.str))) x (.ins (CFrame K) dx [("_sorts", .ref p)]) x = some (.ins (CFrame K) dx [("_sorts", .ref p)]) := upd_same
    obtain ⟨G1, e1⟩ : ∃ Z, Z = upd (upd H7 p (.tup (xs.map V.str))) x (.ins (CFrame K) dx [("_sorts", .ref p)]) := ⟨_, rfl⟩
    change tSeq _ _ _ _ (upd (upd H7 p (.tup (xs.map V.str))) x (.ins (CFrame K) dx [("_sorts", .ref p)]))
    rw [← e1] at hl1 eT eN k1 x1 ⊢
    clear kk e1 hs1 hp
    obtain ⟨as2, q2, la2, g2⟩ := hl1
    rw [List.length_map] at la2
    refine ⟨_, rfl, l, rfl, ⟨_, q2⟩, fun D hD => ?_⟩
    refine lc_list (K := K) (a := l) (xs := as2.map V.ref) (fun i G => (∃ us : List V, G D = some (.lst us) ∧ us.length = i) ∧ Same G1 G) ⟨⟨[], upd_same, rfl⟩, same_upd hD⟩ (fun i G _ p => p.2.seq q2) ?_ ?_
    · rintro i v G hi ⟨⟨us, e, lu⟩, s2⟩
      obtain ⟨b, eb, rfl⟩ := ref_at hi
      obtain ⟨vs, e1, hT⟩ := g2 i b eb
      obtain ⟨lt, e2, rfl⟩ := lt_at e1
      have li : i < ls.length := (List.getElem?_eq_some_iff.mp e2).1
      refine ⟨b, _, rfl, sqt_same s2 hT, rfl, _, _, rfl, _, _, rfl, _, _, rfl, rfl, rfl, ?_⟩
      refine ⟨_, rfl, _, rfl, _, rfl, szl (by show 3 ≤ 1000; decide), fun T2 hT2 => ?_⟩
      refine ⟨us, same_upd hT2 _ _ e, small1000 (by omega), ⟨us ++ [.ref T2], upd_same, by rw [List.length_append, lu]; rfl⟩, same_put hD (s2.trans (same_upd hT2))⟩
    rintro G2 ⟨⟨us, eD, _⟩, s2⟩
    replace x1 := s2 _ _ x1
    replace eT := s2 _ _ eT
    replace eN := s2 _ _ eN
    replace k1 := k1.trans (Keep.of s2)
    clear s2 hD q2 g2 la2
    refine ⟨D, us, rfl, .inl ⟨SqL.of eD, fun p2 hp => ⟨_, rfl, x, CFrame K, dx, _, rfl, (upd_ne (ne_of_none x1 hp)).trans x1, Y.cFrame, Y.nFrameLetters, (by show 1 < 1000; decide), ?_⟩⟩⟩
    have kk : Keep x G2 (upd (upd G2 p2 (.tup us)) x (.ins (CFrame K) dx [("_sorts", .ref p), ("_letters", .ref p2)])) := (Keep.of (same_upd hp)).trans .put
    replace eT := kk.one ⟨_, x1, rfl⟩ eT rfl
    replace k1 := k1.trans kk
    replace x1 : upd (upd G2 p2 (.tup us)) x (.ins (CFrame K) dx [("_sorts", .ref p), ("_letters", .ref p2)]) x = some (.ins (CFrame K) dx [("_sorts", .ref p), ("_letters", .ref p2)]) := upd_same
    obtain ⟨G3, e1⟩ : ∃ Z, Z = upd (upd G2 p2 (.tup us)) x (.ins (CFrame K) dx [("_sorts", .ref p), ("_letters", .ref p2)]) := ⟨_, rfl⟩
    change tSeq _ _ _ _ (upd (upd G2 p2 (.tup us)) x (.ins (CFrame K) dx [("_sorts", .ref p), ("_letters", .ref p2)]))
    rw [← e1] at eT k1 x1 ⊢
    clear kk e1 hp
    refine ⟨_, rfl, T, _, rfl, .inl ⟨SqL.of eT, fun p3 hp => ⟨_, rfl, x, CFrame K, dx, _, rfl, (upd_ne (ne_of_none x1 hp)).trans x1, Y.cFrame, Y.nFrameTotals, (by show 2 < 1000; decide), ?_⟩⟩⟩
    refine ⟨_, rfl, _, rfl, x, CFrame K, dx, _, rfl, upd_same, Y.cFrame, Y.nFrameEnds, (by show 3 < 1000; decide), ?_⟩
    exact k _ ((k1.trans ((Keep.of (same_upd hp)).trans .put)).trans .put)
end
end K37

namespace K37
open PySem PySem.Spec PyProof.Rows L2 Ow
def hid (d c : Addr) (H : Hp) : Hp := fun b => if b = d ∨ b = c then none else H b
theorem hid_pick {d c : Addr} {H H' : Hp} (k : ∀ b, b ≠ d → b ≠ c → H' b = H b) : hid d c H' = hid d c H := by
  funext b
  unfold hid
  by_cases h : b = d ∨ b = c
  · rw [if_pos h, if_pos h]
  · rw [if_neg h, if_neg h, k b (fun z => h (.inl z)) fun z => h (.inr z)]
theorem hid_at {d c b : Addr} {H : Hp} (h1 : b ≠ d) (h2 : b ≠ c) : hid d c H b = H b := if_neg fun h => h.elim h1 h2
theorem hid_same {d c : Addr} {H H' : Hp} (s : Same H H') : Same (hid d c H) (hid d c H') := fun b o e => by
  unfold hid at e ⊢
  by_cases h : b = d ∨ b = c
  · rw [if_pos h] at e; cases e
  · rw [if_neg h] at e ⊢; exact s b o e
theorem hid_sub {d c : Addr} {H : Hp} : Same (hid d c H) H := fun b o e => by
  unfold hid at e
  by_cases h : b = d ∨ b = c
  · rw [if_pos h] at e; cases e
  · rw [if_neg h] at e; exact e
theorem src_same {d c : Addr} {H H' : Hp} (s : Same H H') (h : SrcAt H d c) : SrcAt H' d c := let ⟨xs, l, m, t, h1, h2, h3⟩ := h; ⟨xs, l, m, t, s _ _ h1, h2, s _ _ h3⟩
theorem src_ne {d c b : Addr} {H : Hp} (h : SrcAt H d c) (n : H b = none) : b ≠ d ∧ b ≠ c := let ⟨_, _, _, _, h1, _, h3⟩ := h; ⟨(ne_of_none h3 n).symm, (ne_of_none h1 n).symm⟩

theorem src_put {d c L : Addr} {H : Hp} {o : HO} (n1 : L ≠ d) (n2 : L ≠ c) (h : SrcAt H d c) : SrcAt (upd H L o) d c := by
  obtain ⟨xs, l, m, t, h1, h2, h3⟩ := h
  exact ⟨xs, l, m, t, (upd_ne n2.symm).trans h1, h2, (upd_ne n1.symm).trans h3⟩
theorem hid_put {d c L : Addr} {H G : Hp} {o : HO} (hL : H L = none) (s : Same (hid d c H) (hid d c G)) : Same (hid d c H) (hid d c (upd G L o)) := fun b u e => by
  have nb : b ≠ L := ne_of_none (hid_sub b u e) hL
  have z := s b u e
  unfold hid at z ⊢
  by_cases q : b = d ∨ b = c
  · rw [if_pos q] at z
    cases z
  · rw [if_neg q] at z ⊢
    exact (upd_ne nb).trans z
/-! ### names -/
def tail2 (v : Nat) : Str := Txt.slice (toString (100 + (v : Int))) (some 1) none
def nameOf (c v : Nat) : Str := (⟨#[c]⟩ : Str) ++ tail2 v
def okT (v : Nat) : Bool := decide ((tail2 v).cps.size = 2) && (tail2 v).cps.toList.all fun c => decide (c ∈ SG.cps.toList)
def val2 (t : Str) : Nat := (t.cps.getD 0 0 - 48) * 10 + (t.cps.getD 1 0 - 48)
theorem tails : ((List.range 100).all fun v => okT v && decide (val2 (tail2 v) = v)) = true := by decide +kernel
theorem tlens : ((List.range 100).all fun v => decide ((PySem.Str.ofString (toString (100 + (v : Int)))).length ≤ 10)) = true := by decide +kernel
theorem tailz : ((List.range 100).all fun v => decide ((tail2 v).cps.toList ≠ [122, 57])) = true := by decide +kernel
theorem lt_sg : ∀ c ∈ LT.cps.toList, c ∈ SG.cps.toList := by decide +kernel
theorem tail_ok {v : Nat} (h : v < 100) : (tail2 v).cps.size = 2 ∧ (∀ c ∈ (tail2 v).cps.toList, c ∈ SG.cps.toList) ∧ val2 (tail2 v) = v := by
  have z := List.all_eq_true.mp tails v (List.mem_range.mpr h)
  obtain ⟨z1, z2⟩ := an z
  obtain ⟨z3, z4⟩ := an z1
  exact ⟨of_decide_eq_true z3, fun c hc => of_decide_eq_true (List.all_eq_true.mp z4 c hc), of_decide_eq_true z2⟩
theorem name_cps (c v : Nat) : (nameOf c v).cps = #[c] ++ (tail2 v).cps := rfl
theorem name_wd {c v : Nat} (hc : c ∈ LT.cps.toList) (hv : v < 100) : Wd (nameOf c v) := by
  obtain ⟨t1, t2, _⟩ := tail_ok hv
  have sz : (nameOf c v).cps.size = 3 := by rw [name_cps, Array.size_append, t1]; rfl
  refine ⟨by show 1 ≤ (nameOf c v).cps.size; omega, by show (nameOf c v).cps.size ≤ 12; omega, fun x hx => ?_, fun i x hx => ?_, fun e => ?_⟩
  · rw [name_cps, Array.getElem?_append_left (by show 0 < 1; decide)] at hx
    have e : c = x := by simpa using hx
    rw [← e]
    exact hc
  · rw [name_cps] at hx
    by_cases l : i < 1
    · have i0 : i = 0 := by omega
      subst i0
      rw [Array.getElem?_append_left (by show 0 < 1; decide)] at hx
      have e : c = x := by simpa using hx
      rw [← e]
      exact lt_sg c hc
    · rw [Array.getElem?_append_right (by show 1 ≤ i; omega)] at hx
      exact t2 x (by rw [← Array.getElem?_toList] at hx; exact List.mem_of_getElem? hx)
  · have e1 := congrArg (fun z : Str => z.cps.toList) e
    simp only [name_cps, Array.toList_append] at e1
    have e2 : (tail2 v).cps.toList = [122, 57] := (List.cons.inj (show c :: (tail2 v).cps.toList = 122 :: [122, 57] from e1)).2
    exact of_decide_eq_true (List.all_eq_true.mp tailz v (List.mem_range.mpr hv)) e2
theorem name_inj {c c' v v' : Nat} (hv : v < 100) (hv' : v' < 100) (h : nameOf c v = nameOf c' v') : v = v' := by
  have e := congrArg (fun z : Str => z.cps.toList) h
  simp only [name_cps, Array.toList_append] at e
  have e2 : (tail2 v).cps.toList = (tail2 v').cps.toList := (List.cons.inj e).2
  have e3 : tail2 v = tail2 v' := by
    cases h1 : tail2 v with
    | mk a =>
      cases h2 : tail2 v' with
      | mk b =>
        rw [h1, h2] at e2
        exact congrArg Str.mk (Array.toList_inj.mp e2)
  rw [← (tail_ok hv).2.2, ← (tail_ok hv').2.2, e3]
abbrev NNm : List Str := ["_law_source_here", "_law_many", "_law_shift", "_law_names_here", "_law_k", "_law_letter"]
theorem scNm : FnScope NNm ["_law_source_here", "_law_many"] (defScope sLawNames) := ⟨rfl, rfl, rfl, by decide +kernel, rfl, by decide +kernel, by decide +kernel⟩
def spNm (K : PySem.W.Frag) : Sp := fun vs H Q _ => ∃ (d c : Addr) (n : Nat), vs = [.ref d, .int (n : Int)] ∧ SrcAt H d c ∧ n ≤ 16 ∧
  ∀ (l : Addr) (ns : List Str) (H' : Hp), SrcAt H' d c → Same (hid d c H) (hid d c H') → NL ns → ns.length = n → SqL K (hid d c H') l (ns.map V.str) → Q (.ref l) H'
section
variable {P : Program} {w : World} {K : PySem.W.Frag} {mg : Str → Option Value} {base : Heap} {f : Addr} {fd : FuncData}
theorem ok_nm (F : FnP K "_law_names" sLawNames f fd) (Y : Fx w K mg) : FnOk P w K mg base CX0 2 f fd ["_law_source_here", "_law_many"] (spNm K) := by
  obtain ⟨d1, F1⟩ := Y.dLawPick
  have b1 := FunD.bindsN (ps := ["_law_source_here", "_law_many"]) F1 fun _ _ _ _ _ _ us hl => match us, hl with | [_, _], _ => rfl
  have G1 : FnOk P w K mg base CX0 1 _ d1 ["_law_source_here", "_law_many"] spPick := ok_pick F1 Y.bl
  refine okD F scNm (fun vs H Q E h => ?_) (fun cdv A outer s H vs Q E hr h => ?_)
  · obtain ⟨d, c, n, rfl, _⟩ := h
    rfl
  · have nd := scNm.nd
    have B := Y.bl
    refine ⟨_, pss_cons (ps_set (i := 2) nd rfl (Or.inl rfl) (pe_call G1 hr (by rfl) Y.gLawPick F1.kp b1 .nil pass0 (pa_cons (pv 0) (pa_cons pe_int pa_nil))))
      (pss_cons (ps_set (i := 3) nd rfl (Or.inl rfl) (pe_lst pa_nil))
      (pss_cons (ps_for PassesOwn.never rfl (pi_range1 (by rfl) B.range (pa_cons (pv 1) pa_nil)) (pg_name (i := 4) nd rfl (Or.inl rfl))
        (pss_cons (ps_set (i := 5) nd rfl (Or.inl rfl) (pe_ix ix_str pe_str (pe_call G1 hr (by rfl) Y.gLawPick F1.kp b1 .nil pass0 (pa_cons (pv 0) (pa_cons pe_int pa_nil))) (fun _ _ => rfl)))
        (pss_one (ps_expr (pe_bm PySem.F.plainAttrs_list PySem.F.slot_list_append PySem.F.type_list_append mt_append (pv 3) (pa_cons (pe_op op_add_str (pv 5)
          (pe_slice C8.sl_txt (pe_callTy call_str_int (by rfl) B.str (by decide +kernel) (pa_cons (pe_op op_add pe_int (pe_op op_mod (pe_callTy call_int1 (by rfl) B.int boot_int (pa_cons (pe_op op_add (pv 2) (pe_op op_mul pe_int (pv 4))) pa_nil)) pe_int)) pa_nil)) (po_some pe_int) po_none)) pa_nil))))))
      (pss_one (ps_ret (pv 3))))), ?_⟩
    obtain ⟨d, c, n, rfl, src, hn, k⟩ := h
    refine ⟨_, rfl, d, c, 100, rfl, src, by decide, by decide, fun r H1 r0 r1 src1 keep1 => ?_⟩
    obtain ⟨sh, rfl⟩ : ∃ sh : Nat, r = (sh : Int) := ⟨r.toNat, by omega⟩
    refine ⟨szl (by show 0 ≤ 1000; decide), fun L hL => ?_⟩
    obtain ⟨n1, n2⟩ := src_ne src1 hL
    refine ⟨_, rfl, _, rfl, by omega, by omega, ?_⟩
    have s1 : hid d c H1 = hid d c H := hid_pick keep1
    have src2 := src_same (same_upd (o := .lst []) hL) src1
    have sm2 : Same (hid d c H) (hid d c (upd H1 L (.lst []))) := by rw [← s1]; exact hid_same (same_upd hL)
    rw [Int.toNat_natCast]
    refine for_range (lo := 0) (n := n) (fun i σ G => (∃ v4 v5, σ = [some (.ref d), some (.int (n : Int)), some (.int (sh : Int)), some (.ref L), v4, v5]) ∧ SrcAt G d c ∧ Same (hid d c H) (hid d c G) ∧
      ∃ ns : List Str, G L = some (.lst (ns.map V.str)) ∧ ns.length = i ∧ ∀ j x, ns[j]? = some x → ∃ l ∈ LT.cps.toList, x = nameOf l ((sh + 37 * j) % 100)) ⟨⟨_, _, rfl⟩, src2, sm2, [], upd_same, rfl, fun j x e => by simp at e⟩ ?_ ?_
    · rintro i σ G hi ⟨⟨v4, v5, rfl⟩, src, sm, ns, e1, ln, hns⟩
      refine ⟨_, rfl, d, c, 26, rfl, src, by decide, by decide, fun r H2 r0 r1 src3 keep3 => ?_⟩
      obtain ⟨q, rfl⟩ : ∃ q : Nat, r = (q : Int) := ⟨r.toNat, by omega⟩
      have q26 : q < LT.cps.toList.length := by show q < 26; omega
      have e2 : H2 L = some (.lst (ns.map V.str)) := (keep3 L n1 n2).trans e1
      refine ⟨_, _, LT.cps.toList[q], rfl, rfl, by decide, atI_nat (List.getElem?_eq_getElem q26), ?_⟩
      refine ⟨_, rfl, .inl ⟨rfl, _, SqL.of e2⟩, ?_⟩
      have v1 : (sh + 37 * i) % 100 < 100 := Nat.mod_lt _ (by decide)
      have ev : (100 : Int) + ((sh : Int) + 37 * (0 + (i : Int))) % 100 = 100 + (((sh + 37 * i) % 100 : Nat) : Int) := by omega
      have t1 : ((100 : Int) + ((sh : Int) + 37 * (0 + (i : Int))) % 100).natAbs.log2 < 1920 := by
        rw [ev, Nat.log2_lt (by omega)]
        exact Nat.lt_of_lt_of_le (show (100 + (((sh + 37 * i) % 100 : Nat) : Int)).natAbs < 256 by omega) (by decide)
      have t2 : (PySem.Str.ofString (toString ((100 : Int) + ((sh : Int) + 37 * (0 + (i : Int))) % 100))).length ≤ sizeLine := by
        rw [ev]
        exact Nat.le_trans (of_decide_eq_true (List.all_eq_true.mp tlens _ (List.mem_range.mpr v1))) (by decide)
      have t3 : Txt.slice (PySem.Str.ofString (toString ((100 : Int) + ((sh : Int) + 37 * (0 + (i : Int))) % 100))) (some 1) none = tail2 ((sh + 37 * i) % 100) := by
        rw [ev]
        rfl
      have t4 : (⟨#[LT.cps.toList[q]]⟩ : Str).length + (Txt.slice (PySem.Str.ofString (toString ((100 : Int) + ((sh : Int) + 37 * (0 + (i : Int))) % 100))) (some 1) none).length ≤ sizeLine := by
        rw [t3]
        show 1 + (tail2 ((sh + 37 * i) % 100)).cps.size ≤ sizeLine
        rw [(tail_ok v1).1]
        decide
      refine ⟨_, rfl, _, rfl, _, rfl, _, _, rfl, rfl, .inl ⟨by decide, by decide⟩, _, _, rfl, rfl, .inl ⟨_, rfl, _, _, rfl, rfl, (show (0 : Int) < 100 by decide), _, _, rfl, rfl, _, rfl, t1, 1, rfl, _, rfl, t2, _, _, rfl, rfl, t4, ?_⟩⟩
      refine ⟨L, _, _, rfl, rfl, e2, ?_, ⟨_, _, rfl⟩, ?_, ?_, ns ++ [nameOf LT.cps.toList[q] ((sh + 37 * i) % 100)], ?_, by rw [List.length_append, ln]; rfl, fun j x ex => ?_⟩
      · rw [List.length_map, ln]
        exact small1000 (by omega)
      · exact src_put n1 n2 src3
      · exact hid_put ((keep1 L n1 n2).symm.trans hL) (by rw [hid_pick keep3]; exact sm)
      · rw [upd_same, List.map_append, t3]
        rfl
      · by_cases lt : j < ns.length
        · rw [List.getElem?_append_left lt] at ex
          exact hns j x ex
        · rw [List.getElem?_append_right (by omega)] at ex
          have j0 : j - ns.length = 0 := by
            cases z : j - ns.length with
            | zero => rfl
            | succ m => rw [z] at ex; cases ex
          rw [j0] at ex
          have jj : j = i := by omega
          subst jj
          exact ⟨_, List.getElem_mem _, (Option.some.inj ex).symm⟩
    · rintro σ G ⟨⟨v4, v5, rfl⟩, src, sm, ns, e1, ln, hns⟩
      refine ⟨_, rfl, k L ns G src sm ⟨?_, fun x hx => ?_, by omega⟩ ln (SqL.of ((hid_at n1 n2).trans e1))⟩
      · refine List.pairwise_iff_getElem.mpr fun i j li lj lt e => ?_
        obtain ⟨l1, _, x1⟩ := hns i _ (List.getElem?_eq_getElem li)
        obtain ⟨l2, _, x2⟩ := hns j _ (List.getElem?_eq_getElem lj)
        rw [x1, x2] at e
        have z := name_inj (Nat.mod_lt _ (by decide)) (Nat.mod_lt _ (by decide)) e
        omega
      · obtain ⟨i, li, rfl⟩ := List.getElem_of_mem hx
        obtain ⟨l, hl, e⟩ := hns i _ (List.getElem?_eq_getElem li)
        rw [e]
        exact name_wd hl (Nat.mod_lt _ (by decide))
end
end K37

namespace K37
open PySem PySem.Spec PyProof.Rows L2 Ow
/-! ### the drawn frame -/
theorem sqt_put {K : PySem.W.Frag} {H : Hp} {D t : Addr} {xs l : List V} {o : HO} (e : H D = some (.lst l)) (h : SqT K H t xs) : SqT K (upd H D o) t xs := by
  have one : ∀ {u : HO}, H t = some u → (∀ l, u ≠ .lst l) → upd H D o t = some u := fun {u} z n => (upd_ne (fun q => by
    subst q
    rw [e] at z
    cases z
    exact n l rfl)).trans z
  exact h.elim (fun h => .inl (h.elim (fun h => .inl (one h fun _ z => nomatch z)) fun ⟨o, h⟩ => .inr ⟨o, one h fun _ z => nomatch z⟩)) fun h => .inr h
theorem sqt_putD {K : PySem.W.Frag} {H : Hp} {D t : Addr} {xs : List V} {l : List (Key × V)} {o : HO} (e : H D = some (.dK l)) (h : SqT K H t xs) : SqT K (upd H D o) t xs := by
  have one : ∀ {u : HO}, H t = some u → (∀ l, u ≠ .dK l) → upd H D o t = some u := fun {u} z n => (upd_ne (fun q => by
    subst q
    rw [e] at z
    cases z
    exact n l rfl)).trans z
  exact h.elim (fun h => .inl (h.elim (fun h => .inl (one h fun _ z => nomatch z)) fun ⟨o, h⟩ => .inr ⟨o, one h fun _ z => nomatch z⟩)) fun h => .inr h
theorem hid_upd {d c L : Addr} {G : Hp} {o : HO} (n1 : L ≠ d) (n2 : L ≠ c) : hid d c (upd G L o) = upd (hid d c G) L o := by
  funext b
  by_cases e : b = L
  · subst e
    rw [hid_at n1 n2, upd_same, upd_same]
  · rw [upd_ne e]
    unfold hid
    rw [upd_ne e]
/-- these are tuples of these -/
def AllT (K : PySem.W.Frag) (H : Hp) (us : List Addr) (vss : List (List V)) : Prop := us.length = vss.length ∧ ∀ (i : Nat) (t : Addr), us[i]? = some t → ∃ vs, vss[i]? = some vs ∧ SqT K H t vs
theorem AllT.same {K : PySem.W.Frag} {H H' : Hp} {us : List Addr} {vss : List (List V)} (s : Same H H') (h : AllT K H us vss) : AllT K H' us vss := ⟨h.1, fun i t e => let ⟨vs, a, b⟩ := h.2 i t e; ⟨vs, a, sqt_same s b⟩⟩
theorem AllT.put {K : PySem.W.Frag} {H : Hp} {D : Addr} {l : List V} {o : HO} {us : List Addr} {vss : List (List V)} (e : H D = some (.lst l)) (h : AllT K H us vss) : AllT K (upd H D o) us vss := ⟨h.1, fun i t z => let ⟨vs, a, b⟩ := h.2 i t z; ⟨vs, a, sqt_put e b⟩⟩
theorem AllT.putD {K : PySem.W.Frag} {H : Hp} {D : Addr} {l : List (Key × V)} {o : HO} {us : List Addr} {vss : List (List V)} (e : H D = some (.dK l)) (h : AllT K H us vss) : AllT K (upd H D o) us vss := ⟨h.1, fun i t z => let ⟨vs, a, b⟩ := h.2 i t z; ⟨vs, a, sqt_putD e b⟩⟩
theorem AllT.snoc {K : PySem.W.Frag} {H : Hp} {us : List Addr} {vss : List (List V)} {u : Addr} {vs : List V} (h : AllT K H us vss) (g : SqT K H u vs) : AllT K H (us ++ [u]) (vss ++ [vs]) := by
  refine ⟨by rw [List.length_append, List.length_append, h.1]; rfl, fun i t e => ?_⟩
  by_cases lt : i < us.length
  · rw [List.getElem?_append_left lt] at e
    obtain ⟨ws, a, b⟩ := h.2 i t e
    exact ⟨ws, by rw [List.getElem?_append_left (by rw [← h.1]; exact lt)]; exact a, b⟩
  · rw [List.getElem?_append_right (by omega)] at e
    have j0 : i - us.length = 0 := by
      cases z : i - us.length with
      | zero => rfl
      | succ m => rw [z] at e; cases e
    rw [j0] at e
    have eu : u = t := by simpa using e
    subst eu
    refine ⟨vs, ?_, g⟩
    rw [List.getElem?_append_right (by rw [← h.1]; omega), ← h.1, j0]
    rfl
theorem AllT.nil {K : PySem.W.Frag} {H : Hp} : AllT K H [] [] := ⟨rfl, fun i t e => by simp at e⟩
theorem AllT.tups {K : PySem.W.Frag} {H : Hp} {l : Addr} {us : List Addr} {vss : List (List V)} (e : SqL K H l (us.map V.ref)) (h : AllT K H us vss) : TupsAt K H l vss := ⟨us, e, h.1, h.2⟩
def wdB (x : Str) : Bool := decide (x ≠ ("zz9" : Str)) && (decide (1 ≤ x.length) && (decide (x.length ≤ 12) && ((match x.cps[0]? with
  | some c => decide (c ∈ LT.cps.toList)
  | none => true) && x.cps.toList.all fun c => decide (c ∈ SG.cps.toList))))
theorem wd_of {x : Str} (h : wdB x = true) : Wd x := by
  obtain ⟨h0, h⟩ := an h
  obtain ⟨h1, h2⟩ := an h
  obtain ⟨h2, h3⟩ := an h2
  obtain ⟨h3, h4⟩ := an h3
  refine ⟨of_decide_eq_true h1, of_decide_eq_true h2, fun c e => ?_, fun i c e => ?_, of_decide_eq_true h0⟩
  · rw [e] at h3
    exact of_decide_eq_true h3
  · exact of_decide_eq_true (List.all_eq_true.mp h4 c (by rw [← Array.getElem?_toList] at e; exact List.mem_of_getElem? e))
def ABC : List Str := ["a", "b", "c"]
theorem abc_nl : NL ABC := ⟨by decide +kernel, fun x hx => wd_of (List.all_eq_true.mp (show ABC.all wdB = true by decide +kernel) x hx), by decide⟩
theorem NL.sub {xs ys : List Str} (h : NL xs) (s : ys.Sublist xs) : NL ys := ⟨h.nd.sublist s, fun x hx => h.w x (s.subset hx), Nat.le_trans s.length_le h.n⟩
/-- the dict of the letters' ends: each name's tuple -/
def kvL : List Lt → List Addr → List (Key × V)
  | q :: ls, a :: as => (.inr q.1, .ref a) :: kvL ls as
  | _, _ => []
theorem kvL_len : ∀ (ls : List Lt) (as : List Addr), (kvL ls as).length ≤ ls.length
  | [], _ => by simp [kvL]
  | _ :: _, [] => by simp [kvL]
  | q :: ls, a :: as => Nat.succ_le_succ (kvL_len ls as)
theorem kvL_snoc (q : Lt) (a : Addr) : ∀ (ls : List Lt) (as : List Addr), ls.length = as.length → kvL (ls ++ [q]) (as ++ [a]) = kvL ls as ++ [(.inr q.1, .ref a)]
  | [], [], _ => rfl
  | [], _ :: _, h => by simp at h
  | _ :: _, [], h => by simp at h
  | p :: ls, b :: as, h => congrArg (_ :: ·) (kvL_snoc q a ls as (Nat.succ.inj h))
theorem kvL_no {x : Str} : ∀ (ls : List Lt) (as : List Addr), x ∉ ls.map (·.1) → valV (kvL ls as) (.inr x) = none
  | [], _, _ => rfl
  | _ :: _, [], _ => rfl
  | q :: ls, a :: as, h => by
    have h1 : ¬ ((.inr q.1 : Key) = .inr x) := fun z => h (by injection z with z; rw [← z]; exact List.mem_cons_self)
    show valV ((.inr q.1, .ref a) :: kvL ls as) (.inr x) = none
    rw [valV_neg h1]
    exact kvL_no ls as fun z => h (List.mem_cons_of_mem _ z)
theorem kvL_get : ∀ {ls : List Lt} {as : List Addr} {i : Nat} {q : Lt} {a : Addr}, (ls.map (·.1)).Nodup → ls[i]? = some q → as[i]? = some a → valV (kvL ls as) (.inr q.1) = some (.ref a)
  | [], _, _, _, _, _, h, _ => by simp at h
  | _ :: _, [], _, _, _, _, _, h => by simp at h
  | p :: ls, b :: as, 0, q, a, nd, h1, h2 => by
    have e1 : p = q := by simpa using h1
    have e2 : b = a := by simpa using h2
    rw [e1, e2]
    exact valV_pos (p := ((Sum.inr q.1 : Key), V.ref a)) rfl
  | p :: ls, b :: as, i + 1, q, a, nd, h1, h2 => by
    have h1' : ls[i]? = some q := by simpa using h1
    have nd' := List.nodup_cons.mp (show (p.1 :: ls.map (·.1)).Nodup from nd)
    have n1 : ¬ ((.inr p.1 : Key) = .inr q.1) := fun z => nd'.1 (by injection z with z; rw [z]; exact List.mem_map.mpr ⟨q, List.mem_of_getElem? h1', rfl⟩)
    show valV ((.inr p.1, .ref b) :: kvL ls as) (.inr q.1) = _
    rw [valV_neg n1]
    exact kvL_get nd'.2 h1' (by simpa using h2)
theorem cutV_take (xs : List V) (n : Nat) : cutV xs none (some (n : Int)) = xs.take n := by
  unfold cutV
  rw [HT.sIx_none, HT.sIx_nat, List.drop_zero, Nat.sub_zero]
  by_cases h : n ≤ xs.length
  · rw [Nat.min_eq_left h]
  · rw [Nat.min_eq_right (by omega), List.take_length, List.take_of_length_le (by omega)]
theorem str_ix {xs : List Str} {j : Nat} (h : j < xs.length) : atI (xs.map V.str) ((j : Nat) : Int) = some (.str xs[j]) := atI_nat (by rw [List.getElem?_map, List.getElem?_eq_getElem h]; rfl)
theorem none_of {H H' : Hp} {p : Addr} (s : Same H H') (h : H' p = none) : H p = none := by
  cases z : H p with
  | none => rfl
  | some u => exact absurd (s _ _ z) (by rw [h]; intro q; cases q)
def endV (q : Lt) : List V := [.str q.2.1, .str q.2.2]
/-- at m stands the dict of the letters' ends -/
def LdAt (K : PySem.W.Frag) (H : Hp) (m : Addr) (ls : List Lt) : Prop := ∃ as : List Addr, H m = some (.dK (kvL ls as)) ∧ as.length = ls.length ∧ ∀ (i : Nat) (t : Addr), as[i]? = some t → ∃ q, ls[i]? = some q ∧ SqT K H t (endV q)
theorem LdAt.same {K : PySem.W.Frag} {H H' : Hp} {m : Addr} {ls : List Lt} (s : Same H H') (h : LdAt K H m ls) : LdAt K H' m ls := by
  obtain ⟨as, e, l, g⟩ := h
  refine ⟨as, s _ _ e, l, fun i t z => ?_⟩
  obtain ⟨q, e1, e2⟩ := g i t z
  exact ⟨q, e1, sqt_same s e2⟩
theorem LdAt.get {K : PySem.W.Frag} {H : Hp} {m : Addr} {ls : List Lt} (h : LdAt K H m ls) (nd : (ls.map (·.1)).Nodup) {i : Nat} {q : Lt} (hi : ls[i]? = some q) : ∃ t, DGet H m (.str q.1) (some (.ref t)) ∧ SqT K H t (endV q) := by
  obtain ⟨as, e, l, g⟩ := h
  have li := (List.getElem?_eq_some_iff.mp hi).1
  have ea : as[i]? = some as[i] := List.getElem?_eq_getElem (by omega)
  obtain ⟨q', e1, e2⟩ := g i _ ea
  rw [hi] at e1
  cases e1
  refine ⟨as[i], ?_, e2⟩
  have z : DGet H m (kV (.inr q.1)) (valV (kvL ls as) (.inr q.1)) := DGet.k e
  rw [kvL_get nd hi ea] at z
  exact z
def frV (s m o t b : Addr) : List (Key × V) := [(.inr "sorts", .ref s), (.inr "letters", .ref m), (.inr "order", .ref o), (.inr "totals", .ref t), (.inr "made", .ref b)]
/-- at d stands the drawn frame -/
structure FrAt (K : PySem.W.Frag) (H : Hp) (d : Addr) (xs : List Str) (ls : List Lt) : Prop where
  ex : ∃ s m o t b, H d = some (.dK (frV s m o t b)) ∧ H s = some (.lst (xs.map V.str)) ∧ LdAt K H m ls ∧ SqL K H o ((ls.map (·.1)).map V.str)
  ok : FrOk xs ls
theorem FrAt.same {K : PySem.W.Frag} {H H' : Hp} {d : Addr} {xs : List Str} {ls : List Lt} (s : Same H H') (h : FrAt K H d xs ls) : FrAt K H' d xs ls := by
  obtain ⟨⟨a, m, o, t, b, h1, h2, h3, h4⟩, ok⟩ := h
  exact ⟨⟨a, m, o, t, b, s _ _ h1, s _ _ h2, h3.same s, s.seq h4⟩, ok⟩
theorem fr_sorts {H : Hp} {d s m o t b : Addr} (h : H d = some (.dK (frV s m o t b))) : DGet H d (.str "sorts") (some (.ref s)) := by
  have z : DGet H d (kV (.inr "sorts")) (valV (frV s m o t b) (.inr "sorts")) := DGet.k h
  rw [show valV (frV s m o t b) (.inr "sorts") = some (.ref s) from rfl] at z
  exact z
theorem fr_letters {H : Hp} {d s m o t b : Addr} (h : H d = some (.dK (frV s m o t b))) : DGet H d (.str "letters") (some (.ref m)) := by
  have z : DGet H d (kV (.inr "letters")) (valV (frV s m o t b) (.inr "letters")) := DGet.k h
  rw [show valV (frV s m o t b) (.inr "letters") = some (.ref m) from rfl] at z
  exact z
theorem fr_order {H : Hp} {d s m o t b : Addr} (h : H d = some (.dK (frV s m o t b))) : DGet H d (.str "order") (some (.ref o)) := by
  have z : DGet H d (kV (.inr "order")) (valV (frV s m o t b) (.inr "order")) := DGet.k h
  rw [show valV (frV s m o t b) (.inr "order") = some (.ref o) from rfl] at z
  exact z
abbrev NFd : List Str := ["_law_every", "_law_order", "_law_letters", "_law_totals", "_law_crafted", "_law_name"]
theorem scFd : FnScope NFd ["_law_every", "_law_order", "_law_letters", "_law_totals"] (defScope sLawFramed) := ⟨rfl, rfl, rfl, by decide +kernel, rfl, by decide +kernel, by decide +kernel⟩
def spFd (K : PySem.W.Frag) : Sp := fun vs H Q _ => ∃ (s o m t : Addr) (xs : List Str) (ls : List Lt), vs = [.ref s, .ref o, .ref m, .ref t] ∧ H s = some (.lst (xs.map V.str)) ∧ SqL K H o ((ls.map (·.1)).map V.str) ∧ LdAt K H m ls ∧ SqL K H t [] ∧ FrOk xs ls ∧
  ∀ d b H', H d = none → Same H H' → H' d = some (.dK (frV s m o t b)) → Q (.ref d) H'
section
variable {P : Program} {w : World} {K : PySem.W.Frag} {mg : Str → Option Value} {base : Heap} {f : Addr} {fd : FuncData}
theorem same_new {H H2 : Hp} {x dx : Addr} {u v : HO} (hx : H x = none) (hd : H dx = none) (k : Keep x (upd (upd H dx v) x u) H2) : Same H H2 := fun b o e => k b o (ne_of_none e hx) (by rw [upd_ne (ne_of_none e hx), upd_ne (ne_of_none e hd)]; exact e)
/-- what Frame(s, l, t) asks and tells -/
theorem mk_fr {H : Hp} {s l t : Addr} {xs : List Str} {ls : List Lt} {Q : Addr → Hp → Prop} (hs : SqL K H s (xs.map V.str)) (hl : TupsAt K H l (ls.map ltV)) (ht : SqL K H t []) (ok : FrOk xs ls) (k : ∀ b H', Same H H' → Q b H') :
    ∀ x dx, H x = none → H dx = none → dx ≠ x → spFI K (.ref x :: ([.ref s, .ref l, .ref t] ++ [])) (upd (upd H dx (.own x)) x (.ins (CFrame K) dx [])) (fun v H2 => v = .non ∧ Q x H2) E0 := fun x dx hx hd nd => by
  have s0 : Same H (upd (upd H dx (.own x)) x (.ins (CFrame K) dx [])) := same_new hx hd .refl
  exact ⟨x, s, l, t, dx, xs, ls, rfl, upd_same, s0.seq hs, hl.same s0, s0.seq ht, ok, fun H' kk => ⟨rfl, k x H' (same_new hx hd kk)⟩⟩
end
abbrev NFr : List Str := ["_law_source_here", "_law_sorts", "_law_letters", "_law_every", "_law_order", "_law_found", "_law_name"]
theorem scFr : FnScope NFr ["_law_source_here", "_law_sorts", "_law_letters"] (defScope sLawFrame) := ⟨rfl, rfl, rfl, by decide +kernel, rfl, by decide +kernel, by decide +kernel⟩
end K37

namespace K37
open PySem PySem.Spec PyProof.Rows L2 Ow
/-! ### the first fault of a frame's lists -/
def firstN {α : Type} (p : Nat → Option α) : Nat → Option α
  | 0 => none
  | n + 1 => match firstN p n with
    | some a => some a
    | none => p n
theorem firstN_more {α : Type} {p : Nat → Option α} {a : α} : ∀ {n m : Nat}, firstN p n = some a → n ≤ m → firstN p m = some a
  | n, 0, h, l => by
    obtain rfl : n = 0 := by omega
    exact h
  | n, m + 1, h, l => by
    by_cases e : n = m + 1
    · rw [← e]
      exact h
    · have z := firstN_more (m := m) h (by omega)
      unfold firstN
      rw [z]
theorem firstN_at {α : Type} {p : Nat → Option α} {a : α} {i n : Nat} (h : firstN p i = none) (e : p i = some a) (l : i < n) : firstN p n = some a :=
  firstN_more (n := i + 1) (by unfold firstN; rw [h]; exact e) l
theorem firstN_step {α : Type} {p : Nat → Option α} {i : Nat} (h : firstN p i = none) (e : p i = none) : firstN p (i + 1) = none := by
  unfold firstN
  rw [h]
  exact e
def firstL {α β : Type} (f : Nat → α → Option β) (xs : List α) : Option β := firstN (fun i => xs[i]?.bind (f i)) xs.length
theorem firstL_none {α β : Type} {f : Nat → α → Option β} {xs : List α} (h : firstN (fun i => xs[i]?.bind (f i)) xs.length = none) : ∀ (i : Nat) (x : α), xs[i]? = some x → f i x = none := by
  have key : ∀ n, n ≤ xs.length → firstN (fun i => xs[i]?.bind (f i)) n = none → ∀ (i : Nat) (x : α), i < n → xs[i]? = some x → f i x = none := by
    intro n
    induction n with
    | zero => intro _ _ i x hi; exact absurd hi (Nat.not_lt_zero i)
    | succ n ih =>
      intro hn h i x hi hx
      unfold firstN at h
      cases e : firstN (fun i => xs[i]?.bind (f i)) n with
      | some a => rw [e] at h; cases h
      | none =>
        rw [e] at h
        by_cases z : i = n
        · subst z
          rw [hx] at h
          exact h
        · exact ih (by omega) e i x (by omega) hx
  intro i x hx
  exact key xs.length (Nat.le_refl _) h i x (List.getElem?_eq_some_iff.mp hx).1 hx
abbrev Tt : Type := Str × Str
def ttV (q : Tt) : List V := [.str q.1, .str q.2]
def badN (xs : List Str) : Option Str := firstL (fun _ x => if isW x = true then none else some x) xs
def again (xs : List Str) : Option Str := firstL (fun i x => if x ∈ xs.take i then some x else none) xs
def badE (xs : List Str) (ls : List Lt) : Option Str := firstL (fun _ q => if q.2.1 ∉ xs then some q.2.1 else if q.2.2 ∉ xs then some q.2.2 else none) ls
def badT (ns : List Str) (ts : List Tt) : Option Str := firstL (fun _ q => if q.1 ∉ ns then some q.1 else none) ts
def badF (ts : List Tt) : Option Str := firstL (fun i q => if (q.2 ≠ ("on" : Str) ∧ q.2 ≠ ("back" : Str)) ∨ q ∈ ts.take i then some q.1 else none) ts
theorem again_nodup {xs : List Str} : again xs = none ↔ xs.Nodup := by
  constructor
  · intro h
    unfold List.Nodup
    rw [List.pairwise_iff_getElem]
    intro i j hi hj hij e
    have hx : xs[j]? = some xs[j] := List.getElem?_eq_getElem hj
    have z := firstL_none h j _ hx
    have m : xs[j] ∈ xs.take j := List.mem_of_getElem? (i := i) (by rw [List.getElem?_take_of_lt hij, List.getElem?_eq_getElem hi, e])
    rw [if_pos m] at z
    cases z
  · intro h
    cases e : again xs with
    | none => rfl
    | some a =>
      exfalso
      have key : ∀ n, firstN (fun i => xs[i]?.bind fun x => if x ∈ xs.take i then some x else none) n = none := by
        intro n
        induction n with
        | zero => rfl
        | succ n ih =>
          refine firstN_step ih ?_
          cases z : xs[n]? with
          | none => rfl
          | some x =>
            show (if x ∈ xs.take n then some x else none) = none
            refine if_neg fun m => ?_
            obtain ⟨i, hi, ei⟩ := List.getElem_of_mem m
            rw [List.length_take] at hi
            rw [List.getElem_take] at ei
            have ln := (List.getElem?_eq_some_iff.mp z)
            obtain ⟨l1, l2⟩ := ln
            have q := (List.pairwise_iff_getElem.mp h) i n (by omega) l1 (by omega)
            exact q (ei.trans l2.symm)
      have z := key xs.length
      unfold again firstL at e
      rw [z] at e
      cases e
/-- cn counts the unlike ones -/
theorem cn_nodup {xs : List Str} : cn xs xs.length < xs.length ↔ again xs ≠ none := by
  have key : ∀ n, n ≤ xs.length → (cn xs n < n ↔ firstN (fun i => xs[i]?.bind fun x => if x ∈ xs.take i then some x else none) n ≠ none) := by
    intro n
    induction n with
    | zero => intro _; exact ⟨fun h => absurd h (Nat.not_lt_zero _), fun h => absurd rfl h⟩
    | succ n ih =>
      intro hn
      have ih2 := ih (by omega)
      have le := cn_le xs n
      have hx : xs[n]? = some (xs[n]'(by omega)) := List.getElem?_eq_getElem _
      have eg : xs.getD n Str.empty = xs[n]'(by omega) := by rw [List.getD_eq_getElem?_getD, hx]; rfl
      unfold cn firstN
      rw [eg]
      cases e : firstN (fun i => xs[i]?.bind fun x => if x ∈ xs.take i then some x else none) n with
      | some a =>
        rw [e] at ih2
        have z := ih2.mpr (by simp)
        refine ⟨fun _ => by simp, fun _ => ?_⟩
        split <;> omega
      | none =>
        rw [e] at ih2
        have z : ¬ cn xs n < n := fun q => (ih2.mp q) rfl
        dsimp only
        rw [hx]
        show _ ↔ (if xs[n]'(by omega) ∈ xs.take n then some (xs[n]'(by omega)) else none) ≠ none
        by_cases m : xs[n]'(by omega) ∈ xs.take n
        · rw [if_pos m, if_pos (by rw [List.any_eq_true]; exact ⟨_, m, beq_self_eq_true _⟩)]
          exact ⟨fun _ => by simp, fun _ => by omega⟩
        · rw [if_neg m, if_neg (by
            intro q
            obtain ⟨y, hy, e2⟩ := List.any_eq_true.mp q
            rw [beq_iff_eq] at e2
            rw [e2] at hy
            exact m hy)]
          exact ⟨fun q => by omega, fun q => absurd rfl q⟩
  exact key xs.length (Nat.le_refl _)
end K37

namespace K37
open PySem PySem.Spec PyProof.Rows L2 Ow Xv
/-! ### the errors raised -/
structure XC (K : PySem.W.Frag) (C : Addr) (f : Str) (bm : List Value) (new : String) : Prop where
  ec : EC K C
  q : PySem.W.excInitIn K C bm new = true
  ov : PySem.W.excOver K C bm = true
  iC : PySem.W.findIn K (.ref C) "__init__" = some (some (.ref (He.ma K C "__init__")))
  tI : PySem.W.typeIn K (.ref (He.ma K C "__init__")) = some (.type "function")
  tk : PySem.W.takerIn K C f = some none
  no : PySem.W.findIn K (.ref C) f = some none
  ty : PySem.W.typeIn K (.ref C) = some (.type "type")
theorem xc_of {K : PySem.W.Frag} {C : Addr} {f : Str} {bm : List Value} {new : String} (h : xcB K C f bm new = true) : XC K C f bm new := by
  unfold xcB ecB at h
  obtain ⟨e, h⟩ := an h
  obtain ⟨e1, e⟩ := an e
  obtain ⟨e2, e⟩ := an e
  obtain ⟨e3, e⟩ := an e
  obtain ⟨e4, e⟩ := an e
  obtain ⟨e5, e⟩ := an e
  obtain ⟨e6, e⟩ := an e
  obtain ⟨e7, e⟩ := an e
  obtain ⟨e8, e9⟩ := an e
  obtain ⟨h1, h⟩ := an h
  obtain ⟨h2, h⟩ := an h
  obtain ⟨h3, h⟩ := an h
  obtain ⟨h4, h⟩ := an h
  obtain ⟨h5, h⟩ := an h
  obtain ⟨h6, h7⟩ := an h
  exact ⟨⟨e1, e2, He.eqO_ok e3, He.eqO_ok e4, He.eqO_ok e5, He.eqO_ok e6, of_decide_eq_true e7, of_decide_eq_true e8, e9⟩, h1, h2, He.eqO_ok h3, of_decide_eq_true h4, He.eqO_ok h5, He.eqO_ok h6, of_decide_eq_true h7⟩
theorem XC.xf {K : PySem.W.Frag} {C : Addr} {f : Str} {bm : List Value} {new : String} (h : XC K C f bm new) : XfC K C := ⟨h.ec.ga, h.ec.gg, h.ec.be, h.ec.hd⟩
def spXI (C : Addr) (n : Str) : Sp := fun vs H Q _ => ∃ (a : Addr) (x : V), vs = [.ref a, x] ∧ H a = some (exo a C none) ∧ ∀ dx, H dx = none → dx ≠ a → Q .non (upd (upd H dx (exd dx [(n, x)])) a (exo a C (some dx)))
/-- what a raise of such an error needs -/
structure RaC (P : Program) (w : World) (K : PySem.W.Frag) (mg : Str → Option Value) (base : Heap) (C : Addr) (ps : List Str) (sp : Sp) : Prop where
  ex : ∃ (B n1 n2 : String) (bmB : List Value) (fI : Addr) (fd : FuncData), ExcBaseFacts B n1 n2 bmB ∧ PySem.W.excInitIn K C bmB n1 = true ∧ PySem.W.findIn K (.ref C) "__init__" = some (some (.ref fI)) ∧ PySem.W.typeIn K (.ref fI) = some (.type "function") ∧
    FnOk P w K mg base CX0 1 fI fd ps sp ∧ Binds K fd ps []
  kp : PySem.W.keepIn K (.ref C) = true
  be : PySem.W.subIn K (.ref C) (.type "BaseException") = some true
  ty : PySem.W.typeIn K (.ref C) = some (.type "type")
theorem pmk_ra {X : Cx} {C : Addr} {ps : List Str} {sp : Sp} {x : Str} {p pos : Pos} {e : Expr} {es : List Expr} {ta : TA} (M : RaC X.prog X.w X.K X.mg X.base C ps sp) (hr : Room 2 X.A) (hg : Gl X x) (hm : X.mg x = some (.ref C)) (ha : PA X (e :: es) ta)
    (hdb : (x == ("__debug__" : Str)) = false := by decide) (he : starEach (e :: es) X.env = (false, eval e X.env) :: starEach es X.env := by rfl) (hpl : (backTo pos (starEach es X.env)).any (·.1) = false := by rfl) :
    PMk X (.Call (.Name x p) (e :: es) [] pos) (tMkO C sp [] ta) := by
  obtain ⟨B, n1, n2, bmB, fI, fd, F, q, iC, tI, F1, b⟩ := M.ex
  exact pmk_excI F q iC tI M.kp (raises_own M.be M.ty) F1 hr b pass0 hg hm ha hdb he hpl
theorem mkO_at {C : Addr} {n : Str} {x : V} {H : Hp} {Q : XK} (k : ∀ (d : Addr) (H' : Hp), Same H H' → H d = none → H' d = some (.xd [(n, x)]) → Q (.ref C) (some d) H') (a : Addr) (ha : H a = none) :
    spXI C n (.ref a :: ([x] ++ [])) (upd H a (exo a C none)) (fun v H2 => v = .non ∧ ∃ (d : Addr) (fs : List (Str × V)), H2 a = some (exo a C (some d)) ∧ H2 d = some (exd d fs) ∧ H d = none ∧ Q (.ref C) (some d) (upd (del H2 a) d (.xd fs))) (fun _ _ _ => False) := by
  refine ⟨a, x, rfl, upd_same, fun dx h1 h2 => ?_⟩
  have hd1 : H dx = none := (upd_ne h2).symm.trans h1
  refine ⟨rfl, dx, _, upd_same, (upd_ne h2).trans upd_same, hd1, k dx _ (fun b o eb => ?_) hd1 upd_same⟩
  have n1 := ne_of_none eb ha
  have n2 := ne_of_none eb hd1
  rw [upd_ne n2, del_ne n1, upd_ne n1, upd_ne n2, upd_ne n1]
  exact eb
section
variable {P : Program} {w : World} {K : PySem.W.Frag} {mg : Str → Option Value} {base : Heap}
theorem Fx.xBN (Y : Fx w K mg) : XC K (CBadName K) "name" veB "ValueError.__new__" := xc_of Y.x1
theorem Fx.xTT (Y : Fx w K mg) : XC K (CTwiceTold K) "name" veB "ValueError.__new__" := xc_of Y.x2
theorem Fx.xUN (Y : Fx w K mg) : XC K (CUnknownName K) "name" leB "LookupError.__new__" := xc_of Y.x3
theorem Fx.xBF (Y : Fx w K mg) : XC K (CBadFrame K) "name" veB "ValueError.__new__" := xc_of Y.x4
theorem Fx.xCR (Y : Fx w K mg) : XC K (CComesRound K) "members" veB "ValueError.__new__" := xc_of Y.x5
theorem scXN1 : FnScope ["self", "name"] ["self", "name"] (defScope sBadName_Init) := ⟨rfl, rfl, rfl, by decide +kernel, rfl, by decide +kernel, by decide +kernel⟩
theorem scXN2 : FnScope ["self", "name"] ["self", "name"] (defScope sTwiceTold_Init) := ⟨rfl, rfl, rfl, by decide +kernel, rfl, by decide +kernel, by decide +kernel⟩
theorem scXN3 : FnScope ["self", "name"] ["self", "name"] (defScope sUnknownName_Init) := ⟨rfl, rfl, rfl, by decide +kernel, rfl, by decide +kernel, by decide +kernel⟩
theorem scXN4 : FnScope ["self", "name"] ["self", "name"] (defScope sBadFrame_Init) := ⟨rfl, rfl, rfl, by decide +kernel, rfl, by decide +kernel, by decide +kernel⟩
theorem scXN5 : FnScope ["self", "members"] ["self", "members"] (defScope sComesRound_Init) := ⟨rfl, rfl, rfl, by decide +kernel, rfl, by decide +kernel, by decide +kernel⟩
theorem raBN (Y : Fx w K mg) : RaC P w K mg base (CBadName K) ["self", "name"] (spXI (CBadName K) "name") := by
  obtain ⟨fd, F⟩ := Y.dBadName_Init
  have b := FunD.bindsN (ps := ["self", "name"]) F fun _ _ _ _ _ _ us hl => match us, hl with | [_, _], _ => rfl
  refine ⟨⟨_, _, _, _, _, fd, PySem.F.excBase_ValueError, Y.xBN.q, Y.xBN.iC, Y.xBN.tI, ?_, b⟩, Y.xBN.ec.kp, Y.xBN.ec.be, Y.xBN.ty⟩
  refine okD F scXN1 (fun vs H Q E h => ?_) (fun cdv A outer s H vs Q E hr h => ?_)
  · obtain ⟨a, x, rfl, _⟩ := h
    rfl
  · refine ⟨_, pss_one (ps_st (C := CBadName K) PySem.F.store_ValueError Y.xBN.ec Y.xBN.ov Y.xBN.tk (pv 0) (pv 1)), ?_⟩
    obtain ⟨a, x, rfl, ha, k⟩ := h
    exact ⟨_, rfl, _, rfl, a, rfl, .inl ⟨ha, fun dx h1 h2 => k dx h1 h2⟩⟩
theorem raTT (Y : Fx w K mg) : RaC P w K mg base (CTwiceTold K) ["self", "name"] (spXI (CTwiceTold K) "name") := by
  obtain ⟨fd, F⟩ := Y.dTwiceTold_Init
  have b := FunD.bindsN (ps := ["self", "name"]) F fun _ _ _ _ _ _ us hl => match us, hl with | [_, _], _ => rfl
  refine ⟨⟨_, _, _, _, _, fd, PySem.F.excBase_ValueError, Y.xTT.q, Y.xTT.iC, Y.xTT.tI, ?_, b⟩, Y.xTT.ec.kp, Y.xTT.ec.be, Y.xTT.ty⟩
  refine okD F scXN2 (fun vs H Q E h => ?_) (fun cdv A outer s H vs Q E hr h => ?_)
  · obtain ⟨a, x, rfl, _⟩ := h
    rfl
  · refine ⟨_, pss_one (ps_st (C := CTwiceTold K) PySem.F.store_ValueError Y.xTT.ec Y.xTT.ov Y.xTT.tk (pv 0) (pv 1)), ?_⟩
    obtain ⟨a, x, rfl, ha, k⟩ := h
    exact ⟨_, rfl, _, rfl, a, rfl, .inl ⟨ha, fun dx h1 h2 => k dx h1 h2⟩⟩
theorem raUN (Y : Fx w K mg) : RaC P w K mg base (CUnknownName K) ["self", "name"] (spXI (CUnknownName K) "name") := by
  obtain ⟨fd, F⟩ := Y.dUnknownName_Init
  have b := FunD.bindsN (ps := ["self", "name"]) F fun _ _ _ _ _ _ us hl => match us, hl with | [_, _], _ => rfl
  refine ⟨⟨_, _, _, _, _, fd, PySem.F.excBase_LookupError, Y.xUN.q, Y.xUN.iC, Y.xUN.tI, ?_, b⟩, Y.xUN.ec.kp, Y.xUN.ec.be, Y.xUN.ty⟩
  refine okD F scXN3 (fun vs H Q E h => ?_) (fun cdv A outer s H vs Q E hr h => ?_)
  · obtain ⟨a, x, rfl, _⟩ := h
    rfl
  · refine ⟨_, pss_one (ps_st (C := CUnknownName K) PySem.F.store_LookupError Y.xUN.ec Y.xUN.ov Y.xUN.tk (pv 0) (pv 1)), ?_⟩
    obtain ⟨a, x, rfl, ha, k⟩ := h
    exact ⟨_, rfl, _, rfl, a, rfl, .inl ⟨ha, fun dx h1 h2 => k dx h1 h2⟩⟩
theorem raBF (Y : Fx w K mg) : RaC P w K mg base (CBadFrame K) ["self", "name"] (spXI (CBadFrame K) "name") := by
  obtain ⟨fd, F⟩ := Y.dBadFrame_Init
  have b := FunD.bindsN (ps := ["self", "name"]) F fun _ _ _ _ _ _ us hl => match us, hl with | [_, _], _ => rfl
  refine ⟨⟨_, _, _, _, _, fd, PySem.F.excBase_ValueError, Y.xBF.q, Y.xBF.iC, Y.xBF.tI, ?_, b⟩, Y.xBF.ec.kp, Y.xBF.ec.be, Y.xBF.ty⟩
  refine okD F scXN4 (fun vs H Q E h => ?_) (fun cdv A outer s H vs Q E hr h => ?_)
  · obtain ⟨a, x, rfl, _⟩ := h
    rfl
  · refine ⟨_, pss_one (ps_st (C := CBadFrame K) PySem.F.store_ValueError Y.xBF.ec Y.xBF.ov Y.xBF.tk (pv 0) (pv 1)), ?_⟩
    obtain ⟨a, x, rfl, ha, k⟩ := h
    exact ⟨_, rfl, _, rfl, a, rfl, .inl ⟨ha, fun dx h1 h2 => k dx h1 h2⟩⟩
end
end K37

namespace K37
open PySem PySem.Spec PyProof.Rows L2 Ow Xv
/-! ### names checked -/
theorem fl_strs (ws : List Str) : (ws.map V.str).all flatV = true := by
  rw [List.all_map]
  exact List.all_eq_true.mpr fun _ _ => rfl
section
variable {K : PySem.W.Frag} {H : Hp} {a : Addr} {xs : List V} {Q : VK} {lo hi : Option Int}
theorem slice_any (h : SqT K H a xs) (k : ∀ (T : Addr) (H' : Hp), Same H H' → SqT K H' T (cutV xs lo hi) → Q (.ref T) H') : rSlA K (.ref a) lo hi H Q :=
  ⟨a, xs, rfl, h, fun e => k a H (Same.refl _) (by rw [show cutV xs lo hi = xs by unfold cutV; rw [e.1, e.2]; simp]; exact h), fun _ p hp => k p _ (same_upd hp) (SqT.of upd_same)⟩
/-- a list or a tuple cut -/
theorem slice_q (h : SqA K H a xs) (k : ∀ (T : Addr) (H' : Hp), Same H H' → SqA K H' T (cutV xs lo hi) → Q (.ref T) H') : rSlL K (.ref a) lo hi H Q ∨ rSlA K (.ref a) lo hi H Q := by
  rcases h with h | h
  · exact .inl ⟨a, xs, rfl, h, fun p hp => k p _ (same_upd hp) (.inl (SqL.of upd_same))⟩
  · exact .inr (slice_any h fun T H' s g => k T H' s (.inr g))
end
def optV : Option Str → V
  | some x => .str x
  | none => .non
abbrev NFA : List Str := ["names", "at", "name"]
theorem scFA : FnScope NFA ["names"] (defScope sFirstAgain) := ⟨rfl, rfl, rfl, by decide +kernel, rfl, by decide +kernel, by decide +kernel⟩
def spFA (K : PySem.W.Frag) : Sp := fun vs H Q _ => ∃ (a : Addr) (xs : List Str), vs = [.ref a] ∧ SqA K H a (xs.map V.str) ∧ ∀ H', Same H H' → Q (optV (again xs)) H'
def spCk (K : PySem.W.Frag) : Sp := fun vs H Q E => ∃ (l a b : Addr) (xs ns : List Str), vs = [.ref l] ∧ SqL K H l [.ref a, .ref b] ∧ SqA K H a (xs.map V.str) ∧ SqA K H b (ns.map V.str) ∧ (∀ x ∈ xs ++ ns, x.length ≤ 900) ∧ xs.length < 64 ∧ ns.length < 64 ∧
  match badN (xs ++ ns) with
  | some x => ∀ (d : Addr) (H' : Hp), Same H H' → H d = none → H' d = some (.xd [("name", .str x)]) → E (.ref (CBadName K)) (some d) H'
  | none => (match again xs, again ns with
    | some x, _ => ∀ (d : Addr) (H' : Hp), Same H H' → H d = none → H' d = some (.xd [("name", .str x)]) → E (.ref (CTwiceTold K)) (some d) H'
    | none, some x => ∀ (d : Addr) (H' : Hp), Same H H' → H d = none → H' d = some (.xd [("name", .str x)]) → E (.ref (CTwiceTold K)) (some d) H'
    | none, none => ∀ H', Same H H' → Q .non H')
section
variable {P : Program} {w : World} {K : PySem.W.Frag} {mg : Str → Option Value} {base : Heap} {f : Addr} {fd : FuncData}
theorem ok_fa (F : FnP K "first_again" sFirstAgain f fd) (Y : Fx w K mg) : FnOk P w K mg base CX0 1 f fd ["names"] (spFA K) := by
  refine okD F scFA (fun vs H Q E h => ?_) (fun cdv A outer s H vs Q E hr h => ?_)
  · obtain ⟨a, xs, rfl, _⟩ := h
    rfl
  · have nd := scFA.nd
    refine ⟨_, pss_cons (ps_for PassesOwn.never rfl (pi_enumA (by rfl) Y.bEnumerate (pa_cons (pv 0) pa_nil)) (pg_tup rfl (pgs_cons (pg_name (i := 1) nd rfl (Or.inl rfl)) (pgs_cons (pg_name (i := 2) nd rfl (Or.inl rfl)) pgs_nil)))
        (pss_one (ps_if (pt_cmpR op_in_seq (pv 2) (pe_slice (sl_list.or sl_tupA) (pv 0) po_none (po_some (pv 1))) (by rfl)) (pss_one (ps_ret (pv 2))) pss_nil)))
      (pss_one (ps_ret pe_non)), ?_⟩
    obtain ⟨a, xs, rfl, ha, k⟩ := h
    refine ⟨_, rfl, a, xs.map V.str, rfl, ha, fun J GG wk gk => ?_⟩
    refine for_it wk (fun i σ G => ∃ v1 v2, σ = [some (.ref a), v1, v2] ∧ firstN (fun i => xs[i]?.bind fun x => if x ∈ xs.take i then some x else none) i = none ∧ Same H G) ⟨none, none, rfl, rfl, Same.refl _⟩ (fun i σ G _ ⟨_, _, _, _, q⟩ => gk G q) ?_ ?_
    · rintro i v σ G G' hi ⟨v1, v2, rfl, hn, sm⟩ ⟨T, x, y, rfl, hT, rfl, ex, ey⟩
      cases ex
      obtain ⟨z, ez, rfl⟩ := str_at (show (xs.map V.str)[i]? = some y from ey)
      have sT := same_upd (o := .tup [V.int (i : Int), V.str z]) hT
      refine ⟨T, _, rfl, SqT.of upd_same, rfl, _, _, rfl, _, _, rfl, rfl, ?_⟩
      dsimp only
      change tIfS _ _ _ _ [some (.ref a), some (.int (i : Int)), some (.str z)] (upd G T (.tup [V.int (i : Int), V.str z]))
      refine ⟨_, rfl, _, rfl, _, rfl, _, rfl, ?_⟩
      refine slice_q ((ha.same sm).same sT) fun T2 H2 s2 h2 => ?_
      rw [cutV_take, ← List.map_take] at h2
      refine ⟨T2, _, rfl, h2, rfl, fl_strs _, _, rfl, ?_⟩
      rw [if_neg Bool.false_ne_true, inV_strs]
      have li : i < xs.length := (List.getElem?_eq_some_iff.mp ez).1
      refine ite2 (fun hc => ?_) (fun hc => ?_)
      · have hm : z ∈ xs.take i := of_decide_eq_true hc
        have e : again xs = some z := firstN_at hn (by show (xs[i]?.bind _) = _; rw [ez]; exact if_pos hm) li
        rw [e] at k
        exact ⟨_, rfl, k _ (sm.trans (sT.trans s2))⟩
      · have hm : z ∉ xs.take i := fun q => hc (decide_eq_true q)
        exact ⟨_, _, rfl, firstN_step hn (by show (xs[i]?.bind _) = _; rw [ez]; exact if_neg hm), sm.trans (sT.trans s2)⟩
    · rintro σ G ⟨v1, v2, rfl, hn, sm⟩
      rw [List.length_map] at hn
      have e : again xs = none := hn
      rw [e] at k
      exact k G sm
end
end K37

namespace K37
open PySem PySem.Spec PyProof.Rows L2 Ow Xv
section
variable {P : Program} {w : World} {K : PySem.W.Frag} {mg : Str → Option Value} {base : Heap} {f : Addr} {fd : FuncData}
theorem ok_ck (F : FnP K "check_names" sCheckNames f fd) (Y : Fx w K mg) : FnOk P w K mg base (L2.CX P w) 3 f fd ["lists"] (spCk K) := by
  obtain ⟨dW, FW⟩ := Y.dIsWord
  obtain ⟨dA, FA⟩ := Y.dFirstAgain
  have bW := FunD.bindsN (ps := ["value"]) FW fun _ _ _ _ _ _ us hl => match us, hl with | [_], _ => rfl
  have bA := FunD.bindsN (ps := ["names"]) FA fun _ _ _ _ _ _ us hl => match us, hl with | [_], _ => rfl
  have GW : FnOk P w K mg base CX0 1 _ dW ["value"] spIW := ok_iw FW Y
  have GA : FnOk P w K mg base CX0 1 _ dA ["names"] (spFA K) := ok_fa FA Y
  refine F.ok scCN (fun vs H Q E h => ?_) (fun cdv A outer s H vs Q E hr h => ?_)
  · obtain ⟨l, a, b, xs, ns, rfl, _⟩ := h
    rfl
  · have nd := scCN.nd
    have B := Y.bl
    have hr1 : Room 1 _ := hr.mono (by decide)
    refine ⟨_, pss_cons (ps_for (passes_of rfl) rfl (pi_list (pv 0)) (pg_name (i := 1) nd rfl (Or.inl rfl)) (pss_one (ps_for (passes_of rfl) rfl (pi_seqA (pv 1)) (pg_name (i := 2) nd rfl (Or.inl rfl))
        (pss_one (ps_if (pt_not (pt_val (pe_call GW hr1 rfl Y.gIsWord FW.kp bW .nil pass0 (pa_cons (pv 2) pa_nil)))) (pss_one (ps_raise rfl (takes_of rfl rfl rfl rfl) (pmk_ra (raBN Y) hr (by rfl) Y.gBadName (pa_cons (pv 2) pa_nil)))) pss_nil)))))
      (pss_one (ps_for (passes_of rfl) rfl (pi_list (pv 0)) (pg_name (i := 1) nd rfl (Or.inl rfl))
        (pss_one (ps_if (pt_cmpR op_lt (pe_lenSetD rfl (by rfl) B.len (by rfl) Y.bSet (pv 1)) (pe_callB call_len_seq (by rfl) B.len PySem.boot_len (pa_cons (pv 1) pa_nil)) (nomark _))
          (pss_one (ps_raise rfl (takes_of rfl rfl rfl rfl) (pmk_ra (raTT Y) hr (by rfl) Y.gTwiceTold (pa_cons (pe_call GA hr1 rfl Y.gFirstAgain FA.kp bA .nil pass0 (pa_cons (pv 1) pa_nil)) pa_nil)))) pss_nil)))), ?_⟩
    obtain ⟨l, a, b, xs, ns, rfl, hl, hx, hn, lw, lx, ln, k⟩ := h
    obtain ⟨st, hst⟩ : ∃ st : Nat → Nat, st = fun i => if i = 0 then 0 else if i = 1 then xs.length else xs.length + ns.length := ⟨_, rfl⟩
    have st0 : st 0 = 0 := by rw [hst]; rfl
    have st1 : st 1 = xs.length := by rw [hst]; rfl
    have st2 : st 2 = xs.length + ns.length := by rw [hst]; rfl
    clear hst
    have it : ∀ (i : Nat) (v : V), ([.ref a, .ref b] : List V)[i]? = some v → ∃ (c : Addr) (zs : List Str), v = .ref c ∧ SqA K H c (zs.map V.str) ∧ zs.length < 64 ∧ (∀ x ∈ zs, x.length ≤ 900) ∧ st (i + 1) = st i + zs.length ∧ (∀ (j : Nat) (x : Str), zs[j]? = some x → (xs ++ ns)[st i + j]? = some x) ∧ ((i = 0 ∧ zs = xs) ∨ (i = 1 ∧ zs = ns)) := fun i v hi => by
      match i, hi with
      | 0, hi =>
        cases hi
        refine ⟨a, xs, rfl, hx, lx, fun x h => lw x (List.mem_append_left _ h), by rw [st0, st1, Nat.zero_add], fun j x h => ?_, .inl ⟨rfl, rfl⟩⟩
        rw [st0, Nat.zero_add, List.getElem?_append_left (List.getElem?_eq_some_iff.mp h).1]
        exact h
      | 1, hi =>
        cases hi
        refine ⟨b, ns, rfl, hn, ln, fun x h => lw x (List.mem_append_right _ h), by rw [st1, st2], fun j x h => ?_, .inr ⟨rfl, rfl⟩⟩
        rw [st1, List.getElem?_append_right (Nat.le_add_right _ _), Nat.add_sub_cancel_left]
        exact h
      | (i + 2), hi => cases hi
    refine ⟨_, rfl, l, rfl, ⟨_, hl⟩, for_list (K := K) (a := l) (xs := [.ref a, .ref b]) (fun i σ G => (∃ v1 v2, σ = [some (.ref l), v1, v2]) ∧ firstN (fun i => (xs ++ ns)[i]?.bind fun x => if isW x = true then none else some x) (st i) = none ∧ Same H G) ⟨⟨_, _, rfl⟩, by rw [st0]; rfl, Same.refl _⟩ (fun i σ G _ q => q.2.2.seq hl) ?_ ?_⟩
    · rintro i v σ G hi ⟨⟨v1, v2, rfl⟩, hF, sm⟩
      obtain ⟨c, zs, rfl, hA, lz, lzw, sti, at_, _⟩ := it i v hi
      refine ⟨_, rfl, c, zs.map V.str, rfl, hA.same sm, fun J GG wk gk => for_it wk (fun j σ G' => (∃ v2, σ = [some (.ref l), some (.ref c), v2]) ∧ firstN (fun i => (xs ++ ns)[i]?.bind fun x => if isW x = true then none else some x) (st i + j) = none ∧ Same G G') ⟨⟨_, rfl⟩, hF, Same.refl _⟩ (fun j σ G' _ q => gk _ q.2.2) ?_ ?_⟩
      · rintro j v σ G' G'' hj ⟨⟨v2, rfl⟩, hF2, s2⟩ ⟨rfl, ev⟩
        obtain ⟨x, ex, rfl⟩ := str_at ev
        have ea := at_ j x ex
        have lj := (List.getElem?_eq_some_iff.mp ea).1
        refine ⟨_, rfl, x, rfl, lzw x (List.mem_of_getElem? ex), fun G3 s3 => ⟨_, rfl, ite2 (fun hc => ?_) (fun hc => ?_)⟩⟩
        · have ew : isW x = false := by simpa using hc
          have e : badN (xs ++ ns) = some x := firstN_at hF2 (by show ((xs ++ ns)[st i + j]?.bind _) = _; rw [ea]; exact if_neg (by rw [ew]; exact Bool.false_ne_true)) lj
          rw [e] at k
          have smA := sm.trans (s2.trans s3)
          refine ⟨_, rfl, (by show 1 ≤ 1000; decide), fun q hq => mkO_at (fun d H' s hd e2 => k d H' (smA.trans s) (none_of smA hd) e2) q hq⟩
        · have ew : isW x = true := by simpa using hc
          exact ⟨⟨_, rfl⟩, firstN_step hF2 (by show ((xs ++ ns)[st i + j]?.bind _) = _; rw [ea]; exact if_pos ew), s2.trans s3⟩
      · rintro σ G' ⟨⟨v2, rfl⟩, hF2, s2⟩
        rw [List.length_map, ← sti] at hF2
        exact ⟨⟨_, _, rfl⟩, hF2, sm.trans s2⟩
    · rintro σ G ⟨⟨v1, v2, rfl⟩, hF, sm⟩
      have eN : badN (xs ++ ns) = none := by
        have z : st ([.ref a, .ref b] : List V).length = (xs ++ ns).length := by rw [List.length_append]; exact st2
        rw [z] at hF
        exact hF
      rw [eN] at k
      dsimp only at k
      refine ⟨_, rfl, l, rfl, ⟨_, sm.seq hl⟩, for_list (K := K) (a := l) (xs := [.ref a, .ref b]) (fun i σ G => (∃ v1 v2, σ = [some (.ref l), v1, v2]) ∧ (1 ≤ i → again xs = none) ∧ (2 ≤ i → again ns = none) ∧ Same H G) ⟨⟨_, _, rfl⟩, fun h => absurd h (by decide), fun h => absurd h (by decide), sm⟩ (fun i σ G _ q => q.2.2.2.seq hl) ?_ ?_⟩
      · rintro i v σ G hi ⟨⟨v1, v2, rfl⟩, h1, h2, sm⟩
        obtain ⟨c, zs, rfl, hA, lz, lzw, sti, at_, wh⟩ := it i v hi
        have hA2 := hA.same sm
        refine ⟨_, rfl, c, zs, rfl, hA2, lz, _, rfl, c, zs.map V.str, rfl, hA2, _, _, rfl, rfl, _, rfl, ?_⟩
        rw [List.length_map]
        refine ite2 (fun hc => ?_) (fun hc => ?_)
        · have lt : cn zs zs.length < zs.length := by
            have := of_decide_eq_true hc
            omega
          obtain ⟨x, ex⟩ := Option.ne_none_iff_exists'.mp (cn_nodup.mp lt)
          refine ⟨_, rfl, c, zs, rfl, hA2, fun H3 s3 => ?_⟩
          rw [ex]
          refine ⟨(by show 1 ≤ 1000; decide), fun q hq => mkO_at (fun d H' s hd e2 => ?_) q hq⟩
          have smA := sm.trans s3
          rcases wh with ⟨rfl, rfl⟩ | ⟨rfl, rfl⟩
          · rw [ex] at k
            exact k d H' (smA.trans s) (none_of smA hd) e2
          · rw [h1 (Nat.le_refl _), ex] at k
            exact k d H' (smA.trans s) (none_of smA hd) e2
        · have no : again zs = none := by
            cases e : again zs with
            | none => rfl
            | some x =>
              have lt := cn_nodup.mpr (by rw [e]; simp)
              exact absurd (decide_eq_true (show ((cn zs zs.length : Nat) : Int) < (zs.length : Int) by omega)) hc
          refine ⟨⟨_, _, rfl⟩, fun hh => ?_, fun hh => ?_, sm⟩
          · rcases wh with ⟨rfl, rfl⟩ | ⟨rfl, rfl⟩
            · exact no
            · exact h1 (by omega)
          · rcases wh with ⟨rfl, rfl⟩ | ⟨rfl, rfl⟩
            · omega
            · exact no
      · rintro σ G ⟨⟨v1, v2, rfl⟩, h1, h2, sm⟩
        rw [h1 (show 1 ≤ 2 by decide), h2 (show 2 ≤ 2 by decide)] at k
        exact k G sm
end
end K37

namespace K37
open PySem PySem.Spec PyProof.Rows L2 Ow Xv
/-! ### ends checked -/
def TupsA (K : PySem.W.Frag) (H : Hp) (l : Addr) (vss : List (List V)) : Prop := ∃ as : List Addr, SqA K H l (as.map V.ref) ∧ as.length = vss.length ∧ ∀ (i : Nat) (t : Addr), as[i]? = some t → ∃ vs, vss[i]? = some vs ∧ SqT K H t vs
theorem TupsA.same {K : PySem.W.Frag} {H H' : Hp} {l : Addr} {vss : List (List V)} (s : Same H H') (h : TupsA K H l vss) : TupsA K H' l vss := by
  obtain ⟨as, a, b, c⟩ := h
  exact ⟨as, a.same s, b, fun i t e => let ⟨vs, e1, e2⟩ := c i t e; ⟨vs, e1, sqt_same s e2⟩⟩
theorem tt_at {ts : List Tt} {i : Nat} {vs : List V} (e1 : (ts.map ttV)[i]? = some vs) : ∃ q, ts[i]? = some q ∧ vs = ttV q := by
  rw [List.getElem?_map] at e1
  cases e : ts[i]? with
  | none => rw [e] at e1; cases e1
  | some z => rw [e] at e1; exact ⟨z, rfl, (Option.some.inj e1).symm⟩
def spCE2 (K : PySem.W.Frag) : Sp := fun vs H Q E => ∃ (s l t : Addr) (xs : List Str) (ls : List Lt) (ts : List Tt), vs = [.ref s, .ref l, .ref t] ∧ SqA K H s (xs.map V.str) ∧ TupsA K H l (ls.map ltV) ∧ TupsA K H t (ts.map ttV) ∧ ls.length ≤ 60 ∧
  match badE xs ls with
  | some x => ∀ (d : Addr) (H' : Hp), Same H H' → H d = none → H' d = some (.xd [("name", .str x)]) → E (.ref (CUnknownName K)) (some d) H'
  | none => (match badT (ls.map (·.1)) ts with
    | some x => ∀ (d : Addr) (H' : Hp), Same H H' → H d = none → H' d = some (.xd [("name", .str x)]) → E (.ref (CUnknownName K)) (some d) H'
    | none => ∀ H', Same H H' → Q .non H')
section
variable {P : Program} {w : World} {K : PySem.W.Frag} {mg : Str → Option Value} {base : Heap} {f : Addr} {fd : FuncData}
theorem ok_ce2 (F : FnP K "_check_ends" sCheckEnds f fd) (Y : Fx w K mg) : FnOk P w K mg base (L2.CX P w) 3 f fd ["sorts", "letters", "totals"] (spCE2 K) := by
  refine F.ok scCE (fun vs H Q E h => ?_) (fun cdv A outer s H vs Q E hr h => ?_)
  · obtain ⟨a, b, c, xs, ls, ts, rfl, _⟩ := h
    rfl
  · have nd := scCE.nd
    refine ⟨_, pss_cons (ps_for (passes_of rfl) rfl (pi_seqA (pv 1)) (pg_tup rfl (pgs_cons (pg_name (i := 3) nd rfl (Or.inl rfl)) (pgs_cons (pg_name (i := 4) nd rfl (Or.inl rfl)) (pgs_cons (pg_name (i := 5) nd rfl (Or.inl rfl)) pgs_nil))))
        (pss_one (ps_for (passes_of rfl) rfl (pi_tup (pe_tup (pa_cons (pv 4) (pa_cons (pv 5) pa_nil)))) (pg_name (i := 6) nd rfl (Or.inl rfl))
          (pss_one (ps_if (pt_cmpR op_notIn_seq (pv 6) (pv 0) (by rfl)) (pss_one (ps_raise rfl (takes_of rfl rfl rfl rfl) (pmk_ra (raUN Y) hr (by rfl) Y.gUnknownName (pa_cons (pv 6) pa_nil)))) pss_nil)))))
      (pss_cons (ps_setLc (i := 7) (own := [("letter", 8)]) (g := gName 8) (tt := tYes) (te := tOp (rIxT K) (tVar 8) (tC (.int 0))) rfl nd rfl rfl (by rfl) (pi_seqA (pv 1)) (blkOk_by (N := NCE) (sc := defScope sCheckEnds) (by decide +kernel)) (fun _ _ _ _ _ => pg_name (i := 8) nd rfl (Or.inl rfl)) (fun _ _ _ _ _ => pts_nil)
        (fun _ _ _ _ _ => pe_ix ix_tup (pv 8) pe_int (fun _ _ => rfl)))
      (pss_one (ps_for (passes_of rfl) rfl (pi_seqA (pv 2)) (pg_tup rfl (pgs_cons (pg_name (i := 9) nd rfl (Or.inl rfl)) (pgs_cons (pg_name (i := 3) nd rfl (Or.inl rfl)) pgs_nil)))
        (pss_one (ps_if (pt_cmpR op_notIn_seq (pv 9) (pv 7) (by rfl)) (pss_one (ps_raise rfl (takes_of rfl rfl rfl rfl) (pmk_ra (raUN Y) hr (by rfl) Y.gUnknownName (pa_cons (pv 9) pa_nil)))) pss_nil))))), ?_⟩
    obtain ⟨a, l, t, xs, ls, ts, rfl, hs, hl, ht, hn, k⟩ := h
    obtain ⟨as, q, la, g⟩ := id hl
    rw [List.length_map] at la
    refine ⟨_, rfl, l, _, rfl, q, fun J GG wk gk => ?_⟩
    refine for_it wk (fun i σ G => (∃ v3 v4 v5 v6, σ = [some (.ref a), some (.ref l), some (.ref t), v3, v4, v5, v6, none, none, none]) ∧ firstN (fun i => ls[i]?.bind fun q => if q.2.1 ∉ xs then some q.2.1 else if q.2.2 ∉ xs then some q.2.2 else none) i = none ∧ Same H G) ⟨⟨_, _, _, _, rfl⟩, rfl, Same.refl _⟩ (fun i σ G _ p => gk G p.2.2) ?_ ?_
    · rintro i v σ G G' hi ⟨⟨v3, v4, v5, v6, rfl⟩, hF, sm⟩ ⟨rfl, ev⟩
      obtain ⟨b, eb, rfl⟩ := ref_at ev
      obtain ⟨vs, e1, hT⟩ := g i b eb
      obtain ⟨lt, e2, rfl⟩ := lt_at e1
      have li := (List.getElem?_eq_some_iff.mp e2).1
      refine ⟨b, _, rfl, sqt_same sm hT, rfl, _, _, rfl, _, _, rfl, _, _, rfl, rfl, ?_⟩
      refine ⟨_, rfl, _, rfl, szl (by show 2 ≤ 1000; decide), fun p hp => ?_⟩
      have sp : Same G' (upd G' p (.tup [.str lt.2.1, .str lt.2.2])) := same_upd hp
      refine ⟨p, rfl, ⟨_, SqT.of upd_same⟩, for_tup (K := K) (a := p) (xs := [.str lt.2.1, .str lt.2.2]) (fun j σ G2 => (∃ v6, σ = [some (.ref a), some (.ref l), some (.ref t), some (.str lt.1), some (.str lt.2.1), some (.str lt.2.2), v6, none, none, none]) ∧ (1 ≤ j → lt.2.1 ∈ xs) ∧ (2 ≤ j → lt.2.2 ∈ xs) ∧ Same (upd G' p (.tup [.str lt.2.1, .str lt.2.2])) G2) ⟨⟨_, rfl⟩, fun h => absurd h (by decide), fun h => absurd h (by decide), Same.refl _⟩ (fun j σ G2 _ z => sqt_same z.2.2.2 (SqT.of upd_same)) ?_ ?_⟩
      · rintro j v σ G2 hj ⟨⟨v6, rfl⟩, m1, m2, s2⟩
        have smA := sm.trans (sp.trans s2)
        obtain ⟨x, rfl, hx1, hx2⟩ : ∃ x : Str, v = .str x ∧ (x ∉ xs → badE xs ls = some x) ∧ (x ∈ xs → (1 ≤ j + 1 → lt.2.1 ∈ xs) ∧ (2 ≤ j + 1 → lt.2.2 ∈ xs)) := by
          match j, hj with
          | 0, hj =>
            cases hj
            exact ⟨_, rfl, fun h => firstN_at hF (by show (ls[i]?.bind _) = _; rw [e2]; exact if_pos h) li, fun h => ⟨fun _ => h, fun q => absurd q (by decide)⟩⟩
          | 1, hj =>
            cases hj
            exact ⟨_, rfl, fun h => firstN_at hF (by show (ls[i]?.bind _) = _; rw [e2]; show (if lt.2.1 ∉ xs then _ else _) = _; rw [if_neg (fun z => z (m1 (Nat.le_refl _))), if_pos h]) li, fun h => ⟨fun _ => m1 (Nat.le_refl _), fun _ => h⟩⟩
          | (j + 2), hj => cases hj
        refine ⟨_, rfl, _, rfl, a, xs.map V.str, rfl, hs.same smA, rfl, flat_strs xs, _, rfl, ?_⟩
        rw [if_pos rfl, inV_strs]
        refine ite2 (fun hc => ?_) (fun hc => ?_)
        · have no : x ∉ xs := by simpa using hc
          rw [hx1 no] at k
          exact ⟨_, rfl, (by show 1 ≤ 1000; decide), fun q hq => mkO_at (fun d H' s hd e => k d H' (smA.trans s) (none_of smA hd) e) q hq⟩
        · have yes : x ∈ xs := by simpa using hc
          exact ⟨⟨_, rfl⟩, (hx2 yes).1, (hx2 yes).2, s2⟩
      · rintro σ G2 ⟨⟨v6, rfl⟩, m1, m2, s2⟩
        exact ⟨⟨_, _, _, _, rfl⟩, firstN_step hF (by show (ls[i]?.bind _) = _; rw [e2]; show (if lt.2.1 ∉ xs then _ else _) = _; rw [if_neg (fun z => z (m1 (show 1 ≤ 2 by decide))), if_neg (fun z => z (m2 (show 2 ≤ 2 by decide)))]), sm.trans (sp.trans s2)⟩
    · rintro σ G ⟨⟨v3, v4, v5, v6, rfl⟩, hF, sm⟩
      rw [List.length_map, la] at hF
      have eE : badE xs ls = none := hF
      rw [eE] at k
      dsimp only at k
      refine ⟨_, rfl, l, _, rfl, q.same sm, fun J GG wk gk D hD => ?_⟩
      refine lc_it wk (fun i G' => G' D = some (.lst (((ls.take i).map (·.1)).map V.str)) ∧ Same G G') ⟨upd_same, same_upd hD⟩ (fun i G' _ p => gk G' p.2) ?_ ?_
      · rintro i v G1 G' hi ⟨e, s2⟩ ⟨rfl, ev⟩
        obtain ⟨b, eb, rfl⟩ := ref_at ev
        obtain ⟨vs, e1, hT⟩ := g i b eb
        obtain ⟨lt, e2, rfl⟩ := lt_at e1
        have li := (List.getElem?_eq_some_iff.mp e2).1
        refine ⟨rfl, _, rfl, b, _, 0, _, rfl, rfl, sqt_same (sm.trans s2) hT, rfl, _, e, ?_, ?_, same_put hD s2⟩
        · rw [List.length_map, List.length_map, List.length_take]
          exact small1000 (by omega)
        · rw [upd_same, List.take_add_one, e2, List.map_append, List.map_append]
          rfl
      · rintro G1 ⟨e, s2⟩
        rw [List.length_map, la, List.take_length] at e
        obtain ⟨bs, q2, lb, g2⟩ := id ht
        rw [List.length_map] at lb
        have sm1 := sm.trans s2
        refine ⟨_, rfl, t, _, rfl, q2.same sm1, fun J GG wk gk => ?_⟩
        refine for_it wk (fun i σ G2 => (∃ v3 v9, σ = [some (.ref a), some (.ref l), some (.ref t), v3, v4, v5, v6, some (.ref D), none, v9]) ∧ firstN (fun i => ts[i]?.bind fun q => if q.1 ∉ ls.map (·.1) then some q.1 else none) i = none ∧ Same G1 G2) ⟨⟨_, _, rfl⟩, rfl, Same.refl _⟩ (fun i σ G2 _ p => gk G2 p.2.2) ?_ ?_
        · rintro i v σ G2 G' hi ⟨⟨v3, v9, rfl⟩, hF2, s3⟩ ⟨rfl, ev⟩
          obtain ⟨b, eb, rfl⟩ := ref_at ev
          obtain ⟨vs, e1, hT⟩ := g2 i b eb
          obtain ⟨tt, e2, rfl⟩ := tt_at e1
          have li := (List.getElem?_eq_some_iff.mp e2).1
          have smA := sm1.trans s3
          refine ⟨b, _, rfl, sqt_same smA hT, rfl, _, _, rfl, _, _, rfl, rfl, ?_⟩
          refine ⟨_, rfl, _, rfl, D, _, rfl, .inl (SqL.of (s3 _ _ e)), rfl, flat_strs _, _, rfl, ?_⟩
          rw [if_pos rfl, inV_strs]
          refine ite2 (fun hc => ?_) (fun hc => ?_)
          · have no : tt.1 ∉ ls.map (·.1) := by simpa using hc
            have eb2 : badT (ls.map (·.1)) ts = some tt.1 := firstN_at hF2 (by show (ts[i]?.bind _) = _; rw [e2]; exact if_pos no) li
            rw [eb2] at k
            exact ⟨_, rfl, (by show 1 ≤ 1000; decide), fun q hq => mkO_at (fun d H' s hd e => k d H' (smA.trans s) (none_of smA hd) e) q hq⟩
          · have yes : ¬ (tt.1 ∉ ls.map (·.1)) := by
              intro z
              exact hc (by simpa using z)
            exact ⟨⟨_, _, rfl⟩, firstN_step hF2 (by show (ts[i]?.bind _) = _; rw [e2]; exact if_neg yes), s3⟩
        · rintro σ G2 ⟨⟨v3, v9, rfl⟩, hF2, s3⟩
          rw [List.length_map, lb] at hF2
          have eb2 : badT (ls.map (·.1)) ts = none := hF2
          rw [eb2] at k
          exact k G2 (sm1.trans s3)
end
end K37

namespace K37
open PySem PySem.Spec PyProof.Rows L2 Ow Xv
/-! ### totals checked -/
/-- a text that may be compared -/
structure Okx (x : Str) : Prop where
  l : x.length ≤ 900
  o : PyData.strOk x = true
def prD (q : Tt) : PyData := .tuple [.str q.1, .str q.2]
theorem prD_strs (q : Tt) : prD q = .tuple ([q.1, q.2].map PyData.str) := rfl
theorem eqv_strs : ∀ xs ys : List Str, PyData.eqv (.tuple (xs.map PyData.str)) (.tuple (ys.map PyData.str)) = decide (xs = ys)
  | [], [] => by simp [PyData.eqv, PyData.eqvAll]
  | [], y :: ys => by simp [PyData.eqv, PyData.eqvAll]
  | x :: xs, [] => by simp [PyData.eqv, PyData.eqvAll]
  | x :: xs, y :: ys => by
    have e := eqv_strs xs ys
    simp only [PyData.eqv] at e
    simp only [List.map_cons, PyData.eqv, PyData.eqvAll, e]
    by_cases h : x = y <;> by_cases g : xs = ys <;> simp [h, g]
theorem eqv_pr (p q : Tt) : PyData.eqv (prD p) (prD q) = decide (p = q) := by
  rw [prD_strs, prD_strs, eqv_strs]
  obtain ⟨a, b⟩ := p
  obtain ⟨c, d⟩ := q
  by_cases h : a = c <;> by_cases g : b = d <;> simp [h, g]
theorem any_pr (q : Tt) : ∀ ts : List Tt, ((ts.map prD).any fun z => PyData.eqv z (prD q)) = decide (q ∈ ts)
  | [] => rfl
  | p :: ts => by
    rw [List.map_cons, List.any_cons, any_pr q ts, eqv_pr]
    by_cases h : p = q
    · subst h
      simp
    · have h2 : ¬ q = p := fun e => h e.symm
      simp [h, h2]
theorem lay_pr {q : Tt} (h : Okx q.1 ∧ Okx q.2) : (prD q).canLay0 = true := by simp [prD, PyData.canLay0, PyData.canLayAll0, h.1.o, h.2.o]
theorem lay_prs : ∀ {ts : List Tt}, (∀ q ∈ ts, Okx q.1 ∧ Okx q.2) → PyData.canLayAll0 (ts.map prD) = true
  | [], _ => by simp [PyData.canLayAll0]
  | q :: ts, h => by simp [PyData.canLayAll0, lay_pr (h q List.mem_cons_self), lay_prs fun x hx => h x (List.mem_cons_of_mem _ hx)]
theorem dep_prs : ∀ ts : List Tt, PyData.depthAll (ts.map prD) ≤ 1
  | [] => by simp [PyData.depthAll]
  | q :: ts => by
    have := dep_prs ts
    simp only [List.map_cons, PyData.depthAll, prD, PyData.depth]
    omega
theorem shp_pr {q : Tt} (h : Okx q.1 ∧ Okx q.2) : SeqAt.shaped (prD q) = true := shp_of (lay_pr h) (by simp only [prD, PyData.depth, PyData.depthAll]; omega)
theorem shp_prs {ts : List Tt} (h : ∀ q ∈ ts, Okx q.1 ∧ Okx q.2) : SeqAt.shaped (.list (ts.map prD)) = true := shp_of (by simpa [PyData.canLay0] using lay_prs h) (by
  have := dep_prs ts
  simp only [PyData.depth]
  omega)
/-- at the addresses stand the pairs -/
theorem dpa_prs {K : PySem.W.Frag} {H : Hp} : ∀ {as : List Addr} {ts : List Tt}, as.length = ts.length → (∀ (i : Nat) (t : Addr), as[i]? = some t → ∃ q, ts[i]? = some q ∧ SqT K H t (ttV q)) → DpAll K H (as.map V.ref) (ts.map prD)
  | [], [], _, _ => .nil
  | [], q :: ts, l, _ => by cases l
  | a :: as, [], l, _ => by cases l
  | a :: as, q :: ts, l, h => by
    obtain ⟨q2, e, hq⟩ := h 0 a rfl
    cases e
    exact .cons (.tup hq (.cons (.str _) (.cons (.str _) .nil))) (dpa_prs (by simpa using l) fun i t e => h (i + 1) t e)
def spCT2 (K : PySem.W.Frag) : Sp := fun vs H Q E => ∃ (t : Addr) (ts : List Tt), vs = [.ref t] ∧ TupsAt K H t (ts.map ttV) ∧ (∀ q ∈ ts, Okx q.1 ∧ Okx q.2) ∧
  match badF ts with
  | some x => ∀ (d : Addr) (H' : Hp), Same H H' → H d = none → H' d = some (.xd [("name", .str x)]) → E (.ref (CBadFrame K)) (some d) H'
  | none => ∀ H', Same H H' → Q .non H'
section
variable {P : Program} {w : World} {K : PySem.W.Frag} {mg : Str → Option Value} {base : Heap} {f : Addr} {fd : FuncData}
theorem ok_ct2 (F : FnP K "_check_totals" sCheckTotals f fd) (Y : Fx w K mg) : FnOk P w K mg base (L2.CX P w) 3 f fd ["totals"] (spCT2 K) := by
  refine F.ok scCT (fun vs H Q E h => ?_) (fun cdv A outer s H vs Q E hr h => ?_)
  · obtain ⟨t, ts, rfl, _⟩ := h
    rfl
  · have nd := scCT.nd
    have hu64 := hu64_of hr
    have hu65 : (A.deeper (envOfC "_check_totals" (defScope sCheckTotals) s.heap.objs.size f cdv)).units + 65 < cLine := by have := hr.un; omega
    refine ⟨_, pss_one (ps_for (passes_of rfl) rfl (pi_enumA (by rfl) Y.bEnumerate (pa_cons (pv 0) pa_nil)) (pg_tup rfl (pgs_cons (pg_name (i := 1) nd rfl (Or.inl rfl)) (pgs_cons (pg_tup rfl (pgs_cons (pg_name (i := 2) nd rfl (Or.inl rfl)) (pgs_cons (pg_name (i := 3) nd rfl (Or.inl rfl)) pgs_nil))) pgs_nil)))
      (pss_one (ps_if (pw_or (pt_cmpR op_notIn_seq (pv 3) (pe_tup (pa_cons pe_str (pa_cons pe_str pa_nil))) (by rfl)) (pw_or1 (pt_cmpR (op_inD hu65) (pe_tup (pa_cons (pv 2) (pa_cons (pv 3) pa_nil))) (pe_slice sl_list (pv 0) po_none (po_some (pv 1))) (by rfl)))).pt
        (pss_one (ps_raise rfl (takes_of rfl rfl rfl rfl) (pmk_ra (raBF Y) hr (by rfl) Y.gBadFrame (pa_cons (pv 2) pa_nil)))) pss_nil))), ?_⟩
    obtain ⟨t, ts, rfl, ht, hok, k⟩ := h
    obtain ⟨as, q, la, g⟩ := id ht
    rw [List.length_map] at la
    refine ⟨_, rfl, t, _, rfl, .inl q, fun J GG wk gk => ?_⟩
    refine for_it wk (fun i σ G => (∃ v1 v2 v3, σ = [some (.ref t), v1, v2, v3]) ∧ firstN (fun i => ts[i]?.bind fun q => if (q.2 ≠ ("on" : Str) ∧ q.2 ≠ ("back" : Str)) ∨ q ∈ ts.take i then some q.1 else none) i = none ∧ Same H G) ⟨⟨_, _, _, rfl⟩, rfl, Same.refl _⟩ (fun i σ G _ p => gk G p.2.2) ?_ ?_
    · rintro i v σ G G' hi ⟨⟨v1, v2, v3, rfl⟩, hF, sm⟩ ⟨T, x, y, rfl, hT, rfl, ex, ey⟩
      cases ex
      obtain ⟨b, eb, rfl⟩ := ref_at (show (as.map V.ref)[i]? = some y from ey)
      obtain ⟨vs, e1, hB⟩ := g i b eb
      obtain ⟨tt, e2, rfl⟩ := tt_at e1
      have li := (List.getElem?_eq_some_iff.mp e2).1
      have sT := same_upd (o := .tup [V.int (i : Int), V.ref b]) hT
      have smT := sm.trans sT
      refine ⟨T, _, rfl, SqT.of upd_same, rfl, _, _, rfl, _, _, rfl, ⟨b, _, rfl, sqt_same smT hB, rfl, _, _, rfl, _, _, rfl, rfl, rfl, ?_⟩⟩
      dsimp only
      change tIfS _ _ _ _ [some (.ref t), some (.int (i : Int)), some (.str tt.1), some (.str tt.2)] (upd G T (.tup [V.int (i : Int), V.ref b]))
      refine ⟨_, rfl, szl (by show 2 ≤ 1000; decide), fun T2 hT2 => ?_⟩
      have s2 := same_upd (o := .tup [V.str "on", V.str "back"]) hT2
      have smA := smT.trans s2
      refine ⟨T2, _, rfl, .inr (SqT.of upd_same), rfl, fl_strs ["on", "back"], _, rfl, ?_⟩
      rw [if_pos rfl, show inV (V.str tt.2) [V.str "on", V.str "back"] = decide (tt.2 ∈ (["on", "back"] : List Str)) from inV_strs tt.2 ["on", "back"]]
      refine ite2 (fun hc => ?_) (fun hc => ?_)
      · have no : tt.2 ∉ (["on", "back"] : List Str) := by simpa using hc
        have e : badF ts = some tt.1 := firstN_at hF (by
          show (ts[i]?.bind _) = _
          rw [e2]
          exact if_pos (.inl ⟨fun z => no (by rw [z]; exact List.mem_cons_self), fun z => no (by rw [z]; exact List.mem_cons_of_mem _ List.mem_cons_self)⟩)) li
        rw [e] at k
        refine iteT ?_
        exact ⟨_, rfl, (by show 1 ≤ 1000; decide), fun q hq => mkO_at (fun d H' s hd e => k d H' (smA.trans s) (none_of smA hd) e) q hq⟩
      · have yes : tt.2 ∈ (["on", "back"] : List Str) := Classical.byContradiction fun z => hc (by rw [decide_eq_false z]; rfl)
        have nw : ¬ (tt.2 ≠ ("on" : Str) ∧ tt.2 ≠ ("back" : Str)) := fun z => by
          rcases List.mem_cons.mp yes with y | y
          · exact z.1 y
          · exact z.2 (List.mem_singleton.mp y)
        refine ⟨_, rfl, _, rfl, szl (by show 2 ≤ 1000; decide), fun T3 hT3 => ?_⟩
        have s3 := same_upd (o := .tup [V.str tt.1, V.str tt.2]) hT3
        refine ⟨_, rfl, _, rfl, _, rfl, t, _, rfl, (smA.trans s3).seq q, fun p hp => ?_⟩
        rw [cutV_take, ← List.map_take]
        have s4 := same_upd (o := .lst ((as.take i).map V.ref)) hp
        have smB := smA.trans (s3.trans s4)
        refine ⟨prD tt, (ts.take i).map prD, .tup (sqt_same s4 (SqT.of upd_same)) (.cons (.str _) (.cons (.str _) .nil)), .lst (SqL.of upd_same) (dpa_prs (by rw [List.length_take, List.length_take, la]) fun j t2 e => ?_), shp_pr (hok tt (List.mem_of_getElem? e2)), shp_prs (fun x hx => hok x (List.mem_of_mem_take hx)), ?_⟩
        · have lj : j < i := by
            have := (List.getElem?_eq_some_iff.mp e).1
            rw [List.length_take] at this
            omega
          rw [List.getElem?_take_of_lt lj] at e
          obtain ⟨vs, f1, f2⟩ := g j t2 e
          obtain ⟨q2, f3, rfl⟩ := tt_at f1
          exact ⟨q2, by rw [List.getElem?_take_of_lt lj]; exact f3, sqt_same smB f2⟩
        · refine ⟨_, rfl, ?_⟩
          rw [any_pr]
          refine ite2 (fun hc2 => ?_) (fun hc2 => ?_)
          · have hm : tt ∈ ts.take i := of_decide_eq_true hc2
            have e : badF ts = some tt.1 := firstN_at hF (by
              show (ts[i]?.bind _) = _
              rw [e2]
              exact if_pos (.inr hm)) li
            rw [e] at k
            exact ⟨_, rfl, (by show 1 ≤ 1000; decide), fun q hq => mkO_at (fun d H' s hd e => k d H' (smB.trans s) (none_of smB hd) e) q hq⟩
          · have hm : tt ∉ ts.take i := fun z => hc2 (decide_eq_true z)
            exact ⟨⟨_, _, _, rfl⟩, firstN_step hF (by
              show (ts[i]?.bind _) = _
              rw [e2]
              exact if_neg (fun z => z.elim nw hm)), smB⟩
    · rintro σ G ⟨⟨v1, v2, v3, rfl⟩, hF, sm⟩
      rw [List.length_map, la] at hF
      have eb2 : badF ts = none := hF
      rw [eb2] at k
      exact k G sm
end
end K37

namespace K37
open PySem PySem.Spec PyProof.Rows L2 Ow Xv
/-! ### the step of a total -/
def stepOf (q : Lt) (t : Tt) : Tt := if t.2 = ("on" : Str) then (q.2.1, q.2.2) else (q.2.2, q.2.1)
abbrev NSO : List Str := ["ends", "total", "name", "word", "first", "second"]
theorem scSO : FnScope NSO ["ends", "total"] (defScope sStepOf) := ⟨rfl, rfl, rfl, by decide +kernel, rfl, by decide +kernel, by decide +kernel⟩
def spSO (K : PySem.W.Frag) : Sp := fun vs H Q _ => ∃ (m t p : Addr) (q : Lt) (tt : Tt), vs = [.ref m, .ref t] ∧ DGet H m (.str q.1) (some (.ref p)) ∧ SqT K H p (endV q) ∧ SqT K H t (ttV tt) ∧ tt.1 = q.1 ∧ ∀ (T : Addr) (H' : Hp), Same H H' → SqT K H' T (ttV (stepOf q tt)) → Q (.ref T) H'
section
variable {P : Program} {w : World} {K : PySem.W.Frag} {mg : Str → Option Value} {base : Heap} {f : Addr} {fd : FuncData}
theorem ok_so (F : FnP K "_step_of" sStepOf f fd) (Y : Fx w K mg) : FnOk P w K mg base CX0 1 f fd ["ends", "total"] (spSO K) := by
  refine okD F scSO (fun vs H Q E h => ?_) (fun cdv A outer s H vs Q E hr h => ?_)
  · obtain ⟨m, t, p, q, tt, rfl, _⟩ := h
    rfl
  · have nd := scSO.nd
    have hu := hu_of hr
    refine ⟨_, pss_cons (ps_asg (pv 1) (pg_tup rfl (pgs_cons (pg_name (i := 2) nd rfl (Or.inl rfl)) (pgs_cons (pg_name (i := 3) nd rfl (Or.inl rfl)) pgs_nil))))
      (pss_cons (ps_asg (pe_dget hu (pv 0) (pv 2) nosl) (pg_tup rfl (pgs_cons (pg_name (i := 4) nd rfl (Or.inl rfl)) (pgs_cons (pg_name (i := 5) nd rfl (Or.inl rfl)) pgs_nil))))
      (pss_one (ps_ret (pe_ifExp (pt_cmpR op_eq (pv 3) pe_str (nomark _)) (pe_tup (pa_cons (pv 4) (pa_cons (pv 5) pa_nil))) (pe_tup (pa_cons (pv 5) (pa_cons (pv 4) pa_nil))))))), ?_⟩
    obtain ⟨m, t, p, q, tt, rfl, hm, hp, ht, en, k⟩ := h
    refine ⟨_, rfl, t, _, rfl, ht, rfl, _, _, rfl, _, _, rfl, rfl, ?_⟩
    dsimp only
    change tSeq _ _ _ [some (.ref m), some (.ref t), some (.str tt.1), some (.str tt.2), none, none] H
    refine ⟨_, rfl, _, rfl, m, .ref p, rfl, by rw [en]; exact hm, p, _, rfl, hp, rfl, _, _, rfl, _, _, rfl, rfl, ?_⟩
    dsimp only
    change tRet _ _ [some (.ref m), some (.ref t), some (.str tt.1), some (.str tt.2), some (.str q.2.1), some (.str q.2.2)] H
    refine ⟨_, rfl, rfl, _, rfl, ite2 (fun hc => ?_) (fun hc => ?_)⟩
    · have e : tt.2 = ("on" : Str) := by
        have z : V.str tt.2 = V.str "on" := of_decide_eq_true hc
        injection z
      refine ⟨_, rfl, _, rfl, szl (by show 2 ≤ 1000; decide), fun T hT => k T _ (same_upd hT) ?_⟩
      rw [show stepOf q tt = (q.2.1, q.2.2) from if_pos e]
      exact SqT.of upd_same
    · have e : tt.2 ≠ ("on" : Str) := fun z => hc (by rw [z]; exact decide_eq_true rfl)
      refine ⟨_, rfl, _, rfl, szl (by show 2 ≤ 1000; decide), fun T hT => k T _ (same_upd hT) ?_⟩
      rw [show stepOf q tt = (q.2.2, q.2.1) from if_neg e]
      exact SqT.of upd_same
end
end K37

namespace K37
open PySem PySem.Spec PyProof.Rows L2 Ow Xv
/-! ### steps checked -/
def spXM (K : PySem.W.Frag) (C : Addr) (n : Str) : Sp := fun vs H Q _ => ∃ (a m : Addr) (zs : List V), vs = [.ref a, .ref m] ∧ H a = some (exo a C none) ∧ SqL K H m zs ∧ ∀ (T : Addr) (dx : Addr), H T = none → dx ≠ T → dx ≠ a → H dx = none → Q .non (upd (upd (upd H T (.tup zs)) dx (exd dx [(n, .ref T)])) a (exo a C (some dx)))
theorem mkO_mem {K : PySem.W.Frag} {C m : Addr} {n : Str} {zs : List V} {H : Hp} {Q : XK} (hm : SqL K H m zs) (k : ∀ (d T : Addr) (H' : Hp), Same H H' → H d = none → H' d = some (.xd [(n, .ref T)]) → SqT K H' T zs → Q (.ref C) (some d) H') (a : Addr) (ha : H a = none) :
    spXM K C n (.ref a :: ([.ref m] ++ [])) (upd H a (exo a C none)) (fun v H2 => v = .non ∧ ∃ (d : Addr) (fs : List (Str × V)), H2 a = some (exo a C (some d)) ∧ H2 d = some (exd d fs) ∧ H d = none ∧ Q (.ref C) (some d) (upd (del H2 a) d (.xd fs))) (fun _ _ _ => False) := by
  refine ⟨a, m, zs, rfl, upd_same, (same_upd ha).seq hm, fun T dx hT n1 n2 hd => ?_⟩
  have nTa : T ≠ a := fun e => by rw [e, upd_same] at hT; cases hT
  have hd1 : H dx = none := (upd_ne n2).symm.trans hd
  have hT1 : H T = none := (upd_ne nTa).symm.trans hT
  refine ⟨rfl, dx, _, upd_same, (upd_ne n2).trans upd_same, hd1, k dx T _ (fun b o eb => ?_) hd1 upd_same ?_⟩
  · have m1 := ne_of_none eb ha
    have m2 := ne_of_none eb hd1
    have m3 := ne_of_none eb hT1
    rw [upd_ne m2, del_ne m1, upd_ne m1, upd_ne m2, upd_ne m3, upd_ne m1]
    exact eb
  · refine SqT.of ?_
    rw [upd_ne n1.symm, del_ne nTa, upd_ne nTa, upd_ne n1.symm, upd_same]
def lead (S : List Tt) (l : List Str) : List Str := l.filter fun x => l.any fun y => decide ((x, y) ∈ S)
def leadN (S : List Tt) : Nat → List Str → List Str
  | 0, l => l
  | n + 1, l => lead S (leadN S n l)
theorem lead_len (S : List Tt) (l : List Str) : (lead S l).length ≤ l.length := List.length_filter_le _ _
theorem lead_fix {S : List Tt} {l : List Str} (h : lead S l ≠ l) : (lead S l).length < l.length := by
  refine Nat.lt_of_le_of_ne (lead_len S l) fun e => h ?_
  unfold lead at e ⊢
  exact List.filter_eq_self.mpr (List.length_filter_eq_length_iff.mp e)
theorem leadN_fix {S : List Tt} {xs : List Str} {k : Nat} (h : lead S (leadN S k xs) = leadN S k xs) : ∀ m, k ≤ m → leadN S m xs = leadN S k xs := by
  intro m hm
  induction m with
  | zero => rw [show k = 0 by omega]
  | succ m ih =>
    by_cases e : k = m + 1
    · rw [e]
    · show lead S (leadN S m xs) = _
      rw [ih (by omega), h]
/-- what is left of the sorts -/
def rnd (S : List Tt) (xs : List Str) : List Str := leadN S xs.length xs
theorem rnd_at {S : List Tt} {xs : List Str} {k : Nat} (h : lead S (leadN S k xs) = leadN S k xs) (l : k ≤ xs.length) : rnd S xs = leadN S k xs := leadN_fix h _ l
section
variable {P : Program} {w : World} {K : PySem.W.Frag} {mg : Str → Option Value} {base : Heap} {f : Addr} {fd : FuncData}
theorem raCR (Y : Fx w K mg) : RaC P w K mg base (CComesRound K) ["self", "members"] (spXM K (CComesRound K) "members") := by
  obtain ⟨fd, F⟩ := Y.dComesRound_Init
  have b := FunD.bindsN (ps := ["self", "members"]) F fun _ _ _ _ _ _ us hl => match us, hl with | [_, _], _ => rfl
  refine ⟨⟨_, _, _, _, _, fd, PySem.F.excBase_ValueError, Y.xCR.q, Y.xCR.iC, Y.xCR.tI, ?_, b⟩, Y.xCR.ec.kp, Y.xCR.ec.be, Y.xCR.ty⟩
  refine okD F scXN5 (fun vs H Q E h => ?_) (fun cdv A outer s H vs Q E hr h => ?_)
  · obtain ⟨a, m, zs, rfl, _⟩ := h
    rfl
  · refine ⟨_, pss_one (ps_st (C := CComesRound K) PySem.F.store_ValueError Y.xCR.ec Y.xCR.ov Y.xCR.tk (pv 0) (pe_callTy call_tuple_of (by rfl) Y.bTuple (by decide +kernel) (pa_cons (pv 1) pa_nil))), ?_⟩
    obtain ⟨a, m, zs, rfl, ha, hm, k⟩ := h
    refine ⟨_, rfl, m, zs, rfl, .inl ⟨hm, fun T hT => ?_⟩⟩
    have nTa : a ≠ T := ne_of_none ha hT
    refine ⟨_, rfl, a, rfl, .inl ⟨(upd_ne nTa).trans ha, fun dx h1 h2 => ?_⟩⟩
    have nT : dx ≠ T := fun e => by rw [e, upd_same] at h1; cases h1
    exact k T dx hT nT h2 ((upd_ne nT).symm.trans h1)
end
end K37

namespace K37
open PySem PySem.Spec PyProof.Rows L2 Ow Xv
theorem prs_get {K : PySem.W.Frag} {H : Hp} {t : Addr} {S : List Tt} (h : TupsAt K H t (S.map ttV)) : ∃ as : List Addr, SqL K H t (as.map V.ref) ∧ DpAll K H (as.map V.ref) (S.map prD) := by
  obtain ⟨as, q, la, g⟩ := h
  rw [List.length_map] at la
  exact ⟨as, q, dpa_prs la fun i t e => let ⟨vs, e1, e2⟩ := g i t e; let ⟨q2, e3, e4⟩ := tt_at e1; ⟨q2, e3, e4 ▸ e2⟩⟩
/-- those from which a step leads to one of them -/
theorem lead_evG {K : PySem.W.Frag} {t L : Addr} {S : List Tt} {xs : List Str} {v0 v3 : Option V} {G : Hp} {Q : VK} (ht : TupsAt K G t (S.map ttV)) (hS : ∀ q ∈ S, Okx q.1 ∧ Okx q.2) (hL : SqL K G L (xs.map V.str)) (hx : ∀ x ∈ xs, Okx x) (lx : xs.length < 64) (k : ∀ D G', G D = none → Same G G' → G' D = some (.lst ((lead S xs).map V.str)) → Q (.ref D) G') :
    tLc (iList K (tVar 2)) (gName 4) (ttAny K) (tVar 4) [4] [v0, some (.ref t), some (.ref L), v3, none, none] G Q := by
  refine ⟨_, rfl, L, rfl, ⟨_, hL⟩, fun D hD => ?_⟩
  refine lc_list (K := K) (a := L) (xs := xs.map V.str) (fun i G' => G' D = some (.lst (((xs.take i).filter fun x => xs.any fun y => decide ((x, y) ∈ S)).map V.str)) ∧ Same G G') ⟨upd_same, same_upd hD⟩ (fun i G' _ p => p.2.seq hL) ?_ ?_
  · rintro i v G' hi ⟨e, s1⟩
    obtain ⟨x, ex, rfl⟩ := str_at hi
    have hxx := hx x (List.mem_of_getElem? ex)
    have li := (List.getElem?_eq_some_iff.mp ex).1
    refine ⟨rfl, ?_⟩
    show tB (tCB (rAny K) (tCons (tLc (iList K (tVar 2)) (gName 5) tYes (teIn K) [5]) tNil)) _ _ _
    refine ⟨_, rfl, L, rfl, ⟨_, s1.seq hL⟩, fun D2 hD2 => ?_⟩
    refine lc_list (K := K) (a := L) (xs := xs.map V.str) (fun j G2 => G2 D2 = some (.lst (((xs.take j).map fun y => decide ((x, y) ∈ S)).map V.bl)) ∧ Same G' G2) ⟨upd_same, same_upd hD2⟩ (fun j G2 _ p => p.2.seq (s1.seq hL)) ?_ ?_
    · rintro j v G2 hj ⟨e2, s2⟩
      obtain ⟨y, ey, rfl⟩ := str_at hj
      have hy := hx y (List.mem_of_getElem? ey)
      have lj := (List.getElem?_eq_some_iff.mp ey).1
      refine ⟨rfl, ?_⟩
      refine ⟨_, rfl, _, rfl, szl (by show 2 ≤ 1000; decide), fun T hT => ?_⟩
      have sT := same_upd (o := .tup [V.str x, V.str y]) hT
      obtain ⟨as, q, da⟩ := prs_get (ht.same (s1.trans (s2.trans sT)))
      refine ⟨_, rfl, prD (x, y), S.map prD, .tup (SqT.of upd_same) (.cons (.str _) (.cons (.str _) .nil)), .lst q da, shp_pr ⟨hxx, hy⟩, shp_prs hS, ?_⟩
      rw [any_pr]
      refine ⟨_, sT _ _ e2, ?_, ?_, same_put hD2 (s2.trans sT)⟩
      · rw [List.length_map, List.length_map, List.length_take]
        exact small1000 (by omega)
      · rw [upd_same, List.take_add_one, ey, List.map_append, List.map_append]
        rfl
    · rintro G2 ⟨e2, s2⟩
      rw [List.length_map, List.take_length] at e2
      refine ⟨D2, _, rfl, SqL.of e2, _, rfl, ?_⟩
      rw [List.any_map]
      have tk : (xs.take (i + 1)).filter (fun x => xs.any fun y => decide ((x, y) ∈ S)) = (xs.take i).filter (fun x => xs.any fun y => decide ((x, y) ∈ S)) ++ if (xs.any fun y => decide ((x, y) ∈ S)) = true then [x] else [] := by
        rw [List.take_add_one, ex, List.filter_append]
        congr 1
        show List.filter _ [x] = _
        rw [List.filter_cons, List.filter_nil]
      refine ite2 (fun hc => ?_) (fun hc => ?_)
      · have hc2 : (xs.any fun y => decide ((x, y) ∈ S)) = true := hc
        rw [if_pos hc2] at tk
        refine ⟨_, rfl, _, s2 _ _ e, ?_, ?_, same_put hD (s1.trans s2)⟩
        · rw [List.length_map]
          have := List.length_filter_le (fun x => xs.any fun y => decide ((x, y) ∈ S)) (xs.take i)
          rw [List.length_take] at this
          exact small1000 (by omega)
        · rw [upd_same, tk, List.map_append]
          rfl
      · have hc2 : ¬ (xs.any fun y => decide ((x, y) ∈ S)) = true := hc
        rw [if_neg hc2, List.append_nil] at tk
        refine ⟨?_, s1.trans s2⟩
        rw [tk]
        exact s2 _ _ e
  · rintro G' ⟨e, s1⟩
    rw [List.length_map, List.take_length] at e
    exact k D G' hD s1 e
theorem lead_stG {K : PySem.W.Frag} {t L : Addr} {S : List Tt} {xs : List Str} {v0 v3 : Option V} {G : Hp} {u : TS} {E : Ends} (ht : TupsAt K G t (S.map ttV)) (hS : ∀ q ∈ S, Okx q.1 ∧ Okx q.2) (hL : SqL K G L (xs.map V.str)) (hx : ∀ x ∈ xs, Okx x) (lx : xs.length < 64) (k : ∀ D G', G D = none → Same G G' → G' D = some (.lst ((lead S xs).map V.str)) → u E [v0, some (.ref t), some (.ref L), some (.ref D), none, none] G') :
    tSeq (tAsg (tLc (iList K (tVar 2)) (gName 4) (ttAny K) (tVar 4) (List.map (fun x => x.snd) [(("x" : Str), 4)])) (gName 3)) u E [v0, some (.ref t), some (.ref L), v3, none, none] G :=
  lead_evG (Q := fun v G' => gName 3 v [v0, some (.ref t), some (.ref L), v3, none, none] G' (u E)) ht hS hL hx lx k
theorem lay_okx : ∀ {xs : List Str}, (∀ x ∈ xs, Okx x) → PyData.canLayAll0 (xs.map PyData.str) = true
  | [], _ => by simp [PyData.canLayAll0]
  | x :: xs, h => by simp [PyData.canLayAll0, PyData.canLay0, (h x List.mem_cons_self).o, lay_okx fun y hy => h y (List.mem_cons_of_mem _ hy)]
theorem shp_okx {xs : List Str} (h : ∀ x ∈ xs, Okx x) : SeqAt.shaped (.list (xs.map PyData.str)) = true := shp_of (by simpa [PyData.canLay0] using lay_okx h) (by simp only [PyData.depth, dep_strs]; omega)
theorem eqv_lstrs (xs ys : List Str) : PyData.eqv (.list (xs.map PyData.str)) (.list (ys.map PyData.str)) = decide (xs = ys) := by
  have e := eqv_strs xs ys
  simp only [PyData.eqv] at e ⊢
  exact e
theorem lead_ok {S : List Tt} {xs : List Str} (h : ∀ x ∈ xs, Okx x) : ∀ x ∈ lead S xs, Okx x := fun x hx => h x (List.mem_filter.mp hx).1
def spCS2 (K : PySem.W.Frag) : Sp := fun vs H Q E => ∃ (s t : Addr) (xs : List Str) (S : List Tt), vs = [.ref s, .ref t] ∧ SqA K H s (xs.map V.str) ∧ (∀ x ∈ xs, Okx x) ∧ xs.length < 64 ∧ TupsAt K H t (S.map ttV) ∧ (∀ q ∈ S, Okx q.1 ∧ Okx q.2) ∧
  (rnd S xs ≠ [] → ∀ (d T : Addr) (H' : Hp), Same H H' → H d = none → H' d = some (.xd [("members", .ref T)]) → SqT K H' T ((rnd S xs).map V.str) → E (.ref (CComesRound K)) (some d) H') ∧ (rnd S xs = [] → ∀ H', Same H H' → Q .non H')
section
variable {P : Program} {w : World} {K : PySem.W.Frag} {mg : Str → Option Value} {base : Heap} {f : Addr} {fd : FuncData}
theorem ok_cs2 (F : FnP K "_check_steps" sCheckSteps f fd) (Y : Fx w K mg) : FnOk P w K mg base (L2.CX P w) 3 f fd ["sorts", "steps"] (spCS2 K) := by
  refine F.ok scCS (fun vs H Q E h => ?_) (fun cdv A outer s H vs Q E hr h => ?_)
  · obtain ⟨a, t, xs, S, rfl, _⟩ := h
    rfl
  · have nd := scCS.nd
    have hu65 : (A.deeper (envOfC "_check_steps" (defScope sCheckSteps) s.heap.objs.size f cdv)).units + 65 < cLine := by have := hr.un; omega
    have hu64 := hu64_of hr
    refine ⟨_, pss_cons (ps_set (i := 2) nd rfl (Or.inr rfl) (pe_callTy call_list_of (by rfl) Y.bList boot_list (pa_cons (pv 0) pa_nil)))
      (pss_cons (ps_setLc (i := 3) (own := [("x", 4)]) (g := gName 4) (tt := ttAny K) (te := tVar 4) rfl nd rfl rfl (by rfl) (pi_list (pv 2)) (blkOk_by (N := NCS) (sc := defScope sCheckSteps) (by decide +kernel)) (fun _ _ _ _ _ => pg_name (i := 4) nd rfl (Or.inr rfl))
          (fun _ _ _ _ _ => pts_one (pt_val (pe_callB (cr_any rfl) (by rfl) Y.bAny (by decide +kernel) (pa_cons (pe_lc (own := [("y", 5)]) (g := gName 5) (tt := tYes) (te := teIn K) rfl nd (pi_list (pv 2)) (blkOk_by (N := NCS) (sc := scCSx) (by decide +kernel)) (fun _ _ _ _ _ => pg_name (i := 5) nd rfl (Or.inl rfl)) (fun _ _ _ _ _ => pts_nil)
            (fun _ _ _ _ _ => pe_cmpR (op_inD hu65) (pe_tup (pa_cons (pv 4) (pa_cons (pv 5) pa_nil))) (pv 1) (by rfl))) pa_nil))))
          (fun _ _ _ _ _ => pv 4))
      (pss_cons (ps_while (passes_of rfl) (pt_cmpR (op_neD hu64) (pv 3) (pv 2) (nomark _))
        (pss_cons (ps_set (i := 2) nd rfl (Or.inr rfl) (pv 3))
        (pss_cons (ps_setLc (i := 3) (own := [("x", 4)]) (g := gName 4) (tt := ttAny K) (te := tVar 4) rfl nd rfl rfl (by rfl) (pi_list (pv 2)) (blkOk_by (N := NCS) (sc := defScope sCheckSteps) (by decide +kernel)) (fun _ _ _ _ _ => pg_name (i := 4) nd rfl (Or.inr rfl))
          (fun _ _ _ _ _ => pts_one (pt_val (pe_callB (cr_any rfl) (by rfl) Y.bAny (by decide +kernel) (pa_cons (pe_lc (own := [("y", 5)]) (g := gName 5) (tt := tYes) (te := teIn K) rfl nd (pi_list (pv 2)) (blkOk_by (N := NCS) (sc := scCSx) (by decide +kernel)) (fun _ _ _ _ _ => pg_name (i := 5) nd rfl (Or.inl rfl)) (fun _ _ _ _ _ => pts_nil)
            (fun _ _ _ _ _ => pe_cmpR (op_inD hu65) (pe_tup (pa_cons (pv 4) (pa_cons (pv 5) pa_nil))) (pv 1) (by rfl))) pa_nil))))
          (fun _ _ _ _ _ => pv 4)) pss_nil)))
      (pss_one (ps_if (pt_truth (pv 2) (by intro _; rfl)) (pss_one (ps_raise rfl (takes_of rfl rfl rfl rfl) (pmk_ra (raCR Y) hr (by rfl) Y.gComesRound (pa_cons (pv 2) pa_nil)))) pss_nil)))), ?_⟩
    obtain ⟨a, t, xs, S, rfl, hs, hx, lx, ht, hS, kE, kQ⟩ := h
    refine ⟨_, rfl, a, _, rfl, hs, fun L hL0 => ?_⟩
    have s0 := same_upd (o := .lst (xs.map V.str)) hL0
    have eL : upd H L (.lst (xs.map V.str)) L = some (.lst (xs.map V.str)) := upd_same
    change tSeq _ _ _ _ (upd H L (.lst (xs.map V.str)))
    refine lead_stG (xs := xs) (ht.same s0) hS (SqL.of eL) hx lx fun D G1 hD s1 eD => ?_
    have eL1 := s1 _ _ eL
    change tSeq (tWhile _ _) _ _ _ _
    refine while_by (fun σ G' => ∃ (L D : Addr) (n : Nat), σ = [some (.ref a), some (.ref t), some (.ref L), some (.ref D), none, none] ∧ G' L = some (.lst ((leadN S n xs).map V.str)) ∧ G' D = some (.lst ((lead S (leadN S n xs)).map V.str)) ∧ (∀ x ∈ leadN S n xs, Okx x) ∧ (leadN S n xs).length + n ≤ xs.length ∧ Same H G')
      (fun σ G' => match σ[2]? with
        | some (some (V.ref b)) => (match G' b with
          | some (.lst zs) => zs.length
          | _ => 0)
        | _ => 0) ⟨L, D, 0, rfl, eL1, eD, hx, Nat.le_refl _, s0.trans s1⟩ ?_ ?_
    · rintro σ G' ⟨L, D, n, rfl, hL, hD, hn, ln, sm⟩
      refine ⟨_, rfl, _, rfl, .list ((lead S (leadN S n xs)).map PyData.str), .list ((leadN S n xs).map PyData.str), .lst (SqL.of hD) (dpa_strs _), .lst (SqL.of hL) (dpa_strs _), shp_okx (lead_ok hn), shp_okx hn, ?_⟩
      rw [eqv_lstrs]
      by_cases fx : lead S (leadN S n xs) = leadN S n xs
      · refine ⟨false, by rw [decide_eq_true fx]; rfl, iteF ?_⟩
        have er := rnd_at fx (by omega)
        refine ⟨_, rfl, !(leadN S n xs).isEmpty, .inl ⟨_, SqL.of hL, by simp⟩, ?_⟩
        by_cases em : leadN S n xs = []
        · rw [em]
          refine iteF ?_
          exact kQ (er.trans em) G' sm
        · have ne : (!(leadN S n xs).isEmpty) = true := by simpa using em
          rw [ne]
          refine iteT ?_
          refine ⟨_, rfl, (by show 1 ≤ 1000; decide), fun q hq => mkO_mem (SqL.of hL) (fun d T H' s hd e hT => kE (by rw [er]; exact em) d T H' (sm.trans s) (none_of sm hd) e (by rw [er]; exact hT)) q hq⟩
      · refine ⟨true, by rw [decide_eq_false fx]; rfl, iteT ?_⟩
        refine ⟨_, rfl, ?_⟩
        change tSeq _ _ _ _ _
        have lt := lead_fix fx
        refine lead_stG (xs := lead S (leadN S n xs)) (ht.same sm) hS (SqL.of hD) (lead_ok hn) (by omega) fun D2 G2 hD2 s2 e2 => ?_
        refine ⟨⟨D, D2, n + 1, rfl, s2 _ _ hD, e2, lead_ok hn, by show (lead S (leadN S n xs)).length + (n + 1) ≤ _; omega, sm.trans s2⟩, ?_⟩
        show (match G2 D with
          | some (HO.lst zs) => zs.length
          | _ => 0) < (match G' L with
          | some (HO.lst zs) => zs.length
          | _ => 0)
        rw [s2 _ _ hD, hL]
        dsimp only
        rw [List.length_map, List.length_map]
        exact lt
    · rintro σ G' Q1 Q2 hq ⟨v, e1, u, e2, d, e, h1, h2, h3, h4, kk, e3, z⟩
      exact ⟨v, e1, u, e2, d, e, h1, h2, h3, h4, kk, e3, hq _ _ z⟩
end
end K37

namespace K37
open PySem PySem.Spec PyProof.Rows L2 Ow Xv
/-! ### a frame made, or the error that is due -/
section
variable {K : PySem.W.Frag} {x : Addr} {H H' : Hp}
theorem Keep.sqa {a : Addr} {xs : List V} (k : Keep x H H') (hx : ∃ u, H x = some u ∧ isIns u = true) (h : SqA K H a xs) : SqA K H' a xs := h.elim (fun h => .inl (k.sql hx h)) fun h => .inr (k.sqt hx h)
theorem Keep.tupsA {l : Addr} {vss : List (List V)} (k : Keep x H H') (hx : ∃ u, H x = some u ∧ isIns u = true) (h : TupsA K H l vss) : TupsA K H' l vss := by
  obtain ⟨as, q, e, g⟩ := h
  refine ⟨as, k.sqa hx q, e, fun i t z => ?_⟩
  obtain ⟨vs, e1, e2⟩ := g i t z
  exact ⟨vs, e1, k.sqt hx e2⟩
theorem Keep.ld {m : Addr} {ls : List Lt} (k : Keep x H H') (hx : ∃ u, H x = some u ∧ isIns u = true) (h : LdAt K H m ls) : LdAt K H' m ls := by
  obtain ⟨as, e, l, g⟩ := h
  refine ⟨as, k.one hx e rfl, l, fun i t z => ?_⟩
  obtain ⟨q, e1, e2⟩ := g i t z
  exact ⟨q, e1, k.sqt hx e2⟩
/-- a tuple of tuples -/
def TupsT (K : PySem.W.Frag) (H : Hp) (l : Addr) (vss : List (List V)) : Prop := ∃ as : List Addr, SqT K H l (as.map V.ref) ∧ AllT K H as vss
theorem TupsT.same {l : Addr} {vss : List (List V)} (s : Same H H') (h : TupsT K H l vss) : TupsT K H' l vss := by
  obtain ⟨as, a, b⟩ := h
  exact ⟨as, sqt_same s a, b.same s⟩
theorem TupsT.tups {l : Addr} {vss : List (List V)} (h : TupsT K H l vss) : TupsA K H l vss := by
  obtain ⟨as, a, b⟩ := h
  exact ⟨as, .inr a, b.1, b.2⟩
theorem Keep.allT {us : List Addr} {vss : List (List V)} (k : Keep x H H') (hx : ∃ u, H x = some u ∧ isIns u = true) (h : AllT K H us vss) : AllT K H' us vss := ⟨h.1, fun i t z => let ⟨vs, a, b⟩ := h.2 i t z; ⟨vs, a, k.sqt hx b⟩⟩
theorem Keep.tupsT {l : Addr} {vss : List (List V)} (k : Keep x H H') (hx : ∃ u, H x = some u ∧ isIns u = true) (h : TupsT K H l vss) : TupsT K H' l vss := by
  obtain ⟨as, a, b⟩ := h
  exact ⟨as, k.sqt hx a, k.allT hx b⟩
theorem tup_any {a : Addr} {xs : List V} {Q : VK} (h : SqA K H a xs) (k : ∀ (T : Addr) (H' : Hp), Same H H' → SqT K H' T xs → Q (.ref T) H') :
    ∃ p ys, [V.ref a] = [.ref p] ∧ ((SqL K H p ys ∧ ∀ l, H l = none → Q (.ref l) (upd H l (.tup ys))) ∨ (SqT K H p ys ∧ Q (.ref p) H)) :=
  ⟨a, xs, rfl, h.elim (fun h => .inl ⟨h, fun p hp => k p _ (same_upd hp) (SqT.of upd_same)⟩) (fun h => .inr ⟨h, k a H (Same.refl _) h⟩)⟩
end
theorem call_tupA {X : Cx} : CallR X (.type "tuple") (fun xs H Q => ∃ a ys, xs = [.ref a] ∧ SqA X.K H a ys ∧ ∀ T H', Same H H' → SqT X.K H' T ys → Q (.ref T) H') := by
  intro pins s σ H xs us Q I r h
  obtain ⟨a, ys, rfl, hs, k⟩ := h
  exact call_tuple_of pins s σ H _ us Q I r (tup_any hs k)
/-- at x stands the frame of these -/
def FrmAt (K : PySem.W.Frag) (H : Hp) (x : Addr) (xs : List Str) (ls : List Lt) (ts : List Tt) : Prop := ∃ dx s l t m : Addr,
  H x = some (.ins (CFrame K) dx [("_sorts", .ref s), ("_letters", .ref l), ("_totals", .ref t), ("_ends", .ref m)]) ∧ SqT K H s (xs.map V.str) ∧ TupsT K H l (ls.map ltV) ∧ TupsT K H t (ts.map ttV) ∧ LdAt K H m ls
theorem FrmAt.same {K : PySem.W.Frag} {H H' : Hp} {x : Addr} {xs : List Str} {ls : List Lt} {ts : List Tt} (s : Same H H') (h : FrmAt K H x xs ls ts) : FrmAt K H' x xs ls ts := by
  obtain ⟨dx, a, l, t, m, h1, h2, h3, h4, h5⟩ := h
  exact ⟨dx, a, l, t, m, s _ _ h1, sqt_same s h2, h3.same s, h4.same s, h5.same s⟩
inductive Flt where
  | nm (x : Str)
  | tw (x : Str)
  | un (x : Str)
  | fr (x : Str)
  | rd (zs : List Str)
def endOf (ls : List Lt) (n : Str) : Lt := (ls.find? fun q => decide (q.1 = n)).getD ("", "", "")
def stepsOf (ls : List Lt) (ts : List Tt) : List Tt := ts.map fun t => stepOf (endOf ls t.1) t
theorem endOf_ok {ls : List Lt} {n : Str} (h : n ∈ ls.map (·.1)) : endOf ls n ∈ ls ∧ (endOf ls n).1 = n := by
  obtain ⟨q, hq, e⟩ := List.mem_map.mp h
  unfold endOf
  cases z : ls.find? fun q => decide (q.1 = n) with
  | none =>
    have := List.find?_eq_none.mp z q hq
    exact absurd (decide_eq_true e) this
  | some p =>
    have z2 := List.find?_some z
    exact ⟨List.mem_of_find?_eq_some z, of_decide_eq_true z2⟩
/-- the error that is due -/
def dueF (xs : List Str) (ls : List Lt) (ts : List Tt) : Option Flt :=
  match badN (xs ++ ls.map (·.1)) with
  | some x => some (.nm x)
  | none => match again xs with
    | some x => some (.tw x)
    | none => match again (ls.map (·.1)) with
      | some x => some (.tw x)
      | none => match badE xs ls with
        | some x => some (.un x)
        | none => match badT (ls.map (·.1)) ts with
          | some x => some (.un x)
          | none => match badF ts with
            | some x => some (.fr x)
            | none => if rnd (stepsOf ls ts) xs = [] then none else some (.rd (rnd (stepsOf ls ts) xs))
/-- what is told of the error -/
def RaisedF (K : PySem.W.Frag) (H : Hp) (E : XK) : Flt → Prop
  | .nm x => ∀ (d : Addr) (H' : Hp), Same H H' → H d = none → H' d = some (.xd [("name", .str x)]) → E (.ref (CBadName K)) (some d) H'
  | .tw x => ∀ (d : Addr) (H' : Hp), Same H H' → H d = none → H' d = some (.xd [("name", .str x)]) → E (.ref (CTwiceTold K)) (some d) H'
  | .un x => ∀ (d : Addr) (H' : Hp), Same H H' → H d = none → H' d = some (.xd [("name", .str x)]) → E (.ref (CUnknownName K)) (some d) H'
  | .fr x => ∀ (d : Addr) (H' : Hp), Same H H' → H d = none → H' d = some (.xd [("name", .str x)]) → E (.ref (CBadFrame K)) (some d) H'
  | .rd zs => ∀ (d T : Addr) (H' : Hp), Same H H' → H d = none → H' d = some (.xd [("members", .ref T)]) → SqT K H' T (zs.map V.str) → E (.ref (CComesRound K)) (some d) H'
/-- lists that a frame may be asked of -/
structure FrIn (xs : List Str) (ls : List Lt) (ts : List Tt) : Prop where
  ox : ∀ x ∈ xs, Okx x
  ol : ∀ q ∈ ls, Okx q.1 ∧ Okx q.2.1 ∧ Okx q.2.2
  ot : ∀ q ∈ ts, Okx q.1 ∧ Okx q.2
  lx : xs.length ≤ 60
  ll : ls.length ≤ 60
  lt : ts.length ≤ 60
theorem ok_stepOf {q : Lt} {t : Tt} (h : Okx q.1 ∧ Okx q.2.1 ∧ Okx q.2.2) : Okx (stepOf q t).1 ∧ Okx (stepOf q t).2 := by
  unfold stepOf
  by_cases e : t.2 = ("on" : Str)
  · rw [if_pos e]
    exact ⟨h.2.1, h.2.2⟩
  · rw [if_neg e]
    exact ⟨h.2.2, h.2.1⟩
def spFI2 (K : PySem.W.Frag) : Sp := fun vs H Q E => ∃ (x s l t dx : Addr) (xs : List Str) (ls : List Lt) (ts : List Tt), vs = [.ref x, .ref s, .ref l, .ref t] ∧ H x = some (.ins (CFrame K) dx []) ∧ SqA K H s (xs.map V.str) ∧ TupsA K H l (ls.map ltV) ∧ TupsA K H t (ts.map ttV) ∧ FrIn xs ls ts ∧
  (∀ f, dueF xs ls ts = some f → RaisedF K H E f) ∧ (dueF xs ls ts = none → ∀ H', Keep x H H' → FrmAt K H' x xs ls ts → Q .non H')
section
variable {P : Program} {w : World} {K : PySem.W.Frag} {mg : Str → Option Value} {base : Heap} {f : Addr} {fd : FuncData}
theorem ok_fi2 (F : FnM K "__init__" "Frame.__init__" sFrame_Init f fd) (Y : Fx w K mg) : FnOk P w K mg base (L2.CX P w) 4 f fd ["self", "sorts", "letters", "totals"] (spFI2 K) := by
  obtain ⟨d1, F1⟩ := Y.dCheckNames
  obtain ⟨d2, F2⟩ := Y.dCheckEnds
  obtain ⟨d3, F3⟩ := Y.dCheckTotals
  obtain ⟨d4, F4⟩ := Y.dCheckSteps
  obtain ⟨d5, F5⟩ := Y.dStepOf
  have b1 := FunD.bindsN (ps := ["lists"]) F1 fun _ _ _ _ _ _ us hl => match us, hl with | [_], _ => rfl
  have b2 := FunD.bindsN (ps := ["sorts", "letters", "totals"]) F2 fun _ _ _ _ _ _ us hl => match us, hl with | [_, _, _], _ => rfl
  have b3 := FunD.bindsN (ps := ["totals"]) F3 fun _ _ _ _ _ _ us hl => match us, hl with | [_], _ => rfl
  have b4 := FunD.bindsN (ps := ["sorts", "steps"]) F4 fun _ _ _ _ _ _ us hl => match us, hl with | [_, _], _ => rfl
  have b5 := FunD.bindsN (ps := ["ends", "total"]) F5 fun _ _ _ _ _ _ us hl => match us, hl with | [_, _], _ => rfl
  have G1 : FnOk P w K mg base (L2.CX P w) 3 _ d1 ["lists"] (spCk K) := ok_ck F1 Y
  have G2 : FnOk P w K mg base (L2.CX P w) 3 _ d2 ["sorts", "letters", "totals"] (spCE2 K) := ok_ce2 F2 Y
  have G3 : FnOk P w K mg base (L2.CX P w) 3 _ d3 ["totals"] (spCT2 K) := ok_ct2 F3 Y
  have G4 : FnOk P w K mg base (L2.CX P w) 3 _ d4 ["sorts", "steps"] (spCS2 K) := ok_cs2 F4 Y
  have G5 : FnOk P w K mg base CX0 1 _ d5 ["ends", "total"] (spSO K) := ok_so F5 Y
  refine F.ok scFI (fun vs H Q E h => ?_) (fun cdv A outer s H vs Q E hr h => ?_)
  · obtain ⟨x, a, l, t, dx, xs, ls, ts, rfl, _⟩ := h
    rfl
  · have nd := scFI.nd
    have hr1 : Room 1 _ := hr.mono (by decide)
    refine ⟨_, pss_cons (ps_expr (pe_callS G1 hr (by rfl) Y.gCheckNames F1.kp b1 (fun σ => passAt (takes_of rfl rfl rfl rfl) σ) (pa_cons (pe_lst (pa_cons (pv 1) (pa_cons
          (pe_lc (own := [("letter", 6)]) (g := gName 6) (tt := tYes) (te := tOp (rIxT K) (tVar 6) (tC (.int 0))) rfl nd (pi_seqA (pv 2)) (blkOk_by (N := NFI) (sc := defScope sFrame_Init) (by decide +kernel)) (fun _ _ _ _ _ => pg_name (i := 6) nd rfl (Or.inl rfl)) (fun _ _ _ _ _ => pts_nil) (fun _ _ _ _ _ => pe_ix ix_tup (pv 6) pe_int (fun _ _ => rfl))) pa_nil))) pa_nil)))
      (pss_cons (ps_expr (pe_callS G2 hr (by rfl) Y.gCheckEnds F2.kp b2 (fun σ => passAt (takes_of rfl rfl rfl rfl) σ) (pa_cons (pv 1) (pa_cons (pv 2) (pa_cons (pv 3) pa_nil)))))
      (pss_cons (ps_setLc (i := 4) (own := [("name", 7), ("word", 8)]) (g := gTup K 2 (gCons (gName 7) (gCons (gName 8) gNil))) (tt := tYes) (te := tTup (tCons (tVar 7) (tCons (tVar 8) tNil))) rfl nd rfl rfl (by rfl) (pi_seqA (pv 3)) (blkOk_by (N := NFI) (sc := defScope sFrame_Init) (by decide +kernel)) (fun _ _ _ _ _ => pg_tup rfl (pgs_cons (pg_name (i := 7) nd rfl (Or.inl rfl)) (pgs_cons (pg_name (i := 8) nd rfl (Or.inl rfl)) pgs_nil))) (fun _ _ _ _ _ => pts_nil) (fun _ _ _ _ _ => pe_tup (pa_cons (pv 7) (pa_cons (pv 8) pa_nil))))
      (pss_cons (ps_expr (pe_callS G3 hr (by rfl) Y.gCheckTotals F3.kp b3 (fun σ => passAt (takes_of rfl rfl rfl rfl) σ) (pa_cons (pv 4) pa_nil)))
      (pss_cons (ps_set (i := 5) nd rfl (Or.inr rfl) (pe_dc (own := [("name", 7), ("first", 9), ("second", 10)]) (g := gTup K 3 (gCons (gName 7) (gCons (gName 9) (gCons (gName 10) gNil)))) (tt := tYes) (tk := tVar 7) (tv := tTup (tCons (tVar 9) (tCons (tVar 10) tNil))) rfl nd (pi_seqA (pv 2)) (blkOk_by (N := NFI) (sc := defScope sFrame_Init) (by decide +kernel))
          (fun _ _ _ _ _ => pg_tup rfl (pgs_cons (pg_name (i := 7) nd rfl (Or.inl rfl)) (pgs_cons (pg_name (i := 9) nd rfl (Or.inl rfl)) (pgs_cons (pg_name (i := 10) nd rfl (Or.inl rfl)) pgs_nil)))) (fun _ _ _ _ _ => pts_nil) (fun _ _ _ _ _ => pv 7) (fun _ _ _ _ _ => pe_tup (pa_cons (pv 9) (pa_cons (pv 10) pa_nil)))))
      (pss_cons (ps_expr (pe_callS G4 hr (by rfl) Y.gCheckSteps F4.kp b4 (fun σ => passAt (takes_of rfl rfl rfl rfl) σ) (pa_cons (pv 1) (pa_cons
          (pe_lc (own := [("total", 11)]) (g := gName 11) (tt := tYes) (te := tCall (spSO K) [] E0 (tCons (tVar 5) (tCons (tVar 11) tNil))) rfl nd (pi_list (pv 4)) (blkOk_by (N := NFI) (sc := defScope sFrame_Init) (by decide +kernel)) (fun _ _ _ _ _ => pg_name (i := 11) nd rfl (Or.inl rfl)) (fun _ _ _ _ _ => pts_nil)
            (fun _ _ _ _ _ => pe_call G5 hr1 (by rfl) Y.gStepOf F5.kp b5 .nil pass0 (pa_cons (pv 5) (pa_cons (pv 11) pa_nil)))) pa_nil))))
      (pss_cons (ps_fld (pv 0) (pe_callTy call_tupA (by rfl) Y.bTuple (by decide +kernel) (pa_cons (pv 1) pa_nil)) rfl)
      (pss_cons (ps_fld (pv 0) (pe_callTy call_tupA (by rfl) Y.bTuple (by decide +kernel) (pa_cons
          (pe_lc (own := [("name", 7), ("first", 9), ("second", 10)]) (g := gTup K 3 (gCons (gName 7) (gCons (gName 9) (gCons (gName 10) gNil)))) (tt := tYes) (te := tTup (tCons (tVar 7) (tCons (tVar 9) (tCons (tVar 10) tNil)))) rfl nd (pi_seqA (pv 2)) (blkOk_by (N := NFI) (sc := defScope sFrame_Init) (by decide +kernel))
            (fun _ _ _ _ _ => pg_tup rfl (pgs_cons (pg_name (i := 7) nd rfl (Or.inl rfl)) (pgs_cons (pg_name (i := 9) nd rfl (Or.inl rfl)) (pgs_cons (pg_name (i := 10) nd rfl (Or.inl rfl)) pgs_nil)))) (fun _ _ _ _ _ => pts_nil) (fun _ _ _ _ _ => pe_tup (pa_cons (pv 7) (pa_cons (pv 9) (pa_cons (pv 10) pa_nil))))) pa_nil)) rfl)
      (pss_cons (ps_fld (pv 0) (pe_callTy call_tupA (by rfl) Y.bTuple (by decide +kernel) (pa_cons (pv 4) pa_nil)) rfl)
      (pss_one (ps_fld (pv 0) (pv 5) rfl)))))))))), ?_⟩
    obtain ⟨x, a, l, t, dx, xs, ls, ts, rfl, hx, hs, hl, ht, ok, kE, kQ⟩ := h
    obtain ⟨as, q, la, g⟩ := id hl
    rw [List.length_map] at la
    obtain ⟨bs, q2, lb, g2⟩ := id ht
    rw [List.length_map] at lb
    have n60 := ok.ll
    have t60 := ok.lt
    refine ⟨_, rfl, _, rfl, l, _, rfl, q, fun J GG wk gk D hD => ?_⟩
    refine lc_it wk (fun i G' => G' D = some (.lst (((ls.take i).map (·.1)).map V.str)) ∧ Same H G') ⟨upd_same, same_upd hD⟩ (fun i G' _ p => gk G' p.2) ?_ ?_
    · rintro i v G1 G' hi ⟨e, s2⟩ ⟨rfl, ev⟩
      obtain ⟨b, eb, rfl⟩ := ref_at ev
      obtain ⟨vs, e1, hT⟩ := g i b eb
      obtain ⟨lt, e2, rfl⟩ := lt_at e1
      have li := (List.getElem?_eq_some_iff.mp e2).1
      refine ⟨rfl, _, rfl, b, _, 0, _, rfl, rfl, sqt_same s2 hT, rfl, _, e, ?_, ?_, same_put hD s2⟩
      · rw [List.length_map, List.length_map, List.length_take]
        exact small1000 (by omega)
      · rw [upd_same, List.take_add_one, e2, List.map_append, List.map_append]
        rfl
    rintro G0 ⟨eD, s0⟩
    rw [List.length_map, la, List.take_length] at eD
    refine ⟨szl (by show 2 ≤ 1000; decide), fun p hp => ?_⟩
    have sp := s0.trans (same_upd (o := .lst [V.ref a, V.ref D]) hp)
    refine ⟨p, a, D, xs, ls.map (·.1), rfl, SqL.of upd_same, hs.same sp, .inl (SqL.of (same_upd hp _ _ eD)), fun x hx => ?_, by have := ok.lx; omega, by rw [List.length_map]; omega, ?_⟩
    · rcases List.mem_append.mp hx with z | z
      · exact (ok.ox x z).l
      · obtain ⟨q, hq, e⟩ := List.mem_map.mp z
        rw [← e]
        exact (ok.ol q hq).1.l
    clear eD s0 hD
    unfold dueF at kE kQ
    cases e1 : badN (xs ++ ls.map (·.1)) with
    | some z =>
      rw [e1] at kE
      exact fun d H' s hd e => kE _ rfl d H' (sp.trans s) (none_of sp hd) e
    | none =>
    rw [e1] at kE kQ
    dsimp only at kE kQ ⊢
    cases e2 : again xs with
    | some z =>
      rw [e2] at kE
      exact fun d H' s hd e => kE _ rfl d H' (sp.trans s) (none_of sp hd) e
    | none =>
    rw [e2] at kE kQ
    dsimp only at kE kQ ⊢
    cases e3 : again (ls.map (·.1)) with
    | some z =>
      rw [e3] at kE
      exact fun d H' s hd e => kE _ rfl d H' (sp.trans s) (none_of sp hd) e
    | none =>
    rw [e3] at kE kQ
    dsimp only at kE kQ ⊢
    intro H1 s1
    replace s1 := sp.trans s1
    clear sp hp
    refine ⟨_, rfl, _, rfl, _, rfl, a, l, t, xs, ls, ts, rfl, hs.same s1, hl.same s1, ht.same s1, n60, ?_⟩
    cases e4 : badE xs ls with
    | some z =>
      rw [e4] at kE
      exact fun d H' s hd e => kE _ rfl d H' (s1.trans s) (none_of s1 hd) e
    | none =>
    rw [e4] at kE kQ
    dsimp only at kE kQ ⊢
    cases e5 : badT (ls.map (·.1)) ts with
    | some z =>
      rw [e5] at kE
      exact fun d H' s hd e => kE _ rfl d H' (s1.trans s) (none_of s1 hd) e
    | none =>
    rw [e5] at kE kQ
    dsimp only at kE kQ ⊢
    intro H2 s2
    replace s2 := s1.trans s2
    clear s1
    refine ⟨_, rfl, t, _, rfl, q2.same s2, fun J GG wk gk T hT => ?_⟩
    refine lc_it wk (fun i G => ∃ us : List Addr, G T = some (.lst (us.map V.ref)) ∧ AllT K G us ((ts.take i).map ttV) ∧ Same H2 G) ⟨[], upd_same, AllT.nil, same_upd hT⟩ (fun i G _ ⟨_, _, _, p⟩ => gk G p) ?_ ?_
    · rintro i v G G' hi ⟨us, e, hA, s3⟩ ⟨rfl, ev⟩
      obtain ⟨b, eb, rfl⟩ := ref_at ev
      obtain ⟨vs, e1, hB⟩ := g2 i b eb
      obtain ⟨tt, e2, rfl⟩ := tt_at e1
      have li := (List.getElem?_eq_some_iff.mp e2).1
      refine ⟨b, _, rfl, sqt_same (s2.trans s3) hB, rfl, _, _, rfl, _, _, rfl, rfl, rfl, ?_⟩
      refine ⟨_, rfl, _, rfl, szl (by show 2 ≤ 1000; decide), fun T2 hT2 => ?_⟩
      have eT := same_upd (o := .tup [V.str tt.1, V.str tt.2]) hT2 _ _ e
      refine ⟨_, eT, ?_, us ++ [T2], ?_, ?_, same_put hT (s3.trans (same_upd hT2))⟩
      · have z := hA.1
        rw [List.length_map, List.length_take] at z
        rw [List.length_map]
        exact small1000 (by omega)
      · rw [upd_same, List.map_append]
        rfl
      · rw [List.take_add_one, e2, List.map_append]
        exact ((hA.same (same_upd hT2)).snoc (SqT.of upd_same)).put eT
    rintro G3 ⟨us, eT, hA, s3⟩
    rw [List.length_map, lb, List.take_length] at hA
    have hTt : TupsAt K G3 T (ts.map ttV) := hA.tups (SqL.of eT)
    replace s3 := s2.trans s3
    clear hT s2
    refine ⟨_, rfl, T, ts, rfl, hTt, ok.ot, ?_⟩
    cases e6 : badF ts with
    | some z =>
      rw [e6] at kE
      exact fun d H' s hd e => kE _ rfl d H' (s3.trans s) (none_of s3 hd) e
    | none =>
    rw [e6] at kE kQ
    dsimp only at kE kQ ⊢
    intro H4 s4
    replace eT := s4 _ _ eT
    replace hA := hA.same s4
    replace s4 := s3.trans s4
    clear s3 hTt
    have ndl : (ls.map (·.1)).Nodup := again_nodup.mp e3
    refine ⟨_, rfl, l, _, rfl, q.same s4, fun J GG wk gk N hN => ?_⟩
    refine dc_it wk (fun i G => ∃ ws : List Addr, G N = some (.dK (kvL (ls.take i) ws)) ∧ AllT K G ws ((ls.take i).map endV) ∧ Same H4 G) ⟨[], upd_same, AllT.nil, same_upd hN⟩ (fun i G _ ⟨_, _, _, p⟩ => gk G p) ?_ ?_
    · rintro i v G G' hi ⟨ws, e, hW, s5⟩ ⟨rfl, ev⟩
      obtain ⟨b, eb, rfl⟩ := ref_at ev
      obtain ⟨vs, e1, hB⟩ := g i b eb
      obtain ⟨lt, e2, rfl⟩ := lt_at e1
      have li := (List.getElem?_eq_some_iff.mp e2).1
      refine ⟨b, _, rfl, sqt_same (s4.trans s5) hB, rfl, _, _, rfl, _, _, rfl, _, _, rfl, rfl, rfl, _, rfl, _, rfl, _, rfl, szl (by show 2 ≤ 1000; decide), fun T2 hT2 => ?_⟩
      have eN := same_upd (o := .tup [V.str lt.2.1, V.str lt.2.2]) hT2 _ _ e
      have lw : ws.length = (ls.take i).length := by rw [hW.1, List.length_map]
      refine ⟨_, .inr lt.1, rfl, eN, ?_, ws ++ [T2], ?_, ?_, same_put hN (s5.trans (same_upd hT2))⟩
      · have := kvL_len (ls.take i) ws
        rw [List.length_take] at this
        exact small1000 (by omega)
      · have hno : lt.1 ∉ (ls.take i).map (·.1) := by
          intro z
          obtain ⟨i2, l2, e3⟩ := List.getElem_of_mem z
          rw [List.length_map, List.length_take] at l2
          refine List.pairwise_iff_getElem.mp ndl i2 i (by rw [List.length_map]; omega) (by rw [List.length_map]; omega) (by omega) ?_
          rw [List.getElem_map, List.getElem_take] at e3
          rw [List.getElem_map, List.getElem_map, e3]
          rw [List.getElem?_eq_getElem li] at e2
          rw [Option.some.inj e2]
        rw [upd_same, putK_new _ (kvL_no _ ws hno), List.take_add_one, e2]
        show some (HO.dK _) = some (.dK (kvL (ls.take i ++ [lt]) _))
        rw [kvL_snoc _ _ _ _ lw.symm]
      · rw [List.take_add_one, e2, List.map_append]
        exact ((hW.same (same_upd hT2)).snoc (SqT.of upd_same)).putD eN
    rintro G5 ⟨ws, eN, hW, s5⟩
    rw [List.length_map, la, List.take_length] at eN hW
    replace eT := s5 _ _ eT
    replace hA := hA.same s5
    replace s5 := s4.trans s5
    clear s4 hN
    have hN5 : LdAt K G5 N ls := ⟨ws, eN, by rw [hW.1, List.length_map], fun i u z => by
      obtain ⟨vs, a1, b1⟩ := hW.2 i u z
      rw [List.getElem?_map] at a1
      cases e : ls[i]? with
      | none => rw [e] at a1; cases a1
      | some q => rw [e] at a1; exact ⟨q, rfl, Option.some.inj a1 ▸ b1⟩⟩
    have mem5 : ∀ tt ∈ ts, tt.1 ∈ ls.map (·.1) := fun tt htt => by
      obtain ⟨i, li, e⟩ := List.getElem_of_mem htt
      have z := firstL_none e5 i tt (by rw [List.getElem?_eq_getElem li, e])
      by_cases c : tt.1 ∈ ls.map (·.1)
      · exact c
      · rw [if_pos c] at z
        cases z
    refine ⟨_, rfl, _, rfl, T, rfl, ⟨_, SqL.of eT⟩, fun U hU => ?_⟩
    have lu : us.length = ts.length := by rw [hA.1, List.length_map]
    refine lc_list (K := K) (a := T) (xs := us.map V.ref) (fun i G => ∃ zs : List Addr, G U = some (.lst (zs.map V.ref)) ∧ AllT K G zs (((stepsOf ls ts).take i).map ttV) ∧ Same G5 G) ⟨[], upd_same, AllT.nil, same_upd hU⟩ (fun i G _ ⟨_, _, _, p⟩ => p.seq (SqL.of eT)) ?_ ?_
    · rintro i v G hi ⟨zs, e, hZ, s6⟩
      obtain ⟨b, eb, rfl⟩ := ref_at hi
      obtain ⟨vs, e1, hB⟩ := hA.2 i b eb
      obtain ⟨tt, e2, rfl⟩ := tt_at e1
      have li := (List.getElem?_eq_some_iff.mp e2).1
      have mt := mem5 tt (List.mem_of_getElem? e2)
      obtain ⟨mq, nq⟩ := endOf_ok mt
      obtain ⟨j, lj, ej⟩ := List.getElem_of_mem mq
      obtain ⟨pa, dg, hp⟩ := (hN5.same s6).get ndl (show ls[j]? = some (endOf ls tt.1) by rw [List.getElem?_eq_getElem lj, ej])
      refine ⟨rfl, _, rfl, _, rfl, N, b, pa, endOf ls tt.1, tt, rfl, dg, hp, sqt_same s6 hB, nq.symm, fun T2 G' s7 hT2 => ?_⟩
      have eU := s7 _ _ e
      refine ⟨_, eU, ?_, zs ++ [T2], ?_, ?_, same_put hU (s6.trans s7)⟩
      · have z := hZ.1
        unfold stepsOf at z
        rw [List.length_map, List.length_take, List.length_map] at z
        rw [List.length_map]
        exact small1000 (by omega)
      · rw [upd_same, List.map_append]
        rfl
      · have es : (stepsOf ls ts)[i]? = some (stepOf (endOf ls tt.1) tt) := by
          unfold stepsOf
          rw [List.getElem?_map, e2]
          rfl
        rw [List.take_add_one, es, List.map_append]
        exact ((hZ.same s7).snoc hT2).put eU
    rintro G6 ⟨zs, eU, hZ, s6⟩
    rw [List.length_map, lu, show ts.length = (stepsOf ls ts).length by unfold stepsOf; rw [List.length_map], List.take_length] at hZ
    replace eT := s6 _ _ eT
    replace hA := hA.same s6
    replace hN5 := hN5.same s6
    replace s6 := s5.trans s6
    clear s5 hU
    refine ⟨a, U, xs, stepsOf ls ts, rfl, hs.same s6, ok.ox, by have := ok.lx; omega, hZ.tups (SqL.of eU), fun z hz => ?_, fun ne => ?_, fun em => ?_⟩
    · unfold stepsOf at hz
      obtain ⟨tt, htt, rfl⟩ := List.mem_map.mp hz
      exact ok_stepOf (ok.ol _ (endOf_ok (mem5 tt htt)).1)
    · rw [if_neg ne] at kE
      exact fun d T' H' s hd e hT' => kE _ rfl d T' H' (s6.trans s) (none_of s6 hd) e hT'
    rw [if_pos em] at kQ
    intro H7 s7
    replace eT := s7 _ _ eT
    replace hA := hA.same s7
    replace hN5 := hN5.same s7
    replace s7 := s6.trans s7
    clear s6 eU hZ
    have x1 := s7 _ _ hx
    have hs1 := hs.same s7
    have hl1 := hl.same s7
    have k1 : Keep x H H7 := .of s7
    clear s7
    -- the fields
    refine ⟨_, rfl, a, _, rfl, hs1, fun S G1 s8 hS => ⟨_, rfl, x, CFrame K, dx, _, rfl, s8 _ _ x1, Y.cFrame, Y.nFrameSorts, (by show 0 < 1000; decide), ?_⟩⟩
    have kk : Keep x H7 (upd G1 x (.ins (CFrame K) dx [("_sorts", .ref S)])) := (Keep.of s8).trans .put
    have hx7 : ∃ u, H7 x = some u ∧ isIns u = true := ⟨_, x1, rfl⟩
    replace hl1 := kk.tupsA hx7 hl1
    replace eT := kk.one hx7 eT rfl
    replace hA := kk.allT hx7 hA
    replace hN5 := kk.ld hx7 hN5
    replace hS := (Keep.put (x := x) (H := G1) (o := HO.ins (CFrame K) dx [("_sorts", .ref S)])).sqt ⟨_, s8 _ _ x1, rfl⟩ hS
    replace k1 := k1.trans kk
    replace x1 : upd G1 x (.ins (CFrame K) dx [("_sorts", .ref S)]) x = some (.ins (CFrame K) dx [("_sorts", .ref S)]) := upd_same
    obtain ⟨G2, e1⟩ : ∃ Z, Z = upd G1 x (.ins (CFrame K) dx [("_sorts", .ref S)]) := ⟨_, rfl⟩
    change tSeq _ _ _ _ (upd G1 x (.ins (CFrame K) dx [("_sorts", .ref S)]))
    rw [← e1] at hl1 eT hA hN5 hS k1 x1 ⊢
    clear kk e1 hs1 s8 hx7
    obtain ⟨as2, q2, la2, g2⟩ := hl1
    rw [List.length_map] at la2
    refine ⟨_, rfl, l, _, rfl, q2, fun J GG wk gk D hD => ?_⟩
    refine lc_it wk (fun i G => ∃ zs : List Addr, G D = some (.lst (zs.map V.ref)) ∧ AllT K G zs ((ls.take i).map ltV) ∧ Same G2 G) ⟨[], upd_same, AllT.nil, same_upd hD⟩ (fun i G _ ⟨_, _, _, p⟩ => gk G p) ?_ ?_
    · rintro i v G G' hi ⟨zs, e, hZ, s2⟩ ⟨rfl, ev⟩
      obtain ⟨b, eb, rfl⟩ := ref_at ev
      obtain ⟨vs, e1, hT⟩ := g2 i b eb
      obtain ⟨lt, e2, rfl⟩ := lt_at e1
      have li : i < ls.length := (List.getElem?_eq_some_iff.mp e2).1
      refine ⟨b, _, rfl, sqt_same s2 hT, rfl, _, _, rfl, _, _, rfl, _, _, rfl, rfl, rfl, ?_⟩
      refine ⟨_, rfl, _, rfl, _, rfl, szl (by show 3 ≤ 1000; decide), fun T2 hT2 => ?_⟩
      have eD := same_upd (o := .tup [V.str lt.1, V.str lt.2.1, V.str lt.2.2]) hT2 _ _ e
      refine ⟨_, eD, ?_, zs ++ [T2], ?_, ?_, same_put hD (s2.trans (same_upd hT2))⟩
      · have z := hZ.1
        rw [List.length_map, List.length_take] at z
        rw [List.length_map]
        exact small1000 (by omega)
      · rw [upd_same, List.map_append]
        rfl
      · rw [List.take_add_one, e2, List.map_append]
        exact ((hZ.same (same_upd hT2)).snoc (SqT.of upd_same)).put eD
    rintro G3 ⟨zs, eD, hZ, s2⟩
    rw [List.length_map, la2, List.take_length] at hZ
    replace x1 := s2 _ _ x1
    replace eT := s2 _ _ eT
    replace hA := hA.same s2
    replace hN5 := hN5.same s2
    replace hS := sqt_same s2 hS
    replace k1 := k1.trans (Keep.of s2)
    clear s2 hD q2 g2 la2
    refine ⟨D, _, rfl, .inl (SqL.of eD), fun L G4 s8 hL => ⟨_, rfl, x, CFrame K, dx, _, rfl, s8 _ _ x1, Y.cFrame, Y.nFrameLetters, (by show 1 < 1000; decide), ?_⟩⟩
    have kk : Keep x G3 (upd G4 x (.ins (CFrame K) dx [("_sorts", .ref S), ("_letters", .ref L)])) := (Keep.of s8).trans .put
    have hx7 : ∃ u, G3 x = some u ∧ isIns u = true := ⟨_, x1, rfl⟩
    replace eT := kk.one hx7 eT rfl
    replace hA := kk.allT hx7 hA
    replace hN5 := kk.ld hx7 hN5
    replace hS := kk.sqt hx7 hS
    have hL1 : TupsT K (upd G4 x (.ins (CFrame K) dx [("_sorts", .ref S), ("_letters", .ref L)])) L (ls.map ltV) :=
      ⟨zs, (Keep.put (x := x) (H := G4) (o := HO.ins (CFrame K) dx [("_sorts", .ref S), ("_letters", .ref L)])).sqt ⟨_, s8 _ _ x1, rfl⟩ hL, kk.allT hx7 hZ⟩
    replace k1 := k1.trans kk
    replace x1 : upd G4 x (.ins (CFrame K) dx [("_sorts", .ref S), ("_letters", .ref L)]) x = some (.ins (CFrame K) dx [("_sorts", .ref S), ("_letters", .ref L)]) := upd_same
    obtain ⟨G5, e1⟩ : ∃ Z, Z = upd G4 x (.ins (CFrame K) dx [("_sorts", .ref S), ("_letters", .ref L)]) := ⟨_, rfl⟩
    change tSeq _ _ _ _ (upd G4 x (.ins (CFrame K) dx [("_sorts", .ref S), ("_letters", .ref L)]))
    rw [← e1] at eT hA hN5 hS hL1 k1 x1 ⊢
    clear kk e1 s8 hx7 hL
    refine ⟨_, rfl, T, _, rfl, .inl (SqL.of eT), fun U G6 s8 hU => ⟨_, rfl, x, CFrame K, dx, _, rfl, s8 _ _ x1, Y.cFrame, Y.nFrameTotals, (by show 2 < 1000; decide), ?_⟩⟩
    refine ⟨_, rfl, _, rfl, x, CFrame K, dx, _, rfl, upd_same, Y.cFrame, Y.nFrameEnds, (by show 3 < 1000; decide), ?_⟩
    have kk := ((Keep.of (x := x) s8).trans (.put (o := .ins (CFrame K) dx [("_sorts", .ref S), ("_letters", .ref L), ("_totals", .ref U)]))).trans (.put (o := .ins (CFrame K) dx [("_sorts", .ref S), ("_letters", .ref L), ("_totals", .ref U), ("_ends", .ref N)]))
    have kk2 := ((Keep.refl (x := x) (H := G6)).trans (.put (o := .ins (CFrame K) dx [("_sorts", .ref S), ("_letters", .ref L), ("_totals", .ref U)]))).trans (.put (o := .ins (CFrame K) dx [("_sorts", .ref S), ("_letters", .ref L), ("_totals", .ref U), ("_ends", .ref N)]))
    have hx7 : ∃ u, G5 x = some u ∧ isIns u = true := ⟨_, x1, rfl⟩
    exact kQ rfl _ (k1.trans kk) ⟨dx, S, L, U, N, upd_same, kk.sqt hx7 hS, kk.tupsT hx7 hL1, ⟨us, kk2.sqt ⟨_, s8 _ _ x1, rfl⟩ hU, kk.allT hx7 hA⟩, kk.ld hx7 hN5⟩
end
end K37

namespace K37
open PySem PySem.Spec PyProof.Rows L2 Ow Xv
/-! ### the methods of a frame -/
theorem passX {X : Cx} : Passes (L2.CX X.prog X.w) X E0 := fun _ _ _ _ _ _ _ h => by
  obtain ⟨_, _, _, _, _, _, _, _, _, _, _, _, e⟩ := h
  exact e.elim
/-- a frame that has been made of these -/
structure GdF (xs : List Str) (ls : List Lt) (ts : List Tt) : Prop where
  fi : FrIn xs ls ts
  no : dueF xs ls ts = none
theorem GdF.parts {xs : List Str} {ls : List Lt} {ts : List Tt} (g : GdF xs ls ts) : badN (xs ++ ls.map (·.1)) = none ∧ again xs = none ∧ again (ls.map (·.1)) = none ∧ badE xs ls = none ∧ badT (ls.map (·.1)) ts = none ∧ badF ts = none ∧ rnd (stepsOf ls ts) xs = [] := by
  have h := g.no
  unfold dueF at h
  cases e1 : badN (xs ++ ls.map (·.1)) with
  | some z => rw [e1] at h; cases h
  | none =>
  rw [e1] at h
  cases e2 : again xs with
  | some z => rw [e2] at h; cases h
  | none =>
  rw [e2] at h
  cases e3 : again (ls.map (·.1)) with
  | some z => rw [e3] at h; cases h
  | none =>
  rw [e3] at h
  cases e4 : badE xs ls with
  | some z => rw [e4] at h; cases h
  | none =>
  rw [e4] at h
  cases e5 : badT (ls.map (·.1)) ts with
  | some z => rw [e5] at h; cases h
  | none =>
  rw [e5] at h
  cases e6 : badF ts with
  | some z => rw [e6] at h; cases h
  | none =>
  rw [e6] at h
  refine ⟨rfl, rfl, rfl, rfl, rfl, rfl, ?_⟩
  dsimp only at h
  by_cases em : rnd (stepsOf ls ts) xs = []
  · exact em
  · rw [if_neg em] at h
    cases h
theorem GdF.nd {xs : List Str} {ls : List Lt} {ts : List Tt} (g : GdF xs ls ts) : (ls.map (·.1)).Nodup := again_nodup.mp g.parts.2.2.1
theorem badT_mem {ls : List Lt} {ts : List Tt} (h : badT (ls.map (·.1)) ts = none) : ∀ tt ∈ ts, tt.1 ∈ ls.map (·.1) := fun tt htt => by
  obtain ⟨i, li, e⟩ := List.getElem_of_mem htt
  have z := firstL_none h i tt (by rw [List.getElem?_eq_getElem li, e])
  by_cases c : tt.1 ∈ ls.map (·.1)
  · exact c
  · rw [if_pos c] at z
    cases z
theorem GdF.mem {xs : List Str} {ls : List Lt} {ts : List Tt} (g : GdF xs ls ts) : ∀ tt ∈ ts, tt.1 ∈ ls.map (·.1) := badT_mem g.parts.2.2.2.2.1
theorem kvL_some {x : Str} : ∀ {ls : List Lt} {as : List Addr}, as.length = ls.length → x ∈ ls.map (·.1) → (valV (kvL ls as) (.inr x)).isSome = true
  | [], _, _, h => absurd h List.not_mem_nil
  | _ :: _, [], l, _ => by cases l
  | q :: ls, a :: as, l, h => by
    show (valV ((.inr q.1, .ref a) :: kvL ls as) (.inr x)).isSome = true
    by_cases e : (.inr q.1 : Key) = .inr x
    · rw [valV_pos (p := ((Sum.inr q.1 : Key), V.ref a)) e]
      rfl
    · rw [valV_neg e]
      refine kvL_some (by simpa using l) ?_
      rcases List.mem_cons.mp h with z | z
      · exact absurd (by rw [z]) e
      · exact z
theorem isTx_str (z : Str) (xs : List Str) : isTx (.str z) xs = decide (z ∈ xs) := by
  unfold isTx
  induction xs with
  | nil => rfl
  | cons x xs ih =>
    rw [List.any_cons, ih]
    by_cases h : z = x
    · subst h
      simp
    · have h2 : ¬ (V.str z = V.str x) := fun e => h (V.str.inj e)
      rw [decide_eq_false h2, Bool.false_or]
      simp [h]
theorem isTx_no {v : V} (h : ∀ z, v ≠ .str z) (xs : List Str) : isTx v xs = false := by
  unfold isTx
  rw [List.any_eq_false]
  intro z _
  simpa using h z
theorem scHS : FnScope ["self", "value"] ["self", "value"] (defScope sFrame_HasSort) := ⟨rfl, rfl, rfl, by decide +kernel, rfl, by decide +kernel, by decide +kernel⟩
theorem scHL : FnScope ["self", "value"] ["self", "value"] (defScope sFrame_HasLetter) := ⟨rfl, rfl, rfl, by decide +kernel, rfl, by decide +kernel, by decide +kernel⟩
theorem scEn : FnScope ["self", "name"] ["self", "name"] (defScope sFrame_Ends) := ⟨rfl, rfl, rfl, by decide +kernel, rfl, by decide +kernel, by decide +kernel⟩
def spHS (K : PySem.W.Frag) : Sp := fun vs H Q _ => ∃ (x : Addr) (v : V) (d : PyData) (xs : List Str) (ls : List Lt) (ts : List Tt), vs = [.ref x, v] ∧ FrmAt K H x xs ls ts ∧ Va K H v d ∧ Q (.bl (isTx v xs)) H
def spHL (K : PySem.W.Frag) : Sp := fun vs H Q _ => ∃ (x : Addr) (v : V) (d : PyData) (xs : List Str) (ls : List Lt) (ts : List Tt), vs = [.ref x, v] ∧ FrmAt K H x xs ls ts ∧ Va K H v d ∧ Q (.bl (isTx v (ls.map (·.1)))) H
def spEn (K : PySem.W.Frag) : Sp := fun vs H Q E => ∃ (x : Addr) (v : V) (d : PyData) (xs : List Str) (ls : List Lt) (ts : List Tt), vs = [.ref x, v] ∧ FrmAt K H x xs ls ts ∧ (ls.map (·.1)).Nodup ∧ Va K H v d ∧
  (isTx v (ls.map (·.1)) = false → ∀ (d : Addr) (H' : Hp), Same H H' → H d = none → H' d = some (.xd [("name", v)]) → E (.ref (CUnknownName K)) (some d) H') ∧ ∀ q ∈ ls, v = .str q.1 → ∀ t, SqT K H t (endV q) → Q (.ref t) H
section
variable {P : Program} {w : World} {K : PySem.W.Frag} {mg : Str → Option Value} {base : Heap} {f : Addr} {fd : FuncData}
theorem ok_hs (F : FnM K "has_sort" "Frame.has_sort" sFrame_HasSort f fd) (Y : Fx w K mg) : FnOk P w K mg base CX0 1 f fd ["self", "value"] (spHS K) := by
  refine okD F scHS (fun vs H Q E h => ?_) (fun cdv A outer s H vs Q E hr h => ?_)
  · obtain ⟨x, v, d, xs, ls, ts, rfl, _⟩ := h
    rfl
  · have hu := hu_of hr
    refine ⟨_, pss_one (ps_ret (pe_cmpR (op_inV hu) (pv 1) (pe_fld (pv 0) rfl) (by rfl))), ?_⟩
    obtain ⟨x, v, d, xs, ls, ts, rfl, ⟨dx, a, l, t, m, h1, h2, h3, h4, h5⟩, hv, k⟩ := h
    exact ⟨_, rfl, _, rfl, x, _, dx, _, _, rfl, h1, Y.cFrame, Y.nFrameSorts, rfl, d, a, xs, rfl, .inr h2, hv, k⟩
theorem ok_hl (F : FnM K "has_letter" "Frame.has_letter" sFrame_HasLetter f fd) (Y : Fx w K mg) : FnOk P w K mg base CX0 1 f fd ["self", "value"] (spHL K) := by
  refine okD F scHL (fun vs H Q E h => ?_) (fun cdv A outer s H vs Q E hr h => ?_)
  · obtain ⟨x, v, d, xs, ls, ts, rfl, _⟩ := h
    rfl
  · have hu := hu_of hr
    refine ⟨_, pss_one (ps_ret (pe_and (pe_callB call_isi (by rfl) Y.bIsinstance boot_isinstance (pa_cons (pv 1) (pa_cons (pe_bltn (v := .ty "str") (u := .type "str") (by rfl) Y.bStr (by decide +kernel) rfl) pa_nil)))
      (pe_one (pe_cmp (pc_din hu (pv 1) (pe_fld (pv 0) rfl)))))), ?_⟩
    obtain ⟨x, v, d, xs, ls, ts, rfl, ⟨dx, a, l, t, m, h1, h2, h3, h4, ⟨as, h5, h6, h7⟩⟩, hv, k⟩ := h
    obtain ⟨T, hT, kb, _⟩ := hv.ty
    refine ⟨_, rfl, _, _, _, _, kdStr d, rfl, .ty _, hT, kit_ty kb, _, rfl, ?_⟩
    rcases hv.strD with ⟨z, rfl, rfl⟩ | ⟨ez, hz⟩
    · rw [show kdStr (PyData.str z) = true from rfl, if_pos rfl]
      refine ⟨_, rfl, _, rfl, x, _, dx, _, _, rfl, h1, Y.cFrame, Y.nFrameEnds, rfl, m, _, rfl, DGet.k (k := .inr z) h5, ?_⟩
      rw [isTx_str] at k
      by_cases e : z ∈ ls.map (·.1)
      · rw [kvL_some h6 e]
        rw [decide_eq_true e] at k
        exact k
      · rw [kvL_no ls as e]
        rw [decide_eq_false e] at k
        exact k
    · rw [ez, if_neg Bool.false_ne_true]
      rw [isTx_no hz] at k
      exact k
theorem ok_en (F : FnM K "ends" "Frame.ends" sFrame_Ends f fd) (Y : Fx w K mg) : FnOk P w K mg base (L2.CX P w) 3 f fd ["self", "name"] (spEn K) := by
  obtain ⟨d1, F1⟩ := Y.dFrame_HasLetter
  have b1 := FunD.bindsN (ps := ["self", "value"]) F1 fun _ _ _ _ _ _ us hl => match us, hl with | [_, _], _ => rfl
  have G1 : FnOk P w K mg base CX0 1 _ d1 ["self", "value"] (spHL K) := ok_hl F1 Y
  refine F.ok scEn (fun vs H Q E h => ?_) (fun cdv A outer s H vs Q E hr h => ?_)
  · obtain ⟨x, v, d, xs, ls, ts, rfl, _⟩ := h
    rfl
  · have hu := hu_of hr
    have hr1 : Room 1 _ := hr.mono (by decide)
    refine ⟨_, pss_cons (ps_if (pt_not (pt_val (pe_meth (pv 0) Y.cFrame Y.mFrame_HasLetter G1 hr1 b1 .nil pass0 (pa_cons (pv 1) pa_nil)))) (pss_one (ps_raise rfl (takes_of rfl rfl rfl rfl) (pmk_ra (raUN Y) hr (by rfl) Y.gUnknownName (pa_cons (pv 1) pa_nil)))) pss_nil)
      (pss_one (ps_ret (pe_dget hu (pe_fld (pv 0) rfl) (pv 1) nosl))), ?_⟩
    obtain ⟨x, v, d, xs, ls, ts, rfl, hF, nd, hv, kE, kQ⟩ := h
    obtain ⟨dx, a, l, t, m, h1, h2, h3, h4, h5⟩ := id hF
    refine ⟨_, rfl, x, dx, _, rfl, h1, rfl, _, rfl, x, v, d, xs, ls, ts, rfl, hF, hv, _, rfl, ?_⟩
    cases c : isTx v (ls.map (·.1)) with
    | false =>
      refine iteT ?_
      exact ⟨_, rfl, (by show 1 ≤ 1000; decide), fun q hq => mkO_at (fun d H' s hd e => kE c d H' s hd e) q hq⟩
    | true =>
      refine iteF ?_
      obtain ⟨z, hz, e⟩ := List.any_eq_true.mp c
      obtain rfl : v = .str z := of_decide_eq_true e
      obtain ⟨q, hq, rfl⟩ := List.mem_map.mp hz
      obtain ⟨i, li, ei⟩ := List.getElem_of_mem hq
      obtain ⟨p, dg, hp⟩ := h5.get nd (show ls[i]? = some q by rw [List.getElem?_eq_getElem li, ei])
      exact ⟨_, rfl, x, _, dx, _, _, rfl, h1, Y.cFrame, Y.nFrameEnds, rfl, _, rfl, m, .ref p, rfl, dg, kQ q hq rfl p hp⟩
end
end K37

namespace K37
open PySem PySem.Spec PyProof.Rows L2 Ow
/-! ### terms -/
inductive Tm where
  | leaf (w : Str) (ss : List Str)
  | one (w : Str) (t : Tm)
  | two (w : Str) (s t : Tm)
def Tm.sz : Tm → Nat
  | .leaf _ _ => 1
  | .one _ t => 1 + t.sz
  | .two _ s t => 1 + s.sz + t.sz
/-- at a stands the term -/
def TmAt (K : PySem.W.Frag) (H : Hp) : Addr → Tm → Prop
  | a, .leaf w ss => SqT K H a (.str w :: ss.map V.str)
  | a, .one w t => ∃ b, SqT K H a [.str w, .ref b] ∧ TmAt K H b t
  | a, .two w s t => ∃ b c, SqT K H a [.str w, .ref b, .ref c] ∧ TmAt K H b s ∧ TmAt K H c t
theorem TmAt.same {K : PySem.W.Frag} {H H' : Hp} (s : Same H H') : ∀ {t : Tm} {a : Addr}, TmAt K H a t → TmAt K H' a t
  | .leaf _ _, _, h => sqt_same s h
  | .one _ _, _, ⟨b, h, g⟩ => ⟨b, sqt_same s h, g.same s⟩
  | .two _ _ _, _, ⟨b, c, h, g, g2⟩ => ⟨b, c, sqt_same s h, g.same s, g2.same s⟩
theorem TmAt.put {K : PySem.W.Frag} {H : Hp} {D : Addr} {l : List V} {o : HO} (e : H D = some (.lst l)) : ∀ {t : Tm} {a : Addr}, TmAt K H a t → TmAt K (upd H D o) a t
  | .leaf _ _, _, h => sqt_put e h
  | .one _ _, _, ⟨b, h, g⟩ => ⟨b, sqt_put e h, g.put e⟩
  | .two _ _ _, _, ⟨b, c, h, g, g2⟩ => ⟨b, c, sqt_put e h, g.put e, g2.put e⟩
/-- right terms of a frame, with their ends -/
inductive Ty (xs : List Str) (ls : List Lt) : Tm → Str → Str → Prop
  | letter {q : Lt} : q ∈ ls → Ty xs ls (.leaf "letter" [q.1]) q.2.1 q.2.2
  | same {a : Str} : a ∈ xs → Ty xs ls (.leaf "same" [a]) a a
  | other {a : Str} : a ∈ xs → Ty xs ls (.leaf "other" [a]) a a
  | none {a b : Str} : a ∈ xs → b ∈ xs → Ty xs ls (.leaf "none" [a, b]) a b
  | all {a b : Str} : a ∈ xs → b ∈ xs → Ty xs ls (.leaf "all" [a, b]) a b
  | rest {t : Tm} {a b : Str} : Ty xs ls t a b → Ty xs ls (.one "rest" t) a b
  | turned {t : Tm} {a b : Str} : Ty xs ls t b a → Ty xs ls (.one "turned" t) a b
  | closed {t : Tm} {a : Str} : Ty xs ls t a a → Ty xs ls (.one "closed" t) a a
  | walked {t : Tm} {a : Str} : Ty xs ls t a a → Ty xs ls (.one "walked" t) a a
  | joined {s t : Tm} {a b : Str} : Ty xs ls s a b → Ty xs ls t a b → Ty xs ls (.two "joined" s t) a b
  | cut {s t : Tm} {a b : Str} : Ty xs ls s a b → Ty xs ls t a b → Ty xs ls (.two "cut" s t) a b
  | then_ {s t : Tm} {a m b : Str} : Ty xs ls s a m → Ty xs ls t m b → Ty xs ls (.two "then" s t) a b
/-- flat terms -/
def FlT : Tm → Prop
  | .leaf _ _ => True
  | .one w t => (w = "rest" ∨ w = "turned") ∧ FlT t
  | .two w s t => (w = "joined" ∨ w = "cut") ∧ FlT s ∧ FlT t
def fB : Tm → Bool
  | .leaf _ _ => true
  | .one w t => decide (w = "rest" ∨ w = "turned") && fB t
  | .two w s t => decide (w = "joined" ∨ w = "cut") && (fB s && fB t)
theorem fB_iff : ∀ t : Tm, fB t = true ↔ FlT t
  | .leaf _ _ => ⟨fun _ => trivial, fun _ => rfl⟩
  | .one w t => by
    have := fB_iff t
    simp only [fB, FlT, Bool.and_eq_true, decide_eq_true_eq, this]
  | .two w s t => by
    have h1 := fB_iff s
    have h2 := fB_iff t
    simp only [fB, FlT, Bool.and_eq_true, decide_eq_true_eq, h1, h2]
/-- how many ways -/
def cnt : Tm → Nat
  | .leaf _ _ => 1
  | .one w t => if fB (.one w t) then 1 else cnt t
  | .two w s t => if fB (.two w s t) then 1 else if w = "joined" then cnt s + cnt t else cnt s * cnt t
theorem cnt_flat {t : Tm} (h : FlT t) : cnt t = 1 := by
  have e := (fB_iff t).mpr h
  cases t with
  | leaf w ss => rfl
  | one w t => unfold cnt; rw [if_pos e]
  | two w s t => unfold cnt; rw [if_pos e]
inductive Short : Tm → Prop
  | leaf {w : Str} {ss : List Str} : Short (.leaf w ss)
  | rest {t : Tm} : FlT t → Short (.one "rest" t)
  | turned {t : Tm} : Short t → Short (.one "turned" t)
  | joined {s t : Tm} : Short s → Short t → Short (.two "joined" s t)
  | cut {s t : Tm} : Short s → Short t → Short (.two "cut" s t)
  | then_ {s t : Tm} : Short s → Short t → Short (.two "then" s t)
theorem FlT.short : ∀ {t : Tm}, FlT t → Short t
  | .leaf _ _, _ => .leaf
  | .one w t, h => by
    rcases h.1 with rfl | rfl
    · exact .rest h.2
    · exact .turned (FlT.short h.2)
  | .two w s t, h => by
    rcases h.1 with rfl | rfl
    · exact .joined (FlT.short h.2.1) (FlT.short h.2.2)
    · exact .cut (FlT.short h.2.1) (FlT.short h.2.2)
/-- kept terms -/
def KpT : Tm → Prop
  | .leaf _ _ => True
  | .one w t => (w = "rest" ∧ FlT t) ∨ (w ≠ "rest" ∧ KpT t)
  | .two _ s t => KpT s ∧ KpT t
theorem FlT.kp : ∀ {t : Tm}, FlT t → KpT t
  | .leaf _ _, _ => trivial
  | .one w t, h => by
    rcases h.1 with rfl | rfl
    · exact .inl ⟨rfl, h.2⟩
    · exact .inr ⟨by decide +kernel, FlT.kp h.2⟩
  | .two _ _ _, h => ⟨FlT.kp h.2.1, FlT.kp h.2.2⟩
def ShK (kd : Str) (_ : Nat) (t : Tm) : Prop := kd = "kept" → KpT t
theorem ShK.flat {kd : Str} {n : Nat} {t : Tm} (h : FlT t) : ShK kd n t := fun _ => h.kp
theorem ShK.turned {kd : Str} {n : Nat} {t : Tm} (h : ShK kd (n - 1) t) : ShK kd n (.one "turned" t) := fun e => .inr ⟨by decide +kernel, h e⟩
theorem ShK.closed {kd : Str} {n : Nat} {t : Tm} (h : ShK kd (n - 1) t) : ShK kd n (.one "closed" t) := fun e => .inr ⟨by decide +kernel, h e⟩
theorem ShK.walked {kd : Str} {n : Nat} {t : Tm} (h : ShK kd (n - 1) t) : ShK kd n (.one "walked" t) := fun e => .inr ⟨by decide +kernel, h e⟩
theorem cnt_two {w : Str} {n a b : Nat} (h1 : a ≤ 2 ^ (n / 2 / 2)) (h2 : b ≤ 2 ^ (n / 2 / 2)) (n2 : 2 ≤ n) : a + b ≤ 2 ^ (n / 2) ∧ a * b ≤ 2 ^ (n / 2) := by
  have e1 : 2 ^ (n / 2 / 2 + 1) ≤ 2 ^ (n / 2) := Nat.pow_le_pow_right (by decide) (by omega)
  have e2 : 2 ^ (n / 2 / 2 + n / 2 / 2) ≤ 2 ^ (n / 2) := Nat.pow_le_pow_right (by decide) (by omega)
  have e3 := Nat.mul_le_mul h1 h2
  rw [← Nat.pow_add] at e3
  rw [Nat.pow_succ] at e1
  omega
theorem ShK.two {kd w : Str} {n : Nat} {s t : Tm} (hw : w = "joined" ∨ w = "cut" ∨ w = "then") (n2 : 2 ≤ n) (h1 : ShK kd (n / 2) s) (h2 : ShK kd (n / 2) t) : ShK kd n (.two w s t) := fun e => ⟨h1 e, h2 e⟩
/-- at u stands a right term of these ends, not greater than n -/
def Good (K : PySem.W.Frag) (xs : List Str) (ls : List Lt) (x y : Str) (n : Nat) (H : Hp) (u : Addr) : Prop := ∃ t, TmAt K H u t ∧ Ty xs ls t x y ∧ (t.sz ≤ n ∧ FlT t)
/-- at L stands a list of such -/
def GoodL (K : PySem.W.Frag) (xs : List Str) (ls : List Lt) (x y : Str) (n : Nat) (H : Hp) (L : Addr) (N : Nat) : Prop := ∃ us : List Addr, H L = some (.lst (us.map V.ref)) ∧ us.length ≤ N ∧ ∀ u ∈ us, Good K xs ls x y n H u
section
variable {K : PySem.W.Frag} {xs : List Str} {ls : List Lt} {x y : Str} {n N : Nat} {H H' : Hp} {u D L : Addr}
theorem Good.same (s : Same H H') (h : Good K xs ls x y n H u) : Good K xs ls x y n H' u := let ⟨t, a, b, c⟩ := h; ⟨t, a.same s, b, c⟩
theorem Good.put {l : List V} {o : HO} (e : H D = some (.lst l)) (h : Good K xs ls x y n H u) : Good K xs ls x y n (upd H D o) u := let ⟨t, a, b, c⟩ := h; ⟨t, a.put e, b, c⟩
theorem GoodL.same (s : Same H H') (h : GoodL K xs ls x y n H L N) : GoodL K xs ls x y n H' L N := let ⟨us, a, b, c⟩ := h; ⟨us, s _ _ a, b, fun u hu => (c u hu).same s⟩
/-- one more -/
theorem GoodL.snoc {us : List Addr} (e : H L = some (.lst (us.map V.ref))) (l : us.length ≤ N) (g : ∀ u ∈ us, Good K xs ls x y n H u) (h : Good K xs ls x y n H u) : GoodL K xs ls x y n (upd H L (.lst (us.map V.ref ++ [.ref u]))) L (N + 1) := by
  refine ⟨us ++ [u], by rw [upd_same, List.map_append]; rfl, by rw [List.length_append]; exact Nat.succ_le_succ l, fun v hv => ?_⟩
  rcases List.mem_append.mp hv with z | z
  · exact (g v z).put e
  · rw [List.mem_singleton.mp z]
    exact h.put e
end
/-- a letter's ends compared with others -/
theorem eq_ends {K : PySem.W.Frag} {H : Hp} {a b : Addr} {p q x y : Str} {Q : VK} (wp : Wd p) (wq : Wd q) (wx : Wd x) (wy : Wd y) (h1 : SqT K H a [.str p, .str q]) (h2 : SqT K H b [.str x, .str y]) (k : Q (.bl (decide (p = x ∧ q = y))) H) : rEqD K (.ref a) (.ref b) H Q := by
  refine ⟨.tuple [.str p, .str q], .tuple [.str x, .str y], .tup h1 (.cons (.str _) (.cons (.str _) .nil)), .tup h2 (.cons (.str _) (.cons (.str _) .nil)), shp_pair wp wq, shp_pair wx wy, ?_⟩
  rw [show PyData.eqv (.tuple [.str p, .str q]) (.tuple [.str x, .str y]) = decide ([p, q] = [x, y]) from eqv_strs [p, q] [x, y]]
  rw [show decide ([p, q] = [x, y]) = decide (p = x ∧ q = y) by simp]
  exact k
end K37

namespace K37
open PySem PySem.Spec PyProof.Rows L2 Ow
/-- a new object, the source hidden -/
structure NewH (d c : Addr) (G : Hp) (T : Addr) (o : HO) : Prop where
  src : SrcAt (upd G T o) d c
  nd : T ≠ d
  nc : T ≠ c
  sm : Same (hid d c G) (hid d c (upd G T o))
  at_ : hid d c (upd G T o) T = some o
theorem new_h {d c T : Addr} {G : Hp} (o : HO) (src : SrcAt G d c) (hT : G T = none) : NewH d c G T o := by
  obtain ⟨n1, n2⟩ := src_ne src hT
  exact ⟨src_same (same_upd hT) src, n1, n2, hid_same (same_upd hT), (hid_at n1 n2).trans upd_same⟩
theorem dget_mono {H H' : Hp} {a : Addr} {y : V} {r : Option V} (s : Same H H') (h : DGet H a y r) : DGet H' a y r := by
  have rd : ∀ {u : HO}, Rd H a u → Rd H' a u := fun {u} z => z.elim (fun z => .inl (s _ _ z)) fun ⟨o, z⟩ => .inr ⟨o, s _ _ z⟩
  rcases h with ⟨kvs, k, e, g⟩ | ⟨kvs, k, b, e, ey, eb, l⟩
  · exact .inl ⟨kvs, k, rd e, g⟩
  · exact .inr ⟨kvs, k, b, rd e, ey, s _ _ eb, l⟩
theorem FrAt.fr {K : PySem.W.Frag} {H : Hp} {d : Addr} {xs : List Str} {ls : List Lt} (h : FrAt K H d xs ls) : ∃ s m o, DGet H d (.str "sorts") (some (.ref s)) ∧ DGet H d (.str "letters") (some (.ref m)) ∧ DGet H d (.str "order") (some (.ref o)) ∧ H s = some (.lst (xs.map V.str)) ∧ LdAt K H m ls ∧ SqL K H o ((ls.map (·.1)).map V.str) := by
  obtain ⟨⟨s, m, o, t, b, h1, h2, h3, h4⟩, _⟩ := h
  exact ⟨s, m, o, fr_sorts h1, fr_letters h1, fr_order h1, h2, h3, h4⟩
theorem name_at {ls : List Lt} {i : Nat} {v : V} (hi : ((ls.map (·.1)).map V.str)[i]? = some v) : ∃ q, ls[i]? = some q ∧ v = .str q.1 := by
  obtain ⟨x, ex, rfl⟩ := str_at hi
  rw [List.getElem?_map] at ex
  cases z : ls[i]? with
  | none => rw [z] at ex; cases ex
  | some q => rw [z] at ex; exact ⟨q, rfl, by rw [← Option.some.inj ex]⟩
theorem seq_if {tc : TT} {a b u : TS} {D : Ends} {σ : L2.St} {H : Hp} (I : Hp → Prop) (hu : ∀ H', I H' → u D σ H') (h : (∀ H', I H' → u D σ H') → tc σ H fun k H1 => if k = true then a { D with nx := u D } σ H1 else b { D with nx := u D } σ H1) : tSeq (tIfS tc a b) u D σ H := h hu
/-- a list of good terms that grows -/
structure LfI (K : PySem.W.Frag) (xs : List Str) (ls : List Lt) (x y : Str) (d c L : Addr) (H : Hp) (N : Nat) (G : Hp) : Prop where
  src : SrcAt G d c
  sm : Same (hid d c H) (hid d c G)
  ex : ∃ us : List Addr, hid d c G L = some (.lst (us.map V.ref)) ∧ us.length ≤ N ∧ 1 ≤ us.length ∧ ∀ u ∈ us, Good K xs ls x y 2 (hid d c G) u
theorem LfI.le {K : PySem.W.Frag} {xs : List Str} {ls : List Lt} {x y : Str} {d c L : Addr} {H G : Hp} {N M : Nat} (h : LfI K xs ls x y d c L H N G) (l : N ≤ M) : LfI K xs ls x y d c L H M G := ⟨h.src, h.sm, let ⟨us, a, b, e, g⟩ := h.ex; ⟨us, a, Nat.le_trans b l, e, g⟩⟩
/-- one more term in it -/
theorem LfI.app {K : PySem.W.Frag} {xs : List Str} {ls : List Lt} {x y : Str} {d c L T : Addr} {H G G' : Hp} {N : Nat} (n1 : L ≠ d) (n2 : L ≠ c) (h0 : hid d c H L = none) (h : LfI K xs ls x y d c L H N G) (src : SrcAt G' d c) (s : Same (hid d c G) (hid d c G')) (g : Good K xs ls x y 2 (hid d c G') T) (hN : N ≤ 900) {Q : Hp → Prop}
    (k : ∀ us : List Addr, us.length ≤ N → G' L = some (.lst (us.map V.ref)) → LfI K xs ls x y d c L H (N + 1) (upd G' L (.lst (us.map V.ref ++ [.ref T]))) → Q (upd G' L (.lst (us.map V.ref ++ [.ref T])))) : ∃ us : List V, G' L = some (.lst us) ∧ us.length < sizeLine ∧ Q (upd G' L (.lst (us ++ [.ref T]))) := by
  obtain ⟨us, e, l1, l2, gu⟩ := h.ex
  have e2 := s _ _ e
  refine ⟨us.map V.ref, hid_sub _ _ e2, by rw [List.length_map]; exact small1000 (by omega), k us l1 (hid_sub _ _ e2) ⟨src_put n1 n2 src, ?_, us ++ [T], ?_, by rw [List.length_append]; exact Nat.succ_le_succ l1, by rw [List.length_append]; omega, fun u hu => ?_⟩⟩
  · rw [hid_upd n1 n2]
    exact same_put h0 (h.sm.trans s)
  · rw [hid_upd n1 n2, upd_same, List.map_append]
    rfl
  · rw [hid_upd n1 n2]
    rcases List.mem_append.mp hu with z | z
    · exact ((gu u z).same s).put e2
    · rw [List.mem_singleton.mp z]
      exact g.put e2
abbrev NLf : List Str := ["_law_source_here", "_law_frame_here", "_law_ends_here", "_law_plain", "_law_some", "_law_name"]
theorem scLf : FnScope NLf ["_law_source_here", "_law_frame_here", "_law_ends_here", "_law_plain"] (defScope sLawLeaf) := ⟨rfl, rfl, rfl, by decide +kernel, rfl, by decide +kernel, by decide +kernel⟩
def spLf (K : PySem.W.Frag) : Sp := fun vs H Q _ => ∃ (d c e a : Addr) (pl : Bool) (xs : List Str) (ls : List Lt) (x y : Str), vs = [.ref d, .ref e, .ref a, .bl pl] ∧ SrcAt H d c ∧ FrAt K (hid d c H) e xs ls ∧ SqT K (hid d c H) a [.str x, .str y] ∧ x ∈ xs ∧ y ∈ xs ∧
  ∀ (u : Addr) (H' : Hp), SrcAt H' d c → Same (hid d c H) (hid d c H') → Good K xs ls x y 2 (hid d c H') u → Q (.ref u) H'
def ttL1 (K : PySem.W.Frag) : TT := tTest (tOp (rEqD K) (tDGet (tDGet (tVar 1) (tC (.str "letters"))) (tVar 5)) (tVar 2))
def teL1 : TE := tTup (tCons (tC (.str "letter")) (tCons (tVar 5) tNil))
def ttL2 (K : PySem.W.Frag) : TT := tTest (tOp (rEqD K) (tDGet (tDGet (tVar 1) (tC (.str "letters"))) (tVar 5)) (tRev K (tVar 2) (tUn (rU fun i => .int (-i)) (tC (.int 1)))))
def teL2 : TE := tTup (tCons (tC (.str "turned")) (tCons (tTup (tCons (tC (.str "letter")) (tCons (tVar 5) tNil))) tNil))
section
variable {P : Program} {w : World} {K : PySem.W.Frag} {mg : Str → Option Value} {base : Heap} {f : Addr} {fd : FuncData}
theorem ok_lf (F : FnP K "_law_leaf" sLawLeaf f fd) (Y : Fx w K mg) : FnOk P w K mg base CX0 2 f fd ["_law_source_here", "_law_frame_here", "_law_ends_here", "_law_plain"] (spLf K) := by
  obtain ⟨d1, F1⟩ := Y.dLawPick
  have b1 := FunD.bindsN (ps := ["_law_source_here", "_law_many"]) F1 fun _ _ _ _ _ _ us hl => match us, hl with | [_, _], _ => rfl
  have G1 : FnOk P w K mg base CX0 1 _ d1 ["_law_source_here", "_law_many"] spPick := ok_pick F1 Y.bl
  refine okD F scLf (fun vs H Q E h => ?_) (fun cdv A outer s H vs Q E hr h => ?_)
  · obtain ⟨d, c, e, a, pl, xs, ls, x, y, rfl, _⟩ := h
    rfl
  · have nd := scLf.nd
    have hu := hu_of hr
    have hu64 := hu64_of hr
    refine ⟨_, pss_cons (ps_setLc (i := 4) (own := [("_law_name", 5)]) (g := gName 5) (tt := ttL1 K) (te := teL1) rfl nd rfl rfl (by rfl) (pi_list (pe_dget hu (pv 1) pe_str nosl)) (blkOk_by (N := NLf) (sc := defScope sLawLeaf) (by decide +kernel)) (fun _ _ _ _ _ => pg_name (i := 5) nd rfl (Or.inl rfl))
        (fun _ _ _ _ _ => pts_one (pt_cmpR (op_eqD hu64) (pe_dget hu (pe_dget hu (pv 1) pe_str nosl) (pv 5) nosl) (pv 2) (nomark _))) (fun _ _ _ _ _ => pe_tup (pa_cons pe_str (pa_cons (pv 5) pa_nil))))
      (pss_cons (ps_set (i := 4) nd rfl (Or.inl rfl) (pe_op op_cat (pv 4)
        (pe_lc (own := [("_law_name", 5)]) (g := gName 5) (tt := ttL2 K) (te := teL2) rfl nd (pi_list (pe_dget hu (pv 1) pe_str nosl)) (blkOk_by (N := NLf) (sc := defScope sLawLeaf) (by decide +kernel)) (fun _ _ _ _ _ => pg_name (i := 5) nd rfl (Or.inl rfl))
        (fun _ _ _ _ _ => pts_one (pt_cmpR (op_eqD hu64) (pe_dget hu (pe_dget hu (pv 1) pe_str nosl) (pv 5) nosl) (pe_rev (pv 2) (pe_un un_neg pe_int)) (nomark _))) (fun _ _ _ _ _ => pe_tup (pa_cons pe_str (pa_cons (pe_tup (pa_cons pe_str (pa_cons (pv 5) pa_nil))) pa_nil))))))
      (pss_cons (ps_set (i := 4) nd rfl (Or.inl rfl) (pe_op op_cat (pe_op op_rep (pv 4) pe_int) (pe_lst (pa_cons (pe_op op_catT (pe_tup (pa_cons pe_str pa_nil)) (pv 2)) pa_nil))))
      (pss_cons (ps_if (pt_cmpR op_eq (pe_ix ix_tup (pv 2) pe_int (fun _ _ => rfl)) (pe_ix ix_tup (pv 2) pe_int (fun _ _ => rfl)) (nomark _))
        (pss_one (ps_expr (pe_bm PySem.F.plainAttrs_list PySem.F.slot_list_append PySem.F.type_list_append mt_append (pv 4) (pa_cons (pe_tup (pa_cons pe_str (pa_cons (pe_ix ix_tup (pv 2) pe_int (fun _ _ => rfl)) pa_nil))) pa_nil)))) pss_nil)
      (pss_cons (ps_if (pw_and (pt_not (pt_val (pv 3))) (pw_and1 (pt_cmpR op_eq (pe_ix ix_tup (pv 2) pe_int (fun _ _ => rfl)) (pe_ix ix_tup (pv 2) pe_int (fun _ _ => rfl)) (nomark _)))).pt
        (pss_one (ps_expr (pe_bm PySem.F.plainAttrs_list PySem.F.slot_list_append PySem.F.type_list_append mt_append (pv 4) (pa_cons (pe_tup (pa_cons pe_str (pa_cons (pe_ix ix_tup (pv 2) pe_int (fun _ _ => rfl)) pa_nil))) pa_nil)))) pss_nil)
      (pss_cons (ps_if (pw_and (pt_not (pt_val (pv 3))) (pw_and1 (pt_cmpR op_eq (pe_call G1 hr (by rfl) Y.gLawPick F1.kp b1 .nil pass0 (pa_cons (pv 0) (pa_cons pe_int pa_nil))) pe_int (nomark _)))).pt
        (pss_one (ps_expr (pe_bm PySem.F.plainAttrs_list PySem.F.slot_list_append PySem.F.type_list_append mt_append (pv 4) (pa_cons (pe_op op_catT (pe_tup (pa_cons pe_str pa_nil)) (pv 2)) pa_nil)))) pss_nil)
      (pss_one (ps_ret (pe_ix ix_list (pv 4) (pe_call G1 hr (by rfl) Y.gLawPick F1.kp b1 .nil pass0 (pa_cons (pv 0) (pa_cons (pe_callB call_len_seq (by rfl) Y.bLen PySem.boot_len (pa_cons (pv 4) pa_nil)) pa_nil))) (fun _ _ => rfl))))))))), ?_⟩
    obtain ⟨d, c, e, a, pl, xs, ls, x, y, rfl, src, fr, ha, hx, hy, k⟩ := h
    obtain ⟨_, m, o, _, gm, go, _, lm, lo⟩ := fr.fr
    have ok := fr.ok
    have wx := ok.nx.w x hx
    have wy := ok.nx.w y hy
    have l16 := ok.nl.n
    rw [List.length_map] at l16
    have at_ : ∀ {G : Hp}, Same (hid d c H) (hid d c G) → DGet G e (.str "order") (some (.ref o)) ∧ DGet G e (.str "letters") (some (.ref m)) ∧ LdAt K G m ls ∧ SqL K G o ((ls.map (·.1)).map V.str) ∧ SqT K G a [.str x, .str y] := fun sm =>
      ⟨dget_mono hid_sub (dget_mono sm go), dget_mono hid_sub (dget_mono sm gm), (lm.same sm).same hid_sub, hid_sub.seq (sm.seq lo), sqt_same hid_sub (sqt_same sm ha)⟩
    obtain ⟨a1, a2, a3, a4, a5⟩ := at_ (Same.refl _)
    refine ⟨_, rfl, e, .ref o, rfl, a1, o, rfl, ⟨_, a4⟩, fun D hD => ?_⟩
    have nD := new_h (.lst []) src hD
    have hDh : hid d c H D = none := (hid_at nD.nd nD.nc).trans hD
    refine lc_list (K := K) (a := o) (xs := (ls.map (·.1)).map V.str) (fun i G => SrcAt G d c ∧ Same (hid d c H) (hid d c G) ∧ GoodL K xs ls x y 2 (hid d c G) D i) ⟨nD.src, nD.sm, [], nD.at_, Nat.le_refl _, fun u hu => absurd hu List.not_mem_nil⟩ (fun i G _ p => (at_ p.2.1).2.2.2.1) ?_ ?_
    · rintro i v G hi ⟨srcG, smG, us, eD, lu, gu⟩
      obtain ⟨q, eq, rfl⟩ := name_at hi
      obtain ⟨_, b2, b3, _, b5⟩ := at_ smG
      obtain ⟨tt, dg, st⟩ := b3.get ok.nl.nd eq
      obtain ⟨m1, m2⟩ := ok.ends q (List.mem_of_getElem? eq)
      have li := (List.getElem?_eq_some_iff.mp eq).1
      refine ⟨rfl, ?_⟩
      show tTest (tOp (rEqD K) (tDGet (tDGet (tVar 1) (tC (.str "letters"))) (tVar 5)) (tVar 2)) _ _ _
      refine ⟨_, rfl, e, .ref m, rfl, b2, _, rfl, m, .ref tt, rfl, dg, _, rfl, eq_ends (ok.nx.w _ m1) (ok.nx.w _ m2) wx wy st b5 ⟨_, rfl, ite2 (fun hc => ?_) (fun _ => ?_)⟩⟩
      · obtain ⟨e1, e2⟩ := of_decide_eq_true hc
        refine ⟨_, rfl, szl (by show 2 ≤ 1000; decide), fun T hT => ?_⟩
        have nT := new_h (.tup [V.str "letter", V.str q.1]) srcG hT
        have eD2 : hid d c (upd G T (.tup [V.str "letter", V.str q.1])) D = some (.lst (us.map V.ref)) := nT.sm _ _ eD
        have eD3 := hid_sub _ _ eD2
        refine ⟨_, eD3, ?_, src_put nD.nd nD.nc nT.src, ?_, ?_⟩
        · rw [List.length_map]
          exact small1000 (by omega)
        · rw [hid_upd nD.nd nD.nc]
          exact same_put hDh (smG.trans nT.sm)
        · rw [hid_upd nD.nd nD.nc]
          refine GoodL.snoc eD2 lu (fun u hu => (gu u hu).same nT.sm) ⟨.leaf "letter" [q.1], SqT.of nT.at_, ?_, ⟨by show 1 ≤ 2; decide, trivial⟩⟩
          have z : Ty xs ls (.leaf "letter" [q.1]) q.2.1 q.2.2 := .letter (List.mem_of_getElem? eq)
          rw [e1, e2] at z
          exact z
      · exact ⟨srcG, smG, us, eD, Nat.le_succ_of_le lu, gu⟩
    rintro G0 ⟨srcG0, smG0, us, eD, lu, gu⟩
    rw [List.length_map, List.length_map] at lu
    obtain ⟨a1, a2, a3, a4, a5⟩ := at_ smG0
    refine ⟨_, rfl, _, rfl, e, .ref o, rfl, a1, o, rfl, ⟨_, a4⟩, fun D2 hD2 => ?_⟩
    have nD2 := new_h (.lst []) srcG0 hD2
    have hDh2 : hid d c G0 D2 = none := (hid_at nD2.nd nD2.nc).trans hD2
    refine lc_list (K := K) (a := o) (xs := (ls.map (·.1)).map V.str) (fun i G => SrcAt G d c ∧ Same (hid d c G0) (hid d c G) ∧ GoodL K xs ls x y 2 (hid d c G) D2 i) ⟨nD2.src, nD2.sm, [], nD2.at_, Nat.le_refl _, fun u hu => absurd hu List.not_mem_nil⟩ (fun i G _ p => (at_ (smG0.trans p.2.1)).2.2.2.1) ?_ ?_
    · rintro i v G hi ⟨srcG, smG, us2, eD2, lu2, gu2⟩
      obtain ⟨q, eq, rfl⟩ := name_at hi
      obtain ⟨_, b2, b3, _, b5⟩ := at_ (smG0.trans smG)
      obtain ⟨tt, dg, st⟩ := b3.get ok.nl.nd eq
      obtain ⟨m1, m2⟩ := ok.ends q (List.mem_of_getElem? eq)
      have li := (List.getElem?_eq_some_iff.mp eq).1
      refine ⟨rfl, ?_⟩
      show tTest (tOp (rEqD K) (tDGet (tDGet (tVar 1) (tC (.str "letters"))) (tVar 5)) (tRev K (tVar 2) (tUn (rU fun i => .int (-i)) (tC (.int 1))))) _ _ _
      refine ⟨_, rfl, e, .ref m, rfl, b2, _, rfl, m, .ref tt, rfl, dg, _, rfl, _, rfl, rfl, a, _, rfl, .inr ⟨b5, fun p hp => ?_⟩⟩
      have np := new_h (.tup [V.str y, V.str x]) srcG hp
      refine eq_ends (ok.nx.w _ m1) (ok.nx.w _ m2) wy wx (sqt_same (same_upd hp) st) (SqT.of upd_same) ⟨_, rfl, ite2 (fun hc => ?_) (fun _ => ?_)⟩
      · obtain ⟨e1, e2⟩ := of_decide_eq_true hc
        refine ⟨_, rfl, szl (by show 2 ≤ 1000; decide), fun T1 hT1 => ⟨szl (by show 2 ≤ 1000; decide), fun T hT => ?_⟩⟩
        have nT1 := new_h (.tup [V.str "letter", V.str q.1]) np.src hT1
        have nT := new_h (.tup [V.str "turned", V.ref T1]) nT1.src hT
        have sT := np.sm.trans (nT1.sm.trans nT.sm)
        have eD3 := sT _ _ eD2
        have eD4 := hid_sub _ _ eD3
        refine ⟨_, eD4, ?_, src_put nD2.nd nD2.nc nT.src, ?_, ?_⟩
        · rw [List.length_map]
          exact small1000 (by omega)
        · rw [hid_upd nD2.nd nD2.nc]
          exact same_put hDh2 (smG.trans sT)
        · rw [hid_upd nD2.nd nD2.nc]
          refine GoodL.snoc eD3 lu2 (fun u hu => (gu2 u hu).same sT) ⟨.one "turned" (.leaf "letter" [q.1]), ⟨T1, SqT.of nT.at_, SqT.of (nT.sm _ _ nT1.at_)⟩, ?_, ⟨by show 1 + 1 ≤ 2; decide, .inr rfl, trivial⟩⟩
          have z : Ty xs ls (.leaf "letter" [q.1]) q.2.1 q.2.2 := .letter (List.mem_of_getElem? eq)
          rw [e1, e2] at z
          exact .turned z
      · exact ⟨np.src, smG.trans np.sm, us2, np.sm _ _ eD2, Nat.le_succ_of_le lu2, fun u hu => (gu2 u hu).same np.sm⟩
    rintro G1 ⟨srcG1, smG1, us2, eD2, lu2, gu2⟩
    rw [List.length_map, List.length_map] at lu2
    have eDg := smG1 _ _ eD
    refine ⟨D, D2, _, _, rfl, rfl, hid_sub _ _ eDg, hid_sub _ _ eD2, by rw [List.length_map, List.length_map]; exact szl (by omega), fun L1 hL1 => ?_⟩
    have nL1 := new_h (.lst (us.map V.ref ++ us2.map V.ref)) srcG1 hL1
    obtain ⟨G2, src2, sm2, us3, eL1, lu3, gu3, eg⟩ : ∃ G2, SrcAt G2 d c ∧ Same (hid d c H) (hid d c G2) ∧ ∃ us3 : List Addr, hid d c G2 L1 = some (.lst (us3.map V.ref)) ∧ us3.length ≤ 32 ∧ (∀ u ∈ us3, Good K xs ls x y 2 (hid d c G2) u) ∧ G2 = upd G1 L1 (.lst (us.map V.ref ++ us2.map V.ref)) :=
      ⟨_, nL1.src, smG0.trans (smG1.trans nL1.sm), us ++ us2, by rw [nL1.at_, List.map_append], by rw [List.length_append]; omega, fun u hu => (List.mem_append.mp hu).elim (fun z => (gu u z).same (smG1.trans nL1.sm)) fun z => (gu2 u z).same nL1.sm, rfl⟩
    change tSeq _ _ _ _ (upd G1 L1 (.lst (us.map V.ref ++ us2.map V.ref)))
    rw [← eg]
    clear eg nL1 hL1 eD2 gu2 lu2 eDg smG1 srcG1 gu lu eD smG0 srcG0 a1 a2 a3 a4 a5 hD2 nD2 hDh2 hD nD hDh
    refine ⟨_, rfl, L1, 3, _, rfl, rfl, hid_sub _ _ eL1, by decide, by decide, by rw [List.length_map]; exact szl (by show us3.length * 3 ≤ 1000; omega), fun L2 hL2 => ⟨szl (by show 1 ≤ 1000; decide), fun t1 ht1 => ?_⟩⟩
    have nL2 := new_h (.lst (List.replicate (3 : Int).toNat (us3.map V.ref)).flatten) src2 hL2
    have nt1 := new_h (.tup [V.str "all"]) nL2.src ht1
    obtain ⟨_, _, _, _, a5⟩ := at_ (sm2.trans (nL2.sm.trans nt1.sm))
    refine ⟨_, rfl, t1, a, _, _, rfl, rfl, SqT.of (hid_sub _ _ nt1.at_), a5, by simp, szl (by show 3 ≤ 1000; decide), fun z => absurd z (List.cons_ne_nil _ _), fun _ t2 ht2 => ⟨szl (by show 1 ≤ 1000; decide), fun l hl => ?_⟩⟩
    have nt2 := new_h (.tup ([V.str "all"] ++ [V.str x, V.str y])) nt1.src ht2
    have nl := new_h (.lst [V.ref t2]) nt2.src hl
    have s2l := nL2.sm.trans (nt1.sm.trans (nt2.sm.trans nl.sm))
    have eL2 := (nt1.sm.trans (nt2.sm.trans nl.sm)) _ _ nL2.at_
    refine ⟨L2, l, _, _, rfl, rfl, hid_sub _ _ eL2, hid_sub _ _ nl.at_, ?_, fun L3 hL3 => ?_⟩
    · have z : ((List.replicate (3 : Int).toNat (us3.map V.ref)).flatten).length = 3 * us3.length := by
        show (List.replicate 3 (us3.map V.ref)).flatten.length = _
        simp [List.replicate]
        omega
      rw [z]
      exact szl (by show 3 * us3.length + 1 ≤ 1000; omega)
    have nL3 := new_h (.lst ((List.replicate (3 : Int).toNat (us3.map V.ref)).flatten ++ [V.ref t2])) nl.src hL3
    have hL3n : hid d c H L3 = none := none_of (sm2.trans s2l) ((hid_at nL3.nd nL3.nc).trans hL3)
    have iv3 : LfI K xs ls x y d c L3 H 97 (upd (upd (upd (upd (upd G2 L2 (.lst (List.replicate (3 : Int).toNat (us3.map V.ref)).flatten)) t1 (.tup [V.str "all"])) t2 (.tup ([V.str "all"] ++ [V.str x, V.str y]))) l (.lst [V.ref t2])) L3 (.lst ((List.replicate (3 : Int).toNat (us3.map V.ref)).flatten ++ [V.ref t2]))) :=
      ⟨nL3.src, sm2.trans (s2l.trans nL3.sm), ⟨us3 ++ us3 ++ us3 ++ [t2], by rw [nL3.at_]; simp [List.replicate], by simp only [List.length_append, List.length_cons, List.length_nil]; omega, by simp only [List.length_append, List.length_cons, List.length_nil]; omega, fun u hu => by
        rcases List.mem_append.mp hu with z | z
        · have z3 : u ∈ us3 := by simpa using z
          exact (gu3 u z3).same (s2l.trans nL3.sm)
        · rw [List.mem_singleton.mp z]
          exact ⟨.leaf "all" [x, y], SqT.of ((nl.sm.trans nL3.sm) _ _ nt2.at_), .all hx hy, ⟨by show 1 ≤ 2; decide, trivial⟩⟩⟩⟩
    obtain ⟨G3, eg⟩ : ∃ G3, G3 = upd (upd (upd (upd (upd G2 L2 (.lst (List.replicate (3 : Int).toNat (us3.map V.ref)).flatten)) t1 (.tup [V.str "all"])) t2 (.tup ([V.str "all"] ++ [V.str x, V.str y]))) l (.lst [V.ref t2])) L3 (.lst ((List.replicate (3 : Int).toNat (us3.map V.ref)).flatten ++ [V.ref t2])) := ⟨_, rfl⟩
    dsimp only [gName]
    change tSeq (tIfS _ _ _) _ _ [some (.ref d), some (.ref e), some (.ref a), some (.bl pl), some (.ref L3), none] (upd (upd (upd (upd (upd G2 L2 (.lst (List.replicate (3 : Int).toNat (us3.map V.ref)).flatten)) t1 (.tup [V.str "all"])) t2 (.tup ([V.str "all"] ++ [V.str x, V.str y]))) l (.lst [V.ref t2])) L3 (.lst ((List.replicate (3 : Int).toNat (us3.map V.ref)).flatten ++ [V.ref t2])))
    rw [← eg] at iv3 ⊢
    have n1 := nL3.nd
    have n2 := nL3.nc
    clear eg nL3 hL3 eL2 s2l nl nt2 nt1 nL2 a5 hl ht2 ht1 hL2 gu3 lu3 eL1 src2 sm2
    refine seq_if (LfI K xs ls x y d c L3 H 98) (fun G4 iv4 => ?_) (fun nx => ?_)
    · refine seq_if (LfI K xs ls x y d c L3 H 99) (fun G5 iv5 => ?_) (fun nx => ?_)
      · refine seq_if (LfI K xs ls x y d c L3 H 100) (fun G6 iv6 => ?_) (fun nx => ?_)
        · obtain ⟨us, eL, u1, u2, gu⟩ := iv6.ex
          have eL' := hid_sub _ _ eL
          refine ⟨_, rfl, _, rfl, _, rfl, L3, _, rfl, .inl (SqL.of eL'), ?_⟩
          rw [List.length_map]
          refine ⟨d, c, (us.length : Int), rfl, iv6.src, by omega, by omega, fun r G7 r0 r1 src7 keep => ?_⟩
          obtain ⟨j, rfl⟩ : ∃ j : Nat, r = (j : Int) := ⟨r.toNat, by omega⟩
          have eh : hid d c G7 = hid d c G6 := hid_pick keep
          have lj : j < us.length := by omega
          refine ⟨L3, _, _, .ref us[j], rfl, rfl, SqL.of ((keep L3 n1 n2).trans eL'), atI_nat (by rw [List.getElem?_map, List.getElem?_eq_getElem lj]; rfl), ?_⟩
          exact k us[j] G7 src7 (by rw [eh]; exact iv6.sm) (by rw [eh]; exact gu _ (List.getElem_mem _))
        · refine ⟨_, rfl, _, rfl, ?_⟩
          cases pl with
          | true => exact iteF (iteF (nx _ (iv5.le (by decide))))
          | false =>
            refine iteT ⟨_, rfl, d, c, 6, rfl, iv5.src, by decide, by decide, fun r G6 r0 r1 src6 keep => ?_⟩
            have eh : hid d c G6 = hid d c G5 := hid_pick keep
            have iv6 : LfI K xs ls x y d c L3 H 99 G6 := ⟨src6, by rw [eh]; exact iv5.sm, by rw [eh]; exact iv5.ex⟩
            refine ⟨rfl, _, rfl, ite2 (fun _ => ?_) (fun _ => nx _ (iv6.le (by decide)))⟩
            obtain ⟨us, eL, u1, u2, gu⟩ := id iv6.ex
            refine ⟨_, rfl, .inl ⟨rfl, _, SqL.of (hid_sub _ _ eL)⟩, szl (by show 1 ≤ 1000; decide), fun t1 ht1 => ?_⟩
            have nt1 := new_h (.tup [V.str "none"]) src6 ht1
            obtain ⟨_, _, _, _, a5⟩ := at_ (iv6.sm.trans nt1.sm)
            refine ⟨_, rfl, t1, a, _, _, rfl, rfl, SqT.of (hid_sub _ _ nt1.at_), a5, by simp, szl (by show 3 ≤ 1000; decide), fun z => absurd z (List.cons_ne_nil _ _), fun _ t2 ht2 => ?_⟩
            have nt2 := new_h (.tup ([V.str "none"] ++ [V.str x, V.str y])) nt1.src ht2
            obtain ⟨vs, e, lz, q⟩ := LfI.app n1 n2 hL3n iv6 nt2.src (nt1.sm.trans nt2.sm) (T := t2) ⟨.leaf "none" [x, y], SqT.of nt2.at_, .none hx hy, ⟨by show 1 ≤ 2; decide, trivial⟩⟩ (by decide) (Q := _) fun _ _ _ i => nx _ i
            exact ⟨L3, vs, _, rfl, rfl, e, lz, q⟩
      · obtain ⟨_, _, _, _, a5⟩ := at_ iv4.sm
        refine ⟨_, rfl, _, rfl, ?_⟩
        cases pl with
        | true => exact iteF (iteF (nx _ (iv4.le (by decide))))
        | false =>
          refine iteT ⟨_, rfl, a, _, 0, _, rfl, rfl, a5, rfl, _, rfl, a, _, 1, _, rfl, rfl, a5, rfl, rfl, _, rfl, ite2 (fun hc => ?_) (fun _ => nx _ (iv4.le (by decide)))⟩
          have exy : x = y := by simpa using hc
          obtain ⟨us, eL, u1, u2, gu⟩ := id iv4.ex
          refine ⟨_, rfl, .inl ⟨rfl, _, SqL.of (hid_sub _ _ eL)⟩, _, rfl, a, _, 0, _, rfl, rfl, a5, rfl, szl (by show 2 ≤ 1000; decide), fun T hT => ?_⟩
          have nT := new_h (.tup [V.str "other", V.str x]) iv4.src hT
          obtain ⟨vs, e, lz, q⟩ := LfI.app n1 n2 hL3n iv4 nT.src nT.sm (T := T) ⟨.leaf "other" [x], SqT.of nT.at_, by rw [← exy]; exact .other hx, ⟨by show 1 ≤ 2; decide, trivial⟩⟩ (by decide) (Q := _) fun _ _ _ i => nx _ i
          exact ⟨L3, vs, _, rfl, rfl, e, lz, q⟩
    · obtain ⟨_, _, _, _, a5⟩ := at_ iv3.sm
      refine ⟨_, rfl, a, _, 0, _, rfl, rfl, a5, rfl, _, rfl, a, _, 1, _, rfl, rfl, a5, rfl, rfl, _, rfl, ite2 (fun hc => ?_) (fun _ => nx _ (iv3.le (by decide)))⟩
      have exy : x = y := by simpa using hc
      obtain ⟨us, eL, u1, u2, gu⟩ := id iv3.ex
      refine ⟨_, rfl, .inl ⟨rfl, _, SqL.of (hid_sub _ _ eL)⟩, _, rfl, a, _, 0, _, rfl, rfl, a5, rfl, szl (by show 2 ≤ 1000; decide), fun T hT => ?_⟩
      have nT := new_h (.tup [V.str "same", V.str x]) iv3.src hT
      obtain ⟨vs, e, lz, q⟩ := LfI.app n1 n2 hL3n iv3 nT.src nT.sm (T := T) ⟨.leaf "same" [x], SqT.of nT.at_, by rw [← exy]; exact .same hx, ⟨by show 1 ≤ 2; decide, trivial⟩⟩ (by decide) (Q := _) fun _ _ _ i => nx _ i
      exact ⟨L3, vs, _, rfl, rfl, e, lz, q⟩
end
end K37

namespace K37
open PySem PySem.Spec PyProof.Rows L2 Ow
abbrev NFl : List Str := ["_law_source_here", "_law_frame_here", "_law_ends_here", "_law_room", "_law_pick_here", "_law_half", "_law_one"]
theorem scFl : FnScope NFl ["_law_source_here", "_law_frame_here", "_law_ends_here", "_law_room"] (defScope sLawFlat) := ⟨rfl, rfl, rfl, by decide +kernel, rfl, by decide +kernel, by decide +kernel⟩
/-- the parts of a term drawn with so much room -/
def szR (n : Nat) : Nat := 3 * n - 1
def spFl (K : PySem.W.Frag) (N : Nat) : Sp := fun vs H Q _ => ∃ (d c e a : Addr) (n : Nat) (xs : List Str) (ls : List Lt) (x y : Str), vs = [.ref d, .ref e, .ref a, .int (n : Int)] ∧ 1 ≤ n ∧ n ≤ N ∧ n ≤ 20 ∧ SrcAt H d c ∧ FrAt K (hid d c H) e xs ls ∧ SqT K (hid d c H) a [.str x, .str y] ∧ x ∈ xs ∧ y ∈ xs ∧
  ∀ (u : Addr) (H' : Hp), SrcAt H' d c → Same (hid d c H) (hid d c H') → Good K xs ls x y (szR n) (hid d c H') u → Q (.ref u) H'
theorem Good.le {K : PySem.W.Frag} {xs : List Str} {ls : List Lt} {x y : Str} {n m : Nat} {H : Hp} {u : Addr} (h : Good K xs ls x y n H u) (l : n ≤ m) : Good K xs ls x y m H u := let ⟨t, a, b, c⟩ := h; ⟨t, a, b, Nat.le_trans c.1 l, c.2⟩
theorem seq_asg {t : TE} {i : Nat} {u : TS} {D : Ends} {σ : L2.St} {H : Hp} (I : V → Hp → Prop) (hu : ∀ v H', I v H' → u D (σ.set i (some v)) H') (h : ∀ Q : VK, (∀ v H', I v H' → Q v H') → t σ H Q) : tSeq (tAsg t (gName i)) u D σ H := h _ hu
section
variable {P : Program} {w : World} {K : PySem.W.Frag} {mg : Str → Option Value} {base : Heap} {f : Addr} {fd : FuncData}
/-- one level: the def's own calls keep the promise for less room -/
theorem fl_step {N k : Nat} (F : FnP K "_law_flat" sLawFlat (He.ga K "_law_flat") fd) (Y : Fx w K mg) (G0 : FnOk P w K mg base CX0 k (He.ga K "_law_flat") fd ["_law_source_here", "_law_frame_here", "_law_ends_here", "_law_room"] (spFl K N)) (hk : 2 ≤ k) :
    FnOk P w K mg base CX0 (k + 1) (He.ga K "_law_flat") fd ["_law_source_here", "_law_frame_here", "_law_ends_here", "_law_room"] (spFl K (N + 1)) := by
  obtain ⟨d1, F1⟩ := Y.dLawPick
  obtain ⟨d2, F2⟩ := Y.dLawLeaf
  have b0 := FunD.bindsN (ps := ["_law_source_here", "_law_frame_here", "_law_ends_here", "_law_room"]) F fun _ _ _ _ _ _ us hl => match us, hl with | [_, _, _, _], _ => rfl
  have b1 := FunD.bindsN (ps := ["_law_source_here", "_law_many"]) F1 fun _ _ _ _ _ _ us hl => match us, hl with | [_, _], _ => rfl
  have b2 := FunD.bindsN (ps := ["_law_source_here", "_law_frame_here", "_law_ends_here", "_law_plain"]) F2 fun _ _ _ _ _ _ us hl => match us, hl with | [_, _, _, _], _ => rfl
  have G1 : FnOk P w K mg base CX0 1 _ d1 ["_law_source_here", "_law_many"] spPick := ok_pick F1 Y.bl
  have G2 : FnOk P w K mg base CX0 2 _ d2 ["_law_source_here", "_law_frame_here", "_law_ends_here", "_law_plain"] (spLf K) := ok_lf F2 Y
  refine okD F scFl (fun vs H Q E h => ?_) (fun cdv A outer s H vs Q E hr h => ?_)
  · obtain ⟨d, c, e, a, n, xs, ls, x, y, rfl, _⟩ := h
    rfl
  · have nd := scFl.nd
    have hu := hu_of hr
    have hr1 : Room 1 _ := hr.mono (by omega)
    have hr2 : Room 2 _ := hr.mono hk
    refine ⟨_, pss_cons (ps_set (i := 4) nd rfl (Or.inl rfl) (pe_ifExp (pt_cmpR op_gt (pv 3) pe_int (nomark _)) (pe_call G1 hr1 (by rfl) Y.gLawPick F1.kp b1 .nil pass0 (pa_cons (pv 0) (pa_cons pe_int pa_nil))) pe_int))
      (pss_cons (ps_if (pt_cmpR op_lt (pv 4) pe_int (nomark _)) (pss_one (ps_ret (pe_call G2 hr2 (by rfl) Y.gLawLeaf F2.kp b2 .nil pass0 (pa_cons (pv 0) (pa_cons (pv 1) (pa_cons (pv 2) (pa_cons pe_bl pa_nil))))))) pss_nil)
      (pss_cons (ps_if (pt_cmpR op_eq (pv 4) pe_int (nomark _)) (pss_one (ps_ret (pe_tup (pa_cons pe_str (pa_cons (pe_call G0 hr (by rfl) Y.gLawFlat F.kp b0 .nil pass0 (pa_cons (pv 0) (pa_cons (pv 1) (pa_cons (pv 2) (pa_cons (pe_op op_sub (pv 3) pe_int) pa_nil))))) pa_nil))))) pss_nil)
      (pss_cons (ps_if (pt_cmpR op_eq (pv 4) pe_int (nomark _)) (pss_one (ps_ret (pe_tup (pa_cons pe_str (pa_cons (pe_call G0 hr (by rfl) Y.gLawFlat F.kp b0 .nil pass0 (pa_cons (pv 0) (pa_cons (pv 1) (pa_cons (pe_rev (pv 2) (pe_un un_neg pe_int)) (pa_cons (pe_op op_sub (pv 3) pe_int) pa_nil))))) pa_nil))))) pss_nil)
      (pss_cons (ps_set (i := 5) nd rfl (Or.inl rfl) (pe_op op_fdiv (pv 3) pe_int))
      (pss_cons (ps_set (i := 6) nd rfl (Or.inl rfl) (pe_call G0 hr (by rfl) Y.gLawFlat F.kp b0 .nil pass0 (pa_cons (pv 0) (pa_cons (pv 1) (pa_cons (pv 2) (pa_cons (pv 5) pa_nil))))))
      (pss_one (ps_ret (pe_tup (pa_cons (pe_ix ix_list (pe_lst (pa_cons pe_str (pa_cons pe_str pa_nil))) (pe_op op_mod (pe_callTy call_int1 (by rfl) Y.bInt boot_int (pa_cons (pv 4) pa_nil)) pe_int) (fun _ _ => rfl)) (pa_cons (pv 6) (pa_cons (pe_call G0 hr (by rfl) Y.gLawFlat F.kp b0 .nil pass0 (pa_cons (pv 0) (pa_cons (pv 1) (pa_cons (pv 2) (pa_cons (pv 5) pa_nil))))) pa_nil))))))))))), ?_⟩
    obtain ⟨d, c, e, a, n, xs, ls, x, y, rfl, n1, nN, n20, src, fr, ha, hx, hy, k⟩ := h
    refine seq_asg (fun v G => ∃ r : Int, v = .int r ∧ 0 ≤ r ∧ r < 6 ∧ (2 ≤ r → 2 ≤ n) ∧ SrcAt G d c ∧ hid d c G = hid d c H) ?_ fun Q hQ => ?_
    · rintro v G ⟨r, rfl, r0, r6, hn, src1, eh⟩
      rw [← eh] at fr ha
      have k' : ∀ (u : Addr) (H' : Hp), SrcAt H' d c → Same (hid d c G) (hid d c H') → Good K xs ls x y (szR n) (hid d c H') u → Q (.ref u) H' := by rw [eh]; exact k
      clear k eh src
      refine ⟨_, rfl, _, _, rfl, rfl, _, rfl, ite2 (fun hc => ?_) (fun hc => ?_)⟩
      · exact ⟨_, rfl, _, rfl, _, rfl, d, c, e, a, false, xs, ls, x, y, rfl, src1, fr, ha, hx, hy, fun u H' s1 s2 g => k' u H' s1 s2 (g.le (by unfold szR; omega))⟩
      have r2 : 2 ≤ r := by simpa using hc
      have n2 := hn r2
      refine ⟨_, rfl, rfl, _, rfl, ite2 (fun hc => ?_) (fun hc => ?_)⟩
      · refine ⟨_, rfl, _, rfl, _, rfl, _, rfl, _, _, rfl, rfl, d, c, e, a, n - 1, xs, ls, x, y, by rw [show ((n - 1 : Nat) : Int) = (n : Int) - 1 by omega]; rfl, by omega, by omega, by omega, src1, fr, ha, hx, hy, fun u H' s1 sm g => ⟨szl (by show 2 ≤ 1000; decide), fun T hT => ?_⟩⟩
        obtain ⟨t, h1, h2, h3, hf⟩ := g
        have nT := new_h (.tup [V.str "rest", V.ref u]) s1 hT
        exact k' T _ nT.src (sm.trans nT.sm) ⟨.one "rest" t, ⟨u, SqT.of nT.at_, h1.same nT.sm⟩, .rest h2, ⟨by unfold szR at h3 ⊢; show 1 + t.sz ≤ _; omega, .inl rfl, hf⟩⟩
      refine ⟨_, rfl, rfl, _, rfl, ite2 (fun hc2 => ?_) (fun hc2 => ?_)⟩
      · refine ⟨_, rfl, _, rfl, _, rfl, _, rfl, rfl, a, _, rfl, .inr ⟨sqt_same hid_sub ha, fun p hp => ?_⟩⟩
        have np := new_h (.tup [V.str y, V.str x]) src1 hp
        refine ⟨_, rfl, _, _, rfl, rfl, d, c, e, p, n - 1, xs, ls, y, x, by rw [show ((n - 1 : Nat) : Int) = (n : Int) - 1 by omega]; rfl, by omega, by omega, by omega, np.src, fr.same np.sm, SqT.of np.at_, hy, hx, fun u H' s1 sm g => ⟨szl (by show 2 ≤ 1000; decide), fun T hT => ?_⟩⟩
        obtain ⟨t, h1, h2, h3, hf⟩ := g
        have nT := new_h (.tup [V.str "turned", V.ref u]) s1 hT
        exact k' T _ nT.src (np.sm.trans (sm.trans nT.sm)) ⟨.one "turned" t, ⟨u, SqT.of nT.at_, h1.same nT.sm⟩, .turned h2, ⟨by unfold szR at h3 ⊢; show 1 + t.sz ≤ _; omega, .inr rfl, hf⟩⟩
      have r45 : r = 4 ∨ r = 5 := by
        have z1 : r ≠ 2 := fun z => hc (by rw [z]; rfl)
        have z2 : r ≠ 3 := fun z => hc2 (by rw [z]; rfl)
        omega
      refine ⟨_, rfl, _, _, rfl, rfl, ⟨by decide, by decide⟩, ?_⟩
      have eh2 : (n : Int) / 2 = ((n / 2 : Nat) : Int) := by omega
      refine ⟨_, rfl, _, rfl, _, rfl, _, rfl, d, c, e, a, n / 2, xs, ls, x, y, by rw [← eh2]; rfl, by omega, by omega, by omega, src1, fr, ha, hx, hy, fun u1 G1 s1 sm1 g1 => ?_⟩
      refine ⟨szl (by show 2 ≤ 1000; decide), fun l hl => ?_⟩
      have nl := new_h (.lst [V.str "joined", V.str "cut"]) s1 hl
      obtain ⟨t1, a1, a2, a3, af⟩ := g1
      rcases r45 with rfl | rfl
      · refine ⟨_, rfl, .inl ⟨_, rfl, _, _, rfl, rfl, (show (0 : Int) < 2 by decide), l, _, _, .str "joined", rfl, rfl, SqL.of upd_same, rfl, ?_⟩⟩
        refine ⟨_, rfl, _, rfl, _, rfl, _, rfl, _, rfl, d, c, e, a, n / 2, xs, ls, x, y, by rw [← eh2]; rfl, by omega, by omega, by omega, nl.src, fr.same (sm1.trans nl.sm), sqt_same (sm1.trans nl.sm) ha, hx, hy, fun u2 G2 s2 sm2 g2 => ⟨szl (by show 3 ≤ 1000; decide), fun T hT => ?_⟩⟩
        obtain ⟨t2, c1, c2, c3, cf⟩ := g2
        have nT := new_h (.tup [V.str "joined", V.ref u1, V.ref u2]) s2 hT
        exact k' T _ nT.src (sm1.trans (nl.sm.trans (sm2.trans nT.sm))) ⟨.two "joined" t1 t2, ⟨u1, u2, SqT.of nT.at_, a1.same (nl.sm.trans (sm2.trans nT.sm)), c1.same nT.sm⟩, .joined a2 c2, ⟨by unfold szR at a3 c3 ⊢; show 1 + t1.sz + t2.sz ≤ _; omega, .inl rfl, af, cf⟩⟩
      · refine ⟨_, rfl, .inl ⟨_, rfl, _, _, rfl, rfl, (show (0 : Int) < 2 by decide), l, _, _, .str "cut", rfl, rfl, SqL.of upd_same, rfl, ?_⟩⟩
        refine ⟨_, rfl, _, rfl, _, rfl, _, rfl, _, rfl, d, c, e, a, n / 2, xs, ls, x, y, by rw [← eh2]; rfl, by omega, by omega, by omega, nl.src, fr.same (sm1.trans nl.sm), sqt_same (sm1.trans nl.sm) ha, hx, hy, fun u2 G2 s2 sm2 g2 => ⟨szl (by show 3 ≤ 1000; decide), fun T hT => ?_⟩⟩
        obtain ⟨t2, c1, c2, c3, cf⟩ := g2
        have nT := new_h (.tup [V.str "cut", V.ref u1, V.ref u2]) s2 hT
        exact k' T _ nT.src (sm1.trans (nl.sm.trans (sm2.trans nT.sm))) ⟨.two "cut" t1 t2, ⟨u1, u2, SqT.of nT.at_, a1.same (nl.sm.trans (sm2.trans nT.sm)), c1.same nT.sm⟩, .cut a2 c2, ⟨by unfold szR at a3 c3 ⊢; show 1 + t1.sz + t2.sz ≤ _; omega, .inr rfl, af, cf⟩⟩
    · refine ⟨_, rfl, _, _, rfl, rfl, _, rfl, ite2 (fun hc => ?_) (fun hc => ?_)⟩
      · have n2 : 1 < (n : Int) := of_decide_eq_true hc
        exact ⟨_, rfl, d, c, 6, rfl, src, by decide, by decide, fun r G r0 r1 src1 keep => hQ _ _ ⟨r, rfl, r0, r1, fun _ => by omega, src1, hid_pick keep⟩⟩
      · exact hQ _ _ ⟨0, rfl, by decide, by decide, fun z => absurd z (by decide), src, rfl⟩
theorem fl_none {fd : FuncData} : FnOk P w K mg base CX0 2 (He.ga K "_law_flat") fd ["_law_source_here", "_law_frame_here", "_law_ends_here", "_law_room"] (spFl K 0) := by
  refine ⟨fun vs H Q E h => ?_, fun A outer s H args us vs Q E hr e0 bt r h => ?_⟩
  · obtain ⟨_, _, _, _, n, _, _, _, _, _, h1, h2, _⟩ := h
    omega
  · obtain ⟨_, _, _, _, n, _, _, _, _, _, h1, h2, _⟩ := h
    omega
/-- the def with so much room -/
theorem ok_fl (F : FnP K "_law_flat" sLawFlat (He.ga K "_law_flat") fd) (Y : Fx w K mg) : ∀ N, FnOk P w K mg base CX0 (N + 2) (He.ga K "_law_flat") fd ["_law_source_here", "_law_frame_here", "_law_ends_here", "_law_room"] (spFl K N)
  | 0 => fl_none
  | N + 1 => fl_step F Y (ok_fl F Y N) (by omega)
end
end K37

namespace K37
open PySem PySem.Spec PyProof.Rows L2 Ow
/-- .. and short, where so is drawn -/
def GoodS (K : PySem.W.Frag) (xs : List Str) (ls : List Lt) (x y : Str) (n : Nat) (kd : Str) (H : Hp) (u : Addr) : Prop := ∃ t, TmAt K H u t ∧ Ty xs ls t x y ∧ (t.sz ≤ szR n ∧ ShK kd n t)
theorem Good.toS {K : PySem.W.Frag} {xs : List Str} {ls : List Lt} {x y : Str} {m n : Nat} {kd : Str} {H : Hp} {u : Addr} (h : Good K xs ls x y m H u) (l : m ≤ szR n) : GoodS K xs ls x y n kd H u := let ⟨t, a, b, c⟩ := h; ⟨t, a, b, Nat.le_trans c.1 l, .flat c.2⟩
abbrev NTm : List Str := ["_law_source_here", "_law_frame_here", "_law_ends_here", "_law_room", "_law_kind", "_law_pick_here", "_law_plain", "_law_half", "_law_one", "_law_middle"]
abbrev PTm : List Str := ["_law_source_here", "_law_frame_here", "_law_ends_here", "_law_room", "_law_kind"]
theorem scTm : FnScope NTm PTm (defScope sLawTerm) := ⟨rfl, rfl, rfl, by decide +kernel, rfl, by decide +kernel, by decide +kernel⟩
def spTm (K : PySem.W.Frag) (N : Nat) : Sp := fun vs H Q _ => ∃ (d c e a : Addr) (n : Nat) (kd : Str) (xs : List Str) (ls : List Lt) (x y : Str), vs = [.ref d, .ref e, .ref a, .int (n : Int), .str kd] ∧ 1 ≤ n ∧ n ≤ N ∧ n ≤ 20 ∧ SrcAt H d c ∧ FrAt K (hid d c H) e xs ls ∧ SqT K (hid d c H) a [.str x, .str y] ∧ x ∈ xs ∧ y ∈ xs ∧
  ∀ (u : Addr) (H' : Hp), SrcAt H' d c → Same (hid d c H) (hid d c H') → GoodS K xs ls x y n kd (hid d c H') u → Q (.ref u) H'
section
variable {P : Program} {w : World} {K : PySem.W.Frag} {mg : Str → Option Value} {base : Heap} {f : Addr} {fd : FuncData}
/-- one level: the def's own calls keep the promise for less room -/
theorem tm_step {N k : Nat} (F : FnP K "_law_term" sLawTerm (He.ga K "_law_term") fd) (Y : Fx w K mg) (G0 : FnOk P w K mg base CX0 k (He.ga K "_law_term") fd PTm (spTm K N)) (hk : 22 ≤ k) :
    FnOk P w K mg base CX0 (k + 1) (He.ga K "_law_term") fd PTm (spTm K (N + 1)) := by
  obtain ⟨d1, F1⟩ := Y.dLawPick
  obtain ⟨d2, F2⟩ := Y.dLawLeaf
  obtain ⟨d3, F3⟩ := Y.dLawFlat
  have b0 := FunD.bindsN (ps := PTm) F fun _ _ _ _ _ _ us hl => match us, hl with | [_, _, _, _, _], _ => rfl
  have b1 := FunD.bindsN (ps := ["_law_source_here", "_law_many"]) F1 fun _ _ _ _ _ _ us hl => match us, hl with | [_, _], _ => rfl
  have b2 := FunD.bindsN (ps := ["_law_source_here", "_law_frame_here", "_law_ends_here", "_law_plain"]) F2 fun _ _ _ _ _ _ us hl => match us, hl with | [_, _, _, _], _ => rfl
  have b3 := FunD.bindsN (ps := ["_law_source_here", "_law_frame_here", "_law_ends_here", "_law_room"]) F3 fun _ _ _ _ _ _ us hl => match us, hl with | [_, _, _, _], _ => rfl
  have G1 : FnOk P w K mg base CX0 1 _ d1 ["_law_source_here", "_law_many"] spPick := ok_pick F1 Y.bl
  have G2 : FnOk P w K mg base CX0 2 _ d2 ["_law_source_here", "_law_frame_here", "_law_ends_here", "_law_plain"] (spLf K) := ok_lf F2 Y
  have G3 : FnOk P w K mg base CX0 22 _ d3 ["_law_source_here", "_law_frame_here", "_law_ends_here", "_law_room"] (spFl K 20) := ok_fl F3 Y 20
  refine okD F scTm (fun vs H Q E h => ?_) (fun cdv A outer s H vs Q E hr h => ?_)
  · obtain ⟨d, c, e, a, n, kd, xs, ls, x, y, rfl, _⟩ := h
    rfl
  · have nd := scTm.nd
    have hu := hu_of hr
    have hr1 : Room 1 _ := hr.mono (by omega)
    have hr2 : Room 2 _ := hr.mono (by omega)
    have hr3 : Room 22 _ := hr.mono hk
    refine ⟨_, pss_cons (ps_set (i := 5) nd rfl (Or.inl rfl) (pe_ifExp (pt_cmpR op_gt (pv 3) pe_int (nomark _)) (pe_call G1 hr1 (by rfl) Y.gLawPick F1.kp b1 .nil pass0 (pa_cons (pv 0) (pa_cons pe_int pa_nil))) pe_int))
      (pss_cons (ps_par (i := 6) (j := 7) (by rfl) nd rfl rfl (by decide) rfl rfl (pa_cons (pe_cmpR op_eq (pv 4) pe_str (nomark _)) (pa_cons (pe_op op_fdiv (pv 3) pe_int) pa_nil)) (by rfl))
      (pss_cons (ps_if (pt_cmpR op_lt (pv 5) pe_int (nomark _)) (pss_one (ps_ret (pe_call G2 hr2 (by rfl) Y.gLawLeaf F2.kp b2 .nil pass0 (pa_cons (pv 0) (pa_cons (pv 1) (pa_cons (pv 2) (pa_cons (pv 6) pa_nil))))))) pss_nil)
      (pss_cons (ps_if (pt_cmpR op_eq (pv 5) pe_int (nomark _)) (pss_one (ps_ret (pe_ifExp (pt_val (pv 6)) (pe_call G2 hr2 (by rfl) Y.gLawLeaf F2.kp b2 .nil pass0 (pa_cons (pv 0) (pa_cons (pv 1) (pa_cons (pv 2) (pa_cons pe_bl pa_nil)))))
          (pe_call G3 hr3 (by rfl) Y.gLawFlat F3.kp b3 .nil pass0 (pa_cons (pv 0) (pa_cons (pv 1) (pa_cons (pv 2) (pa_cons (pv 3) pa_nil)))))))) pss_nil)
      (pss_cons (ps_if (pt_cmpR op_eq (pv 5) pe_int (nomark _)) (pss_one (ps_ret (pe_tup (pa_cons pe_str (pa_cons (pe_call G0 hr (by rfl) Y.gLawTerm F.kp b0 .nil pass0 (pa_cons (pv 0) (pa_cons (pv 1) (pa_cons (pe_rev (pv 2) (pe_un un_neg pe_int)) (pa_cons (pe_op op_sub (pv 3) pe_int) (pa_cons (pv 4) pa_nil)))))) pa_nil))))) pss_nil)
      (pss_cons (ps_if (pt_cmpR op_in_seq (pv 5) (pe_lst (pa_cons pe_int (pa_cons pe_int pa_nil))) (by rfl))
          (pss_cons (ps_set (i := 8) nd rfl (Or.inl rfl) (pe_call G0 hr (by rfl) Y.gLawTerm F.kp b0 .nil pass0 (pa_cons (pv 0) (pa_cons (pv 1) (pa_cons (pv 2) (pa_cons (pv 7) (pa_cons (pv 4) pa_nil)))))))
          (pss_one (ps_ret (pe_tup (pa_cons (pe_ix ix_list (pe_lst (pa_cons pe_str (pa_cons pe_str pa_nil))) (pe_op op_mod (pe_callTy call_int1 (by rfl) Y.bInt boot_int (pa_cons (pv 5) pa_nil)) pe_int) (fun _ _ => rfl)) (pa_cons (pv 8) (pa_cons (pe_call G0 hr (by rfl) Y.gLawTerm F.kp b0 .nil pass0 (pa_cons (pv 0) (pa_cons (pv 1) (pa_cons (pv 2) (pa_cons (pv 7) (pa_cons (pv 4) pa_nil)))))) pa_nil))))))) pss_nil)
      (pss_cons (ps_if (pw_and (pt_cmpR op_eq (pv 5) pe_int (nomark _)) (pw_and (pt_cmpR op_eq (pe_ix ix_tup (pv 2) pe_int (fun _ _ => rfl)) (pe_ix ix_tup (pv 2) pe_int (fun _ _ => rfl)) (nomark _)) (pw_and1 (pt_cmpR op_in_seq (pv 4) (pe_lst (pa_cons pe_str (pa_cons pe_str pa_nil))) (by rfl))))).pt
          (pss_one (ps_ret (pe_tup (pa_cons (pe_ix ix_list (pe_lst (pa_cons pe_str (pa_cons pe_str pa_nil))) (pe_call G1 hr1 (by rfl) Y.gLawPick F1.kp b1 .nil pass0 (pa_cons (pv 0) (pa_cons pe_int pa_nil))) (fun _ _ => rfl)) (pa_cons (pe_call G0 hr (by rfl) Y.gLawTerm F.kp b0 .nil pass0 (pa_cons (pv 0) (pa_cons (pv 1) (pa_cons (pv 2) (pa_cons (pe_op op_sub (pv 3) pe_int) (pa_cons (pv 4) pa_nil)))))) pa_nil))))) pss_nil)
      (pss_cons (ps_if (pw_and (pt_cmpR op_eq (pv 5) pe_int (nomark _)) (pw_and1 (pt_cmpR op_eq (pv 4) pe_str (nomark _)))).pt
          (pss_one (ps_ret (pe_tup (pa_cons pe_str (pa_cons (pe_call G0 hr (by rfl) Y.gLawTerm F.kp b0 .nil pass0 (pa_cons (pv 0) (pa_cons (pv 1) (pa_cons (pv 2) (pa_cons (pe_op op_sub (pv 3) pe_int) (pa_cons (pv 4) pa_nil)))))) pa_nil))))) pss_nil)
      (pss_cons (ps_set (i := 9) nd rfl (Or.inl rfl) (pe_ix ix_list (pe_dget hu (pv 1) pe_str nosl) (pe_call G1 hr1 (by rfl) Y.gLawPick F1.kp b1 .nil pass0 (pa_cons (pv 0) (pa_cons (pe_callB call_len_seq (by rfl) Y.bLen PySem.boot_len (pa_cons (pe_dget hu (pv 1) pe_str nosl) pa_nil)) pa_nil))) (fun _ _ => rfl)))
      (pss_cons (ps_set (i := 8) nd rfl (Or.inl rfl) (pe_call G0 hr (by rfl) Y.gLawTerm F.kp b0 .nil pass0 (pa_cons (pv 0) (pa_cons (pv 1) (pa_cons (pe_tup (pa_cons (pe_ix ix_tup (pv 2) pe_int (fun _ _ => rfl)) (pa_cons (pv 9) pa_nil))) (pa_cons (pv 7) (pa_cons (pv 4) pa_nil)))))))
      (pss_one (ps_ret (pe_tup (pa_cons pe_str (pa_cons (pv 8) (pa_cons (pe_call G0 hr (by rfl) Y.gLawTerm F.kp b0 .nil pass0 (pa_cons (pv 0) (pa_cons (pv 1) (pa_cons (pe_tup (pa_cons (pv 9) (pa_cons (pe_ix ix_tup (pv 2) pe_int (fun _ _ => rfl)) pa_nil))) (pa_cons (pv 7) (pa_cons (pv 4) pa_nil)))))) pa_nil)))))))))))))))  , ?_⟩
    obtain ⟨d, c, e, a, n, kd, xs, ls, x, y, rfl, n1, nN, n20, src, fr, ha, hx, hy, k⟩ := h
    refine seq_asg (fun v G => ∃ r : Int, v = .int r ∧ 0 ≤ r ∧ r < 9 ∧ (2 ≤ r → 2 ≤ n) ∧ SrcAt G d c ∧ hid d c G = hid d c H) ?_ fun Q hQ => ?_
    · rintro v G ⟨r, rfl, r0, r9, hn, src1, eh⟩
      rw [← eh] at fr ha
      have k' : ∀ (u : Addr) (H' : Hp), SrcAt H' d c → Same (hid d c G) (hid d c H') → GoodS K xs ls x y n kd (hid d c H') u → Q (.ref u) H' := by rw [eh]; exact k
      clear k eh src
      have eh2 : (n : Int) / 2 = ((n / 2 : Nat) : Int) := by omega
      have haG := sqt_same hid_sub ha
      refine ⟨_, rfl, rfl, _, rfl, _, _, rfl, rfl, ⟨by decide, by decide⟩, _, _, rfl, ?_⟩
      dsimp only
      change tSeq (tIfS _ _ _) _ _ [some (.ref d), some (.ref e), some (.ref a), some (.int (n : Int)), some (.str kd), some (.int r), some (.bl (decide (V.str kd = V.str "plain"))), some (.int ((n : Int) / 2)), none, none] G
      rw [eh2]
      refine ⟨_, rfl, _, _, rfl, rfl, _, rfl, ite2 (fun hc => ?_) (fun hc => ?_)⟩
      · exact ⟨_, rfl, _, rfl, _, rfl, _, rfl, d, c, e, a, _, xs, ls, x, y, rfl, src1, fr, ha, hx, hy, fun u H' s1 s2 g => k' u H' s1 s2 (g.toS (by unfold szR; omega))⟩
      have r2 : 2 ≤ r := by simpa using hc
      have n2 := hn r2
      clear hn
      refine ⟨_, rfl, rfl, _, rfl, ite2 (fun hc => ?_) (fun hc1 => ?_)⟩
      · refine ⟨_, rfl, _, rfl, ite2 (fun _ => ?_) (fun _ => ?_)⟩
        · exact ⟨_, rfl, _, rfl, _, rfl, d, c, e, a, true, xs, ls, x, y, rfl, src1, fr, ha, hx, hy, fun u H' s1 s2 g => k' u H' s1 s2 (g.toS (by unfold szR; omega))⟩
        · exact ⟨_, rfl, _, rfl, _, rfl, _, rfl, d, c, e, a, n, xs, ls, x, y, rfl, n1, n20, n20, src1, fr, ha, hx, hy, fun u H' s1 s2 g => k' u H' s1 s2 (g.toS (Nat.le_refl _))⟩
      refine ⟨_, rfl, rfl, _, rfl, ite2 (fun _ => ?_) (fun hc2 => ?_)⟩
      · refine ⟨_, rfl, _, rfl, _, rfl, _, rfl, rfl, a, _, rfl, .inr ⟨haG, fun p hp => ?_⟩⟩
        have np := new_h (.tup [V.str y, V.str x]) src1 hp
        refine ⟨_, rfl, _, _, rfl, rfl, _, rfl, d, c, e, p, n - 1, kd, xs, ls, y, x, by rw [show ((n - 1 : Nat) : Int) = (n : Int) - 1 by omega]; rfl, by omega, by omega, by omega, np.src, fr.same np.sm, SqT.of np.at_, hy, hx, fun u H' s1 sm g => ⟨szl (by show 2 ≤ 1000; decide), fun T hT => ?_⟩⟩
        obtain ⟨t, h1, h2, h3, hf⟩ := g
        have nT := new_h (.tup [V.str "turned", V.ref u]) s1 hT
        exact k' T _ nT.src (np.sm.trans (sm.trans nT.sm)) ⟨.one "turned" t, ⟨u, SqT.of nT.at_, h1.same nT.sm⟩, .turned h2, ⟨by unfold szR at h3 ⊢; show 1 + t.sz ≤ _; omega, hf.turned⟩⟩
      have z1 : r ≠ 2 := fun z => hc1 (by rw [z]; rfl)
      have z2 : r ≠ 3 := fun z => hc2 (by rw [z]; rfl)
      -- r in [4, 5]
      refine ⟨_, rfl, szl (by show 2 ≤ 1000; decide), fun l0 hl0 => ?_⟩
      have nl0 := new_h (.lst [V.int 4, V.int 5]) src1 hl0
      refine ⟨l0, _, rfl, .inl (SqL.of upd_same), rfl, rfl, _, rfl, ite2 (fun hc => ?_) (fun hc3 => ?_)⟩
      · have r45 : r = 4 ∨ r = 5 := by
          have z : inV (V.int r) [V.int 4, V.int 5] = true := by simpa using hc
          simp [inV, eqV] at z
          omega
        refine ⟨_, rfl, _, rfl, _, rfl, _, rfl, _, rfl, d, c, e, a, n / 2, kd, xs, ls, x, y, rfl, by omega, by omega, by omega, nl0.src, fr.same nl0.sm, sqt_same nl0.sm ha, hx, hy, fun u1 G1 s1 sm1 g1 => ?_⟩
        replace sm1 := nl0.sm.trans sm1
        refine ⟨szl (by show 2 ≤ 1000; decide), fun l hl => ?_⟩
        have nl := new_h (.lst [V.str "joined", V.str "cut"]) s1 hl
        obtain ⟨t1, a1, a2, a3, af⟩ := g1
        rcases r45 with rfl | rfl
        · refine ⟨_, rfl, .inl ⟨_, rfl, _, _, rfl, rfl, (show (0 : Int) < 2 by decide), l, _, _, .str "joined", rfl, rfl, SqL.of upd_same, rfl, ?_⟩⟩
          refine ⟨_, rfl, _, rfl, _, rfl, _, rfl, _, rfl, _, rfl, d, c, e, a, n / 2, kd, xs, ls, x, y, rfl, by omega, by omega, by omega, nl.src, fr.same (sm1.trans nl.sm), sqt_same (sm1.trans nl.sm) ha, hx, hy, fun u2 G2 s2 sm2 g2 => ⟨szl (by show 3 ≤ 1000; decide), fun T hT => ?_⟩⟩
          obtain ⟨t2, c1, c2, c3, cf⟩ := g2
          have nT := new_h (.tup [V.str "joined", V.ref u1, V.ref u2]) s2 hT
          exact k' T _ nT.src (sm1.trans (nl.sm.trans (sm2.trans nT.sm))) ⟨.two "joined" t1 t2, ⟨u1, u2, SqT.of nT.at_, a1.same (nl.sm.trans (sm2.trans nT.sm)), c1.same nT.sm⟩, .joined a2 c2, ⟨by unfold szR at a3 c3 ⊢; show 1 + t1.sz + t2.sz ≤ _; omega, .two (.inl rfl) n2 af cf⟩⟩
        · refine ⟨_, rfl, .inl ⟨_, rfl, _, _, rfl, rfl, (show (0 : Int) < 2 by decide), l, _, _, .str "cut", rfl, rfl, SqL.of upd_same, rfl, ?_⟩⟩
          refine ⟨_, rfl, _, rfl, _, rfl, _, rfl, _, rfl, _, rfl, d, c, e, a, n / 2, kd, xs, ls, x, y, rfl, by omega, by omega, by omega, nl.src, fr.same (sm1.trans nl.sm), sqt_same (sm1.trans nl.sm) ha, hx, hy, fun u2 G2 s2 sm2 g2 => ⟨szl (by show 3 ≤ 1000; decide), fun T hT => ?_⟩⟩
          obtain ⟨t2, c1, c2, c3, cf⟩ := g2
          have nT := new_h (.tup [V.str "cut", V.ref u1, V.ref u2]) s2 hT
          exact k' T _ nT.src (sm1.trans (nl.sm.trans (sm2.trans nT.sm))) ⟨.two "cut" t1 t2, ⟨u1, u2, SqT.of nT.at_, a1.same (nl.sm.trans (sm2.trans nT.sm)), c1.same nT.sm⟩, .cut a2 c2, ⟨by unfold szR at a3 c3 ⊢; show 1 + t1.sz + t2.sz ≤ _; omega, .two (.inr (.inl rfl)) n2 af cf⟩⟩
      have src2 := nl0.src
      have sm2 := nl0.sm
      obtain ⟨G2, eg⟩ : ∃ Z, Z = upd G l0 (.lst [V.int 4, V.int 5]) := ⟨_, rfl⟩
      dsimp only [tNext]
      change tSeq (tIfS _ _ _) _ _ [some (.ref d), some (.ref e), some (.ref a), some (.int (n : Int)), some (.str kd), some (.int r), some (.bl (decide (V.str kd = V.str "plain"))), some (.int ((n / 2 : Nat) : Int)), none, none] (upd G l0 (.lst [V.int 4, V.int 5]))
      rw [← eg] at src2 sm2 ⊢
      clear eg nl0 hc3
      refine seq_if (fun G' => SrcAt G' d c ∧ Same (hid d c G) (hid d c G')) (fun G3 ⟨src3, sm3⟩ => ?_) (fun nx => ?_)
      · refine seq_if (fun G' => SrcAt G' d c ∧ Same (hid d c G) (hid d c G')) (fun G4 ⟨src4, sm4⟩ => ?_) (fun nx => ?_)
        · -- then
          obtain ⟨s, m, o, gs, _, _, es, _, _⟩ := fr.fr
          have gs4 := dget_mono hid_sub (dget_mono sm4 gs)
          have es4 := hid_sub _ _ (sm4 _ _ es)
          have x16 := fr.ok.nx.n
          have x1 : 1 ≤ xs.length := by
            cases xs with
            | nil => exact absurd hx List.not_mem_nil
            | cons _ _ => exact Nat.succ_pos _
          refine ⟨_, rfl, e, .ref s, rfl, gs4, _, rfl, _, rfl, e, .ref s, rfl, gs4, s, _, rfl, .inl (SqL.of es4), ?_⟩
          rw [List.length_map]
          refine ⟨d, c, (xs.length : Int), rfl, src4, by omega, by omega, fun r2 G5 r0 r1 src5 keep => ?_⟩
          obtain ⟨j, rfl⟩ : ∃ j : Nat, r2 = (j : Int) := ⟨r2.toNat, by omega⟩
          have lj : j < xs.length := by omega
          have eh5 : hid d c G5 = hid d c G4 := hid_pick keep
          have sm5 : Same (hid d c G) (hid d c G5) := by rw [eh5]; exact sm4
          refine ⟨s, _, _, _, rfl, rfl, SqL.of (hid_sub _ _ (sm5 _ _ es)), str_ix lj, ?_⟩
          obtain ⟨mid, em⟩ : ∃ mid, mid = xs[j] := ⟨_, rfl⟩
          have hm : mid ∈ xs := em ▸ List.getElem_mem lj
          rw [← em]
          dsimp only [gName]
          change tSeq (tAsg _ _) _ _ [some (.ref d), some (.ref e), some (.ref a), some (.int (n : Int)), some (.str kd), some (.int r), some (.bl (decide (V.str kd = V.str "plain"))), some (.int ((n / 2 : Nat) : Int)), none, some (.str mid)] G5
          refine ⟨_, rfl, _, rfl, _, rfl, a, _, 0, _, rfl, rfl, sqt_same hid_sub (sqt_same sm5 ha), rfl, _, rfl, szl (by show 2 ≤ 1000; decide), fun p hp => ?_⟩
          have np := new_h (.tup [V.str x, V.str mid]) src5 hp
          refine ⟨_, rfl, _, rfl, d, c, e, p, n / 2, kd, xs, ls, x, mid, rfl, by omega, by omega, by omega, np.src, fr.same (sm5.trans np.sm), SqT.of np.at_, hx, hm, fun u1 G6 s6 sm6 g1 => ?_⟩
          obtain ⟨t1, a1, a2, a3, af⟩ := g1
          have sm7 := sm5.trans (np.sm.trans sm6)
          refine ⟨_, rfl, _, rfl, _, rfl, _, rfl, _, rfl, a, _, 1, _, rfl, rfl, sqt_same hid_sub (sqt_same sm7 ha), rfl, szl (by show 2 ≤ 1000; decide), fun p2 hp2 => ?_⟩
          have np2 := new_h (.tup [V.str mid, V.str y]) s6 hp2
          refine ⟨_, rfl, _, rfl, d, c, e, p2, n / 2, kd, xs, ls, mid, y, rfl, by omega, by omega, by omega, np2.src, fr.same (sm7.trans np2.sm), SqT.of np2.at_, hm, hy, fun u2 G8 s8 sm8 g2 => ⟨szl (by show 3 ≤ 1000; decide), fun T hT => ?_⟩⟩
          obtain ⟨t2, c1, c2, c3, cf⟩ := g2
          have nT := new_h (.tup [V.str "then", V.ref u1, V.ref u2]) s8 hT
          exact k' T _ nT.src (sm7.trans (np2.sm.trans (sm8.trans nT.sm))) ⟨.two "then" t1 t2, ⟨u1, u2, SqT.of nT.at_, a1.same (np2.sm.trans (sm8.trans nT.sm)), c1.same nT.sm⟩, .then_ a2 c2, ⟨by unfold szR at a3 c3 ⊢; show 1 + t1.sz + t2.sz ≤ _; omega, .two (.inr (.inr rfl)) n2 af cf⟩⟩
        · refine ⟨_, rfl, rfl, _, rfl, ite2 (fun _ => ?_) (fun _ => iteF (nx _ ⟨src3, sm3⟩))⟩
          refine ⟨_, rfl, rfl, _, rfl, ite2 (fun hkd => ?_) (fun _ => nx _ ⟨src3, sm3⟩)⟩
          refine ⟨_, rfl, _, rfl, _, rfl, _, rfl, _, _, rfl, rfl, _, rfl, d, c, e, a, n - 1, kd, xs, ls, x, y, by rw [show ((n - 1 : Nat) : Int) = (n : Int) - 1 by omega]; rfl, by omega, by omega, by omega, src3, fr.same sm3, sqt_same sm3 ha, hx, hy, fun u H' s1 sm g => ⟨szl (by show 2 ≤ 1000; decide), fun T hT => ?_⟩⟩
          obtain ⟨t, h1, h2, h3, hf⟩ := g
          have nT := new_h (.tup [V.str "rest", V.ref u]) s1 hT
          exact k' T _ nT.src (sm3.trans (sm.trans nT.sm)) ⟨.one "rest" t, ⟨u, SqT.of nT.at_, h1.same nT.sm⟩, .rest h2, ⟨by unfold szR at h3 ⊢; show 1 + t.sz ≤ _; omega, fun e => absurd hkd (by rw [e]; decide +kernel)⟩⟩
      · refine ⟨_, rfl, rfl, _, rfl, ite2 (fun _ => ?_) (fun _ => iteF (nx _ ⟨src2, sm2⟩))⟩
        have ha2 := sqt_same hid_sub (sqt_same sm2 ha)
        refine ⟨_, rfl, a, _, 0, _, rfl, rfl, ha2, rfl, _, rfl, a, _, 1, _, rfl, rfl, ha2, rfl, rfl, _, rfl, ite2 (fun hxy => ?_) (fun _ => iteF (nx _ ⟨src2, sm2⟩))⟩
        have exy : x = y := by simpa using hxy
        refine ⟨_, rfl, szl (by show 2 ≤ 1000; decide), fun l hl => ?_⟩
        have nl := new_h (.lst [V.str "kept", V.str "free"]) src2 hl
        refine ⟨l, _, rfl, .inl (SqL.of upd_same), rfl, rfl, _, rfl, ite2 (fun hkd => ?_) (fun _ => nx _ ⟨nl.src, sm2.trans nl.sm⟩)⟩
        have sm3 := sm2.trans nl.sm
        refine ⟨szl (by show 2 ≤ 1000; decide), fun l2 hl2 => ?_⟩
        have nl2 := new_h (.lst [V.str "closed", V.str "walked"]) nl.src hl2
        refine ⟨_, rfl, d, c, 2, rfl, nl2.src, by decide, by decide, fun r2 G5 r0 r1 src5 keep => ?_⟩
        have eh5 := hid_pick keep
        have sm5 : Same (hid d c G) (hid d c G5) := by rw [eh5]; exact sm3.trans nl2.sm
        have el2 : G5 l2 = some (.lst [V.str "closed", V.str "walked"]) := (keep l2 nl2.nd nl2.nc).trans upd_same
        have r01 : r2 = 0 ∨ r2 = 1 := by omega
        rcases r01 with rfl | rfl
        · refine ⟨l2, _, _, .str "closed", rfl, rfl, SqL.of el2, rfl, _, rfl, _, rfl, _, rfl, _, rfl, _, _, rfl, rfl, _, rfl, d, c, e, a, n - 1, kd, xs, ls, x, y, by rw [show ((n - 1 : Nat) : Int) = (n : Int) - 1 by omega]; rfl, by omega, by omega, by omega, src5, fr.same sm5, sqt_same sm5 ha, hx, hy, fun u H' s1 sm g => ⟨szl (by show 2 ≤ 1000; decide), fun T hT => ?_⟩⟩
          obtain ⟨t, h1, h2, h3, hf⟩ := g
          have nT := new_h (.tup [V.str "closed", V.ref u]) s1 hT
          exact k' T _ nT.src (sm5.trans (sm.trans nT.sm)) ⟨.one "closed" t, ⟨u, SqT.of nT.at_, h1.same nT.sm⟩, by rw [← exy] at h2 ⊢; exact .closed h2, ⟨by unfold szR at h3 ⊢; show 1 + t.sz ≤ _; omega, .closed hf⟩⟩
        · refine ⟨l2, _, _, .str "walked", rfl, rfl, SqL.of el2, rfl, _, rfl, _, rfl, _, rfl, _, rfl, _, _, rfl, rfl, _, rfl, d, c, e, a, n - 1, kd, xs, ls, x, y, by rw [show ((n - 1 : Nat) : Int) = (n : Int) - 1 by omega]; rfl, by omega, by omega, by omega, src5, fr.same sm5, sqt_same sm5 ha, hx, hy, fun u H' s1 sm g => ⟨szl (by show 2 ≤ 1000; decide), fun T hT => ?_⟩⟩
          obtain ⟨t, h1, h2, h3, hf⟩ := g
          have nT := new_h (.tup [V.str "walked", V.ref u]) s1 hT
          exact k' T _ nT.src (sm5.trans (sm.trans nT.sm)) ⟨.one "walked" t, ⟨u, SqT.of nT.at_, h1.same nT.sm⟩, by rw [← exy] at h2 ⊢; exact .walked h2, ⟨by unfold szR at h3 ⊢; show 1 + t.sz ≤ _; omega, .walked hf⟩⟩
    · refine ⟨_, rfl, _, _, rfl, rfl, _, rfl, ite2 (fun hc => ?_) (fun hc => ?_)⟩
      · have n2 : 1 < (n : Int) := of_decide_eq_true hc
        exact ⟨_, rfl, d, c, 9, rfl, src, by decide, by decide, fun r G r0 r1 src1 keep => hQ _ _ ⟨r, rfl, r0, r1, fun _ => by omega, src1, hid_pick keep⟩⟩
      · exact hQ _ _ ⟨0, rfl, by decide, by decide, fun z => absurd z (by decide), src, rfl⟩
theorem tm_none : FnOk P w K mg base CX0 22 (He.ga K "_law_term") fd PTm (spTm K 0) := by
  refine ⟨fun vs H Q E h => ?_, fun A outer s H args us vs Q E hr e0 bt r h => ?_⟩
  · obtain ⟨_, _, _, _, n, _, _, _, _, _, _, h1, h2, _⟩ := h
    omega
  · obtain ⟨_, _, _, _, n, _, _, _, _, _, _, h1, h2, _⟩ := h
    omega
theorem ok_tm (F : FnP K "_law_term" sLawTerm (He.ga K "_law_term") fd) (Y : Fx w K mg) : ∀ N, FnOk P w K mg base CX0 (22 + N) (He.ga K "_law_term") fd PTm (spTm K N)
  | 0 => tm_none
  | N + 1 => tm_step F Y (ok_tm F Y N) (Nat.le_add_right 22 N)
abbrev NSe : List Str := ["_law_source_here", "_law_frame_here", "_law_pick_here", "_law_ends_here"]
theorem scSe : FnScope NSe ["_law_source_here", "_law_frame_here"] (defScope sLawSomeEnds) := ⟨rfl, rfl, rfl, by decide +kernel, rfl, by decide +kernel, by decide +kernel⟩
def spSe (K : PySem.W.Frag) : Sp := fun vs H Q _ => ∃ (d c e : Addr) (xs : List Str) (ls : List Lt), vs = [.ref d, .ref e] ∧ SrcAt H d c ∧ FrAt K (hid d c H) e xs ls ∧ 1 ≤ ls.length ∧
  ∀ (u : Addr) (x y : Str) (H' : Hp), SrcAt H' d c → Same (hid d c H) (hid d c H') → SqT K (hid d c H') u [.str x, .str y] → x ∈ xs → y ∈ xs → Q (.ref u) H'
theorem ok_se (F : FnP K "_law_some_ends" sLawSomeEnds f fd) (Y : Fx w K mg) : FnOk P w K mg base CX0 2 f fd ["_law_source_here", "_law_frame_here"] (spSe K) := by
  obtain ⟨d1, F1⟩ := Y.dLawPick
  have b1 := FunD.bindsN (ps := ["_law_source_here", "_law_many"]) F1 fun _ _ _ _ _ _ us hl => match us, hl with | [_, _], _ => rfl
  have G1 : FnOk P w K mg base CX0 1 _ d1 ["_law_source_here", "_law_many"] spPick := ok_pick F1 Y.bl
  refine okD F scSe (fun vs H Q E h => ?_) (fun cdv A outer s H vs Q E hr h => ?_)
  · obtain ⟨d, c, e, xs, ls, rfl, _⟩ := h
    rfl
  · have nd := scSe.nd
    have hu := hu_of hr
    refine ⟨_, pss_cons (ps_set (i := 2) nd rfl (Or.inl rfl) (pe_call G1 hr (by rfl) Y.gLawPick F1.kp b1 .nil pass0 (pa_cons (pv 0) (pa_cons pe_int pa_nil))))
      (pss_cons (ps_set (i := 3) nd rfl (Or.inl rfl) (pe_dget hu (pe_dget hu (pv 1) pe_str nosl) (pe_ix ix_list (pe_dget hu (pv 1) pe_str nosl) (pe_call G1 hr (by rfl) Y.gLawPick F1.kp b1 .nil pass0 (pa_cons (pv 0) (pa_cons (pe_callB call_len_seq (by rfl) Y.bLen PySem.boot_len (pa_cons (pe_dget hu (pv 1) pe_str nosl) pa_nil)) pa_nil))) (fun _ _ => rfl)) nosl))
      (pss_cons (ps_if (pt_cmpR op_eq (pv 2) pe_int (nomark _)) (pss_one (ps_set (i := 3) nd rfl (Or.inl rfl) (pe_rev (pv 3) (pe_un un_neg pe_int)))) pss_nil)
      (pss_cons (ps_if (pt_cmpR op_eq (pv 2) pe_int (nomark _)) (pss_one (ps_set (i := 3) nd rfl (Or.inl rfl) (pe_tup (pa_cons (pe_ix ix_tup (pv 3) pe_int (fun _ _ => rfl)) (pa_cons (pe_ix ix_tup (pv 3) pe_int (fun _ _ => rfl)) pa_nil))))) pss_nil)
      (pss_one (ps_ret (pv 3)))))), ?_⟩
    obtain ⟨d, c, e, xs, ls, rfl, src, fr, l1, k⟩ := h
    obtain ⟨s, m, o, _, gm, go, _, lm, lo⟩ := fr.fr
    have ok := fr.ok
    have l16 := ok.nl.n
    rw [List.length_map] at l16
    refine ⟨_, rfl, d, c, 5, rfl, src, by decide, by decide, fun r H1 r0 r1 src1 keep1 => ?_⟩
    have eh1 : hid d c H1 = hid d c H := hid_pick keep1
    have sm1 : Same (hid d c H) (hid d c H1) := by rw [eh1]; exact Same.refl _
    have go1 := dget_mono hid_sub (dget_mono sm1 go)
    have gm1 := dget_mono hid_sub (dget_mono sm1 gm)
    have lo1 : SqL K H1 o ((ls.map (·.1)).map V.str) := hid_sub.seq (sm1.seq lo)
    refine ⟨_, rfl, e, .ref m, rfl, gm1, _, rfl, e, .ref o, rfl, go1, _, rfl, _, rfl, e, .ref o, rfl, go1, o, _, rfl, .inl lo1, ?_⟩
    rw [List.length_map, List.length_map]
    refine ⟨d, c, (ls.length : Int), rfl, src1, by omega, by omega, fun r2 H2 q0 q1 src2 keep2 => ?_⟩
    obtain ⟨j, rfl⟩ : ∃ j : Nat, r2 = (j : Int) := ⟨r2.toNat, by omega⟩
    have eh2 : hid d c H2 = hid d c H := (hid_pick keep2).trans eh1
    have sm2 : Same (hid d c H) (hid d c H2) := by rw [eh2]; exact Same.refl _
    have lj : j < ls.length := by omega
    have ej : ls[j]? = some ls[j] := List.getElem?_eq_getElem lj
    obtain ⟨t, dg, st⟩ := (lm.same sm2).get ok.nl.nd ej
    obtain ⟨m1, m2⟩ := ok.ends _ (List.getElem_mem lj)
    refine ⟨o, _, _, .str ls[j].1, rfl, rfl, hid_sub.seq (sm2.seq lo), atI_nat (by rw [List.getElem?_map, List.getElem?_map, ej]; rfl), m, .ref t, rfl, dget_mono hid_sub dg, ?_⟩
    obtain ⟨x, ex⟩ : ∃ x, x = ls[j].2.1 := ⟨_, rfl⟩
    obtain ⟨y, ey⟩ : ∃ y, y = ls[j].2.2 := ⟨_, rfl⟩
    have st : SqT K (hid d c H2) t [.str x, .str y] := by rw [ex, ey]; exact st
    rw [← ex] at m1
    rw [← ey] at m2
    clear ex ey dg
    dsimp only [gName]
    change tSeq (tIfS _ _ _) _ _ [some (.ref d), some (.ref e), some (.int r), some (.ref t)] H2
    refine ⟨_, rfl, rfl, _, rfl, ite2 (fun hc => ?_) (fun hc => ?_)⟩
    · have er : r = 0 := by simpa using hc
      subst er
      refine ⟨_, rfl, _, rfl, rfl, t, _, rfl, .inr ⟨sqt_same hid_sub st, fun p hp => ?_⟩⟩
      have np := new_h (.tup [V.str y, V.str x]) src2 hp
      refine ⟨_, rfl, rfl, _, rfl, ite2 (fun hc => absurd hc (by decide)) (fun _ => ?_)⟩
      exact ⟨_, rfl, k p y x _ np.src (sm2.trans np.sm) (SqT.of np.at_) m2 m1⟩
    · refine ⟨_, rfl, rfl, _, rfl, ite2 (fun hc => ?_) (fun _ => ?_)⟩
      · have sG := sqt_same hid_sub st
        refine ⟨_, rfl, t, _, 0, _, rfl, rfl, sG, rfl, _, rfl, t, _, 0, _, rfl, rfl, sG, rfl, szl (by show 2 ≤ 1000; decide), fun p hp => ?_⟩
        have np := new_h (.tup [V.str x, V.str x]) src2 hp
        exact ⟨_, rfl, k p x x _ np.src (sm2.trans np.sm) (SqT.of np.at_) m1 m1⟩
      · exact ⟨_, rfl, k t x y H2 src2 sm2 st m1 m2⟩
end
end K37

namespace K37
open PySem PySem.Spec PyProof.Rows L2 Ow
/-! ### .get of a written dict -/
theorem keyOf_of {e : DictEntry} {k : Str} {h : Int} (q : He.keyOf e = some (k, h)) : ∃ t, e.key = .str k t := by
  unfold He.keyOf at q
  split at q
  · rename_i x t q2
    exact ⟨t, by rw [q2, (Prod.mk.inj (Option.some.inj q)).1]⟩
  · cases q
theorem keys_no {P : Params} {x : Str} : ∀ {l : List DictEntry} {ks : List Str}, l.map He.keyOf = He.keysIn P ks → x ∉ ks → l.find? (·.key.isStr x) = none ∧ l.any (·.refKey) = false
  | [], _, _, _ => ⟨rfl, rfl⟩
  | e :: r, [], h, _ => by cases h
  | e :: r, k :: ks, h, n => by
    have h1 : He.keyOf e :: r.map He.keyOf = some (k, PyData.keyHash P k) :: He.keysIn P ks := h
    injection h1 with h2 h3
    obtain ⟨t, ek⟩ := keyOf_of h2
    obtain ⟨a, b⟩ := keys_no h3 (fun z => n (List.mem_cons_of_mem _ z))
    have nx : k ≠ x := fun z => n (z ▸ List.mem_cons_self)
    have e1 : e.key.isStr x = false := by
      rw [ek]
      show (k == x) = false
      exact beq_eq_false_iff_ne.mpr nx
    refine ⟨by rw [List.find?_cons, e1]; exact a, ?_⟩
    rw [List.any_cons, b, Bool.or_false]
    unfold DictEntry.refKey
    rw [ek]
theorem dicW_no {K : PySem.W.Frag} {P : Params} {a : Addr} {ks : List Str} {x : Str} (h : He.dicW K a = some (He.keysIn P ks)) (nx : x ∉ ks) : PySem.W.nsIn K a x = some none := by
  unfold He.dicW at h
  unfold PySem.W.nsIn
  cases q : K.lookup a with
  | none => rw [q] at h; cases h
  | some o =>
    obtain ⟨oc, od, dt, osl⟩ := o
    rw [q] at h
    cases oc with
    | type c =>
      cases od with
      | none =>
        cases dt with
        | dict es n =>
          have h1 : (match decide (c = "dict") && (osl.isEmpty && !(a == sysModules)) with
            | true => some (es.toList.map He.keyOf)
            | false => none) = some (He.keysIn P ks) := h
          cases z : decide (c = "dict") && (osl.isEmpty && !(a == sysModules)) with
          | false => rw [z] at h1; cases h1
          | true =>
            rw [z] at h1
            obtain ⟨e1, e2⟩ := keys_no (Option.some.inj h1) nx
            dsimp only
            rw [e1]
            dsimp only
            rw [e2]
            rfl
        | _ => cases h
      | some b => cases dt <;> cases h
    | _ => cases od <;> cases dt <;> cases h
def tKGet2 (K : PySem.W.Frag) (d : Addr) (td ty tx : TE) : TE := fun σ H Q => td σ H fun x H1 => x = .ref d ∧ ty σ H1 fun y H2 => tx σ H2 fun z H3 => ∃ (s : Str) (r : Option Value) (v : V), y = .str s ∧ PySem.W.nsIn K d s = some r ∧ (match r with
  | none => v = z
  | some u => RelV v u) ∧ Q v H3
section
variable {X : Cx} {o e f : Expr} {apos cpos : Pos} {td ty tx : TE} {d : Addr} {es : Array DictEntry} {n : Nat}
theorem pe_kdget2 (D : KDict X.K X.w d es n) (ho : PE X o td) (he : PE X e ty) (hf : PE X f tx) (m : M2 X o "get" apos e f cpos) : PE X (.Call (.Attribute o "get" apos) [e, f] [] cpos) (tKGet2 X.K d td ty tx) := by
  refine ⟨fun pins s σ H Q I h => ?_⟩
  refine wpAny_Call_method m.base m.few m.line PySem.F.plainAttrs_dict PySem.F.slot_dict_get PySem.F.type_dict_get (thn (ho.run pins s σ H _ I h) fun u s1 ⟨x, H1, I1, rx, ex, q1⟩ => ?_)
  subst ex
  obtain rfl : u = Value.ref d := rx
  refine ⟨kd_type D I1, fun b q => ?_, ?_⟩
  · cases q
    exact ⟨_, I1.kIn _ _ D.at_, rfl⟩
  rw [m.trees]
  refine Calls.callWith_builtin rfl (Calls.evalArgs_plain (Calls.spliced_cons (thn (he.run pins s1 σ H1 _ I1 q1) fun iv s2 ⟨y, H2, I2, ry, q2⟩ =>
    Calls.spliced_cons (thn (hf.run pins s2 σ H2 _ I2 q2) fun fv s3 ⟨z, H3, I3, rz, s, r, v, ey, en, er, q3⟩ => Calls.spliced_nil ?_))))
  subst ey
  obtain ⟨t, rfl⟩ := ry
  refine call_meetsIn PySem.F.slot_dict_get (kd_type D I3) PySem.F.entry_dict_get (PySem.F.args_dict_get_3 _ _ _) (PySem.meets_dict_get_default (knd := strKind X.prog X.w) (k := s) d (PySem.strKind_is X.prog X.w s t) D.low fv) ⟨_, PySem.W.mapOf_K (prog := X.prog) I3.kIn D.at_ D.lit, ?_⟩
  rw [PySem.W.find_K D.at_ en]
  cases r with
  | none =>
    subst er
    exact ⟨v, H3, I3.tok _, rz, q3⟩
  | some u => exact ⟨v, H3, I3.tok _, er, q3⟩
end
end K37

namespace K37
open PySem PySem.Spec PyProof.Rows L2 Ow
/-! ### right words of terms; the parts below, the sorts told -/
def Tm.hd : Tm → Str
  | .leaf w _ => w
  | .one w _ => w
  | .two w _ _ => w
def Tm.ss : Tm → List Str
  | .leaf _ ss => ss
  | _ => []
def Tm.kids : Tm → List Tm
  | .leaf _ _ => []
  | .one _ t => [t]
  | .two _ s t => [s, t]
/-- the sorts that a term tells itself -/
def Tm.srt : Tm → List Str
  | .leaf w ss => if w = "letter" then [] else ss
  | _ => []
def LeafOk (w : Str) (ss : List Str) : Prop := (w = "letter" ∧ ∃ n : Str, ss = [n] ∧ Wd n) ∨ (w = "same" ∧ ∃ a : Str, ss = [a] ∧ Wd a) ∨ (w = "other" ∧ ∃ a : Str, ss = [a] ∧ Wd a) ∨ (w = "none" ∧ ∃ a b : Str, ss = [a, b] ∧ Wd a ∧ Wd b) ∨ (w = "all" ∧ ∃ a b : Str, ss = [a, b] ∧ Wd a ∧ Wd b)
def OneOk (w : Str) : Prop := w = "rest" ∨ w = "turned" ∨ w = "closed" ∨ w = "walked"
def TwoOk (w : Str) : Prop := w = "joined" ∨ w = "cut" ∨ w = "then"
/-- right by its words -/
def Rt : Tm → Prop
  | .leaf w ss => LeafOk w ss
  | .one w t => OneOk w ∧ Rt t
  | .two w s t => TwoOk w ∧ Rt s ∧ Rt t
theorem Ty.rt {xs : List Str} {ls : List Lt} (ok : FrOk xs ls) {t : Tm} {x y : Str} (h : Ty xs ls t x y) : Rt t := by
  induction h with
  | letter h => exact .inl ⟨rfl, _, rfl, ok.nl.w _ (List.mem_map_of_mem h)⟩
  | same h => exact .inr (.inl ⟨rfl, _, rfl, ok.nx.w _ h⟩)
  | other h => exact .inr (.inr (.inl ⟨rfl, _, rfl, ok.nx.w _ h⟩))
  | none h g => exact .inr (.inr (.inr (.inl ⟨rfl, _, _, rfl, ok.nx.w _ h, ok.nx.w _ g⟩)))
  | all h g => exact .inr (.inr (.inr (.inr ⟨rfl, _, _, rfl, ok.nx.w _ h, ok.nx.w _ g⟩)))
  | rest _ ih => exact ⟨.inl rfl, ih⟩
  | turned _ ih => exact ⟨.inr (.inl rfl), ih⟩
  | closed _ ih => exact ⟨.inr (.inr (.inl rfl)), ih⟩
  | walked _ ih => exact ⟨.inr (.inr (.inr rfl)), ih⟩
  | joined _ _ i1 i2 => exact ⟨.inl rfl, i1, i2⟩
  | cut _ _ i1 i2 => exact ⟨.inr (.inl rfl), i1, i2⟩
  | then_ _ _ i1 i2 => exact ⟨.inr (.inr rfl), i1, i2⟩
/-- at the addresses stand the terms -/
inductive Tms (K : PySem.W.Frag) (H : Hp) : List Addr → List Tm → Prop
  | nil : Tms K H [] []
  | cons {a : Addr} {t : Tm} {as : List Addr} {ts : List Tm} : TmAt K H a t → Tms K H as ts → Tms K H (a :: as) (t :: ts)
section
variable {K : PySem.W.Frag} {H H' : Hp}
theorem Tms.same (s : Same H H') : ∀ {as : List Addr} {ts : List Tm}, Tms K H as ts → Tms K H' as ts
  | _, _, .nil => .nil
  | _, _, .cons h g => .cons (h.same s) (g.same s)
theorem Tms.len : ∀ {as : List Addr} {ts : List Tm}, Tms K H as ts → as.length = ts.length
  | _, _, .nil => rfl
  | _, _, .cons _ g => congrArg Nat.succ g.len
theorem Tms.app : ∀ {as bs : List Addr} {ts us : List Tm}, Tms K H as ts → Tms K H bs us → Tms K H (as ++ bs) (ts ++ us)
  | _, _, _, _, .nil, g => g
  | _, _, _, _, .cons h r, g => .cons h (r.app g)
theorem Tms.get : ∀ {as : List Addr} {ts : List Tm}, Tms K H as ts → ∀ {i : Nat} {a : Addr}, as[i]? = some a → ∃ t, ts[i]? = some t ∧ TmAt K H a t
  | _, _, .nil, i, a, e => by cases e
  | _, _, .cons h r, 0, a, e => ⟨_, rfl, (Option.some.inj e) ▸ h⟩
  | _, _, .cons h r, i + 1, a, e => r.get e
/-- the tuple of a term -/
theorem TmAt.view {t : Tm} {a : Addr} (h : TmAt K H a t) : ∃ us : List Addr, SqT K H a (.str t.hd :: (t.ss.map V.str ++ us.map V.ref)) ∧ Tms K H us t.kids := by
  cases t with
  | leaf w ss => exact ⟨[], by rw [List.map_nil, List.append_nil]; exact h, .nil⟩
  | one w t =>
    obtain ⟨b, h1, h2⟩ := h
    exact ⟨[b], h1, .cons h2 .nil⟩
  | two w s t =>
    obtain ⟨b, c, h1, h2, h3⟩ := h
    exact ⟨[b, c], h1, .cons h2 (.cons h3 .nil)⟩
end
theorem vpb (i : Nat) {q : Str × He.Dv} (h : vPARTSBELOW[i]? = some q) : q ∈ vPARTSBELOW := List.mem_of_getElem? h
theorem vst (i : Nat) {q : Str × He.Dv} (h : vSORTSTOLD[i]? = some q) : q ∈ vSORTSTOLD := List.mem_of_getElem? h
theorem Rt.pb : ∀ {t : Tm}, Rt t → (t.hd, He.Dv.int (t.kids.length : Int)) ∈ vPARTSBELOW
  | .leaf w ss, h => by
    rcases h with ⟨rfl, _⟩ | ⟨rfl, _⟩ | ⟨rfl, _⟩ | ⟨rfl, _⟩ | ⟨rfl, _⟩
    · exact vpb 0 rfl
    · exact vpb 1 rfl
    · exact vpb 2 rfl
    · exact vpb 3 rfl
    · exact vpb 4 rfl
  | .one w t, h => by
    rcases h.1 with rfl | rfl | rfl | rfl
    · exact vpb 5 rfl
    · exact vpb 6 rfl
    · exact vpb 10 rfl
    · exact vpb 11 rfl
  | .two w s t, h => by
    rcases h.1 with rfl | rfl | rfl
    · exact vpb 7 rfl
    · exact vpb 8 rfl
    · exact vpb 9 rfl
theorem Rt.st : ∀ {t : Tm}, Rt t → (t.srt = t.ss ∧ (t.hd, He.Dv.int (t.ss.length : Int)) ∈ vSORTSTOLD ∧ 0 < t.ss.length) ∨ (t.srt = [] ∧ t.hd ∉ kSORTSTOLD)
  | .leaf w ss, h => by
    rcases h with ⟨rfl, _⟩ | ⟨rfl, a, rfl, _⟩ | ⟨rfl, a, rfl, _⟩ | ⟨rfl, a, b, rfl, _⟩ | ⟨rfl, a, b, rfl, _⟩
    · exact .inr ⟨rfl, (by decide +kernel : ("letter" : Str) ∉ kSORTSTOLD)⟩
    · exact .inl ⟨rfl, vst 0 rfl, Nat.succ_pos _⟩
    · exact .inl ⟨rfl, vst 1 rfl, Nat.succ_pos _⟩
    · exact .inl ⟨rfl, vst 2 rfl, Nat.succ_pos _⟩
    · exact .inl ⟨rfl, vst 3 rfl, Nat.succ_pos _⟩
  | .one w t, h => by
    rcases h.1 with rfl | rfl | rfl | rfl
    · exact .inr ⟨rfl, (by decide +kernel : ("rest" : Str) ∉ kSORTSTOLD)⟩
    · exact .inr ⟨rfl, (by decide +kernel : ("turned" : Str) ∉ kSORTSTOLD)⟩
    · exact .inr ⟨rfl, (by decide +kernel : ("closed" : Str) ∉ kSORTSTOLD)⟩
    · exact .inr ⟨rfl, (by decide +kernel : ("walked" : Str) ∉ kSORTSTOLD)⟩
  | .two w s t, h => by
    rcases h.1 with rfl | rfl | rfl
    · exact .inr ⟨rfl, (by decide +kernel : ("joined" : Str) ∉ kSORTSTOLD)⟩
    · exact .inr ⟨rfl, (by decide +kernel : ("cut" : Str) ∉ kSORTSTOLD)⟩
    · exact .inr ⟨rfl, (by decide +kernel : ("then" : Str) ∉ kSORTSTOLD)⟩
/-- a term has a part or a word behind its first word -/
theorem Rt.pos : ∀ {t : Tm}, Rt t → 1 ≤ t.ss.length + t.kids.length ∧ t.ss.length + t.kids.length ≤ 2 ∧ (t.ss = [] ∨ t.kids = [])
  | .leaf w ss, h => by
    rcases h with ⟨rfl, a, rfl, _⟩ | ⟨rfl, a, rfl, _⟩ | ⟨rfl, a, rfl, _⟩ | ⟨rfl, a, b, rfl, _⟩ | ⟨rfl, a, b, rfl, _⟩ <;> exact ⟨by simp [Tm.ss, Tm.kids], by simp [Tm.ss, Tm.kids], .inr rfl⟩
  | .one w t, h => ⟨by simp [Tm.ss, Tm.kids], by simp [Tm.ss, Tm.kids], .inl rfl⟩
  | .two w s t, h => ⟨by simp [Tm.ss, Tm.kids], by simp [Tm.ss, Tm.kids], .inl rfl⟩
theorem cutV_1 (x : V) (xs : List V) (n : Nat) (l : n ≤ xs.length) : cutV (x :: xs) (some 1) (some ((1 + n : Nat) : Int)) = xs.take n := by
  have e1 : HT.sIx (x :: xs).length 0 (some 1) = 1 := by
    unfold HT.sIx
    simp
  have e2 : HT.sIx (x :: xs).length (x :: xs).length (some ((1 + n : Nat) : Int)) = 1 + n := by
    unfold HT.sIx
    rw [List.length_cons]
    simp only
    split
    · omega
    · omega
  unfold cutV
  rw [e1, e2, show 1 + n - 1 = n by omega]
  rfl
theorem sIx_1 (x : V) (xs : List V) : ¬ (HT.sIx (x :: xs).length 0 (some 1) = 0 ∧ True) := by
  rintro ⟨h, _⟩
  unfold HT.sIx at h
  simp at h
theorem atI_0 (x : V) (xs : List V) : atI (x :: xs) 0 = some x := by
  unfold atI ixN
  rw [if_pos (Int.le_refl 0), if_pos (by rw [List.length_cons]; omega)]
  rfl
abbrev NPB : List Str := ["term"]
theorem scPB : FnScope NPB ["term"] (defScope sPartsBelow) := ⟨rfl, rfl, rfl, by decide +kernel, rfl, by decide +kernel, by decide +kernel⟩
def spPB (K : PySem.W.Frag) : Sp := fun vs H Q _ => ∃ (a : Addr) (t : Tm), vs = [.ref a] ∧ TmAt K H a t ∧ Rt t ∧ ∀ (p : Addr) (us : List Addr) (H' : Hp), Same H H' → H' p = some (.tup (us.map V.ref)) → Tms K H' us t.kids → Q (.ref p) H'
abbrev NST : List Str := ["part"]
theorem scST : FnScope NST ["part"] (defScope sSortsTold) := ⟨rfl, rfl, rfl, by decide +kernel, rfl, by decide +kernel, by decide +kernel⟩
def spST (K : PySem.W.Frag) : Sp := fun vs H Q _ => ∃ (a : Addr) (t : Tm), vs = [.ref a] ∧ TmAt K H a t ∧ Rt t ∧ ∀ (p : Addr) (H' : Hp), Same H H' → H' p = some (.tup (t.srt.map V.str)) → Q (.ref p) H'
section
variable {P : Program} {w : World} {K : PySem.W.Frag} {mg : Str → Option Value} {base : Heap} {f : Addr} {fd : FuncData}
theorem ok_pb (F : FnP K "parts_below" sPartsBelow f fd) (Y : Fx w K mg) : FnOk P w K mg base CX0 1 f fd ["term"] (spPB K) := by
  obtain ⟨es, n, D⟩ := Y.kPARTSBELOW
  refine okD F scPB (fun vs H Q E h => ?_) (fun cdv A outer s H vs Q E hr h => ?_)
  · obtain ⟨a, t, rfl, _⟩ := h
    rfl
  · have nd := scPB.nd
    refine ⟨_, pss_one (ps_ret (pe_slice sl_tupA (pv 0) (po_some pe_int) (po_some (pe_op op_add pe_int (pe_ix ix_kdict (pe_glob (v := .ref (He.ga K "_PARTS_BELOW")) (by rfl) Y.gPARTSBELOW rfl) (pe_ix ix_tup (pv 0) pe_int (fun _ _ => rfl)) (fun _ _ => rfl)))))), ?_⟩
    obtain ⟨a, t, rfl, ha, rt, k⟩ := h
    obtain ⟨us, h1, h2⟩ := ha.view
    obtain ⟨u, eu, ru⟩ := He.valsB_ok Y.x9 rt.pb
    refine ⟨_, rfl, _, rfl, _, rfl, a, _, 0, _, rfl, rfl, h1, atI_0 _ _, _, _, _, rfl, rfl, ⟨es, n, u, D.at_, D.lit, eu, ru⟩, ?_⟩
    have lk := h2.len
    obtain ⟨p1, p2, p3⟩ := rt.pos
    have ec : cutV (V.str t.hd :: (t.ss.map V.str ++ us.map V.ref)) (some 1) (some ((1 + t.kids.length : Nat) : Int)) = us.map V.ref := by
      rcases p3 with z | z
      · rw [z, List.map_nil, List.nil_append, cutV_1 _ _ _ (by rw [List.length_map]; omega), List.take_of_length_le (by rw [List.length_map]; omega)]
      · rw [cutV_1 _ _ _ (by rw [z]; exact Nat.zero_le _), z, List.length_nil, List.take_zero]
        rw [z] at lk
        rw [List.length_eq_zero_iff.mp lk, List.map_nil]
    refine ⟨_, _, rfl, rfl, _, rfl, a, _, rfl, h1, fun hh => absurd ⟨hh.1, trivial⟩ (sIx_1 _ _), fun _ p hp => ?_⟩
    rw [show (1 : Int) + (t.kids.length : Int) = ((1 + t.kids.length : Nat) : Int) by omega, ec]
    exact k p us _ (same_upd hp) upd_same (h2.same (same_upd hp))
theorem ok_st (F : FnP K "sorts_told" sSortsTold f fd) (Y : Fx w K mg) : FnOk P w K mg base CX0 1 f fd ["part"] (spST K) := by
  obtain ⟨es, n, D⟩ := Y.kSORTSTOLD
  refine okD F scST (fun vs H Q E h => ?_) (fun cdv A outer s H vs Q E hr h => ?_)
  · obtain ⟨a, t, rfl, _⟩ := h
    rfl
  · have nd := scST.nd
    refine ⟨_, pss_one (ps_ret (pe_slice sl_tupA (pv 0) (po_some pe_int) (po_some (pe_op op_add pe_int (pe_kdget2 D (pe_glob (v := .ref (He.ga K "_SORTS_TOLD")) (by rfl) Y.gSORTSTOLD rfl) (pe_ix ix_tup (pv 0) pe_int (fun _ _ => rfl)) pe_int ⟨rfl, rfl, rfl, rfl⟩))))), ?_⟩
    obtain ⟨a, t, rfl, ha, rt, k⟩ := h
    obtain ⟨us, h1, h2⟩ := ha.view
    have lk := h2.len
    obtain ⟨p1, p2, p3⟩ := rt.pos
    have eD : He.dicW K (He.ga K "_SORTS_TOLD") = some (He.keysIn w.params kSORTSTOLD) := by
      have e : tabs.map (fun t => He.dicW K (t.1 K)) = tabs.map fun t => some (He.keysIn w.params t.2) := congrArg (fun z : He.AlT => z.2) Y.t
      exact (List.cons.inj (List.cons.inj e).2).1
    rcases rt.st with ⟨es, m, l0⟩ | ⟨es, no⟩
    · obtain ⟨u, eu, ru⟩ := He.valsB_ok Y.x10 m
      refine ⟨_, rfl, _, rfl, rfl, _, rfl, a, _, 0, _, rfl, rfl, h1, atI_0 _ _, t.hd, some u, .int (t.ss.length : Int), rfl, eu, ru, ?_⟩
      refine ⟨_, _, rfl, rfl, _, rfl, a, _, rfl, h1, fun hh => absurd ⟨hh.1, trivial⟩ (sIx_1 _ _), fun _ p hp => ?_⟩
      have ec : cutV (V.str t.hd :: (t.ss.map V.str ++ us.map V.ref)) (some 1) (some ((1 + t.ss.length : Nat) : Int)) = t.srt.map V.str := by
        rw [cutV_1 _ _ _ (by rw [List.length_append, List.length_map]; omega), es, List.take_append_of_le_length (by rw [List.length_map]; omega), List.take_of_length_le (by rw [List.length_map]; omega)]
      rw [show (1 : Int) + (t.ss.length : Int) = ((1 + t.ss.length : Nat) : Int) by omega, ec]
      exact k p _ (same_upd hp) upd_same
    · refine ⟨_, rfl, _, rfl, rfl, _, rfl, a, _, 0, _, rfl, rfl, h1, atI_0 _ _, t.hd, none, .int 0, rfl, dicW_no eD no, rfl, ?_⟩
      refine ⟨_, _, rfl, rfl, _, rfl, a, _, rfl, h1, fun hh => absurd ⟨hh.1, trivial⟩ (sIx_1 _ _), fun _ p hp => ?_⟩
      have ec : cutV (V.str t.hd :: (t.ss.map V.str ++ us.map V.ref)) (some 1) (some ((1 + 0 : Nat) : Int)) = t.srt.map V.str := by
        rw [cutV_1 _ _ _ (Nat.zero_le _), es]
        rfl
      rw [show (1 : Int) + (0 : Int) = ((1 + 0 : Nat) : Int) by omega, ec]
      exact k p _ (same_upd hp) upd_same
end
end K37

namespace K37
open PySem PySem.Spec PyProof.Rows L2 Ow
/-! ### all parts, by the stack -/
def Tm.pre : Tm → List Tm
  | .leaf w ss => [.leaf w ss]
  | .one w t => .one w t :: t.pre
  | .two w s t => .two w s t :: (s.pre ++ t.pre)
theorem pre_kids (t : Tm) : t.pre = t :: t.kids.flatMap Tm.pre := by
  cases t <;> simp [Tm.pre, Tm.kids]
theorem pre_len : ∀ t : Tm, t.pre.length = t.sz
  | .leaf _ _ => rfl
  | .one _ t => by simp only [Tm.pre, Tm.sz, List.length_cons, pre_len t]; omega
  | .two _ s t => by simp only [Tm.pre, Tm.sz, List.length_cons, List.length_append, pre_len s, pre_len t]; omega
theorem Rt.kids : ∀ {t : Tm}, Rt t → ∀ u ∈ t.kids, Rt u
  | .leaf _ _, _, u, hu => absurd hu List.not_mem_nil
  | .one _ t, h, u, hu => by rw [List.mem_singleton.mp hu]; exact h.2
  | .two _ s t, h, u, hu => by
    rcases List.mem_cons.mp hu with z | z
    · rw [z]; exact h.2.1
    · rw [List.mem_singleton.mp z]; exact h.2.2
theorem Rt.pre : ∀ {t : Tm}, Rt t → ∀ u ∈ t.pre, Rt u
  | .leaf _ _, h, u, hu => by rw [List.mem_singleton.mp hu]; exact h
  | .one _ t, h, u, hu => by
    rcases List.mem_cons.mp hu with z | z
    · rw [z]; exact h
    · exact h.2.pre u z
  | .two _ s t, h, u, hu => by
    rcases List.mem_cons.mp hu with z | z
    · rw [z]; exact h
    · rcases List.mem_append.mp z with z | z
      · exact h.2.1.pre u z
      · exact h.2.2.pre u z
/-- at r stands the pair of a path, at most n long, and a term -/
def PrO (K : PySem.W.Frag) (H : Hp) (n : Nat) (r : Addr) (t : Tm) : Prop := ∃ (q u : Addr) (xs : List V), SqT K H r [.ref q, .ref u] ∧ SqT K H q xs ∧ xs.length ≤ n ∧ TmAt K H u t
inductive PrsO (K : PySem.W.Frag) (H : Hp) (n : Nat) : List Addr → List Tm → Prop
  | nil : PrsO K H n [] []
  | cons {a : Addr} {t : Tm} {as : List Addr} {ts : List Tm} : PrO K H n a t → PrsO K H n as ts → PrsO K H n (a :: as) (t :: ts)
section
variable {K : PySem.W.Frag} {H H' : Hp} {n m : Nat}
theorem PrO.same (s : Same H H') {r : Addr} {t : Tm} (h : PrO K H n r t) : PrO K H' n r t := let ⟨q, u, xs, a, b, c, d⟩ := h; ⟨q, u, xs, sqt_same s a, sqt_same s b, c, d.same s⟩
theorem PrO.put {D : Addr} {l : List V} {o : HO} (e : H D = some (.lst l)) {r : Addr} {t : Tm} (h : PrO K H n r t) : PrO K (upd H D o) n r t := let ⟨q, u, xs, a, b, c, d⟩ := h; ⟨q, u, xs, sqt_put e a, sqt_put e b, c, d.put e⟩
theorem PrO.le (l : n ≤ m) {r : Addr} {t : Tm} (h : PrO K H n r t) : PrO K H m r t := let ⟨q, u, xs, a, b, c, d⟩ := h; ⟨q, u, xs, a, b, Nat.le_trans c l, d⟩
theorem PrsO.same (s : Same H H') : ∀ {as : List Addr} {ts : List Tm}, PrsO K H n as ts → PrsO K H' n as ts
  | _, _, .nil => .nil
  | _, _, .cons h g => .cons (h.same s) (g.same s)
theorem PrsO.put {D : Addr} {l : List V} {o : HO} (e : H D = some (.lst l)) : ∀ {as : List Addr} {ts : List Tm}, PrsO K H n as ts → PrsO K (upd H D o) n as ts
  | _, _, .nil => .nil
  | _, _, .cons h g => .cons (h.put e) (g.put e)
theorem PrsO.le (l : n ≤ m) : ∀ {as : List Addr} {ts : List Tm}, PrsO K H n as ts → PrsO K H m as ts
  | _, _, .nil => .nil
  | _, _, .cons h g => .cons (h.le l) (g.le l)
theorem PrsO.len : ∀ {as : List Addr} {ts : List Tm}, PrsO K H n as ts → as.length = ts.length
  | _, _, .nil => rfl
  | _, _, .cons _ g => congrArg Nat.succ g.len
theorem PrsO.app : ∀ {as bs : List Addr} {ts us : List Tm}, PrsO K H n as ts → PrsO K H n bs us → PrsO K H n (as ++ bs) (ts ++ us)
  | _, _, _, _, .nil, g => g
  | _, _, _, _, .cons h r, g => .cons h (r.app g)
theorem PrsO.rev : ∀ {as : List Addr} {ts : List Tm}, PrsO K H n as ts → PrsO K H n as.reverse ts.reverse
  | _, _, .nil => .nil
  | _, _, .cons h r => by rw [List.reverse_cons, List.reverse_cons]; exact r.rev.app (.cons h .nil)
theorem PrsO.get : ∀ {as : List Addr} {ts : List Tm}, PrsO K H n as ts → ∀ {i : Nat} {a : Addr}, as[i]? = some a → ∃ t, ts[i]? = some t ∧ PrO K H n a t
  | _, _, .nil, i, a, e => by cases e
  | _, _, .cons h r, 0, a, e => ⟨_, rfl, (Option.some.inj e) ▸ h⟩
  | _, _, .cons h r, i + 1, a, e => r.get e
theorem PrsO.uncons {a : Addr} {as : List Addr} {ts : List Tm} (h : PrsO K H n (a :: as) ts) : ∃ t us, ts = t :: us ∧ PrO K H n a t ∧ PrsO K H n as us := by
  cases h with
  | cons h r => exact ⟨_, _, rfl, h, r⟩
theorem PrsO.unnil {ts : List Tm} (h : PrsO K H n [] ts) : ts = [] := by
  cases h
  rfl
/-- the last one -/
theorem PrsO.last {as : List Addr} {a : Addr} : ∀ {ts : List Tm}, PrsO K H n (as ++ [a]) ts → ∃ us t, ts = us ++ [t] ∧ PrsO K H n as us ∧ PrO K H n a t := by
  induction as with
  | nil =>
    intro ts h
    obtain ⟨t, us, e, h1, h2⟩ := h.uncons
    exact ⟨[], t, by rw [e, h2.unnil]; rfl, .nil, h1⟩
  | cons b as ih =>
    intro ts h
    obtain ⟨t, us, e, h1, h2⟩ := PrsO.uncons (as := as ++ [a]) h
    obtain ⟨vs, u, e2, r1, r2⟩ := ih h2
    exact ⟨t :: vs, u, by rw [e, e2]; rfl, .cons h1 r1, r2⟩
end
/-! ### is not None, of None; an and whose first is false -/
def rNotN : R2 := fun x y H Q => x = .non ∧ y = .non ∧ Q (.bl false) H
theorem op_notN {X : Cx} : OpR X (compareOp .IsNot) rNotN := by
  intro pins s σ H x y v u Q I rx ry h
  obtain ⟨rfl, rfl, q⟩ := h
  cases (show v = Value.none from rx)
  cases (show u = Value.none from ry)
  exact wpAny_isNot_self rfl ⟨.bl false, H, I, rfl, q⟩
def tAndF (tA : TT) : TT := fun σ H Q => tA σ H fun c H1 => c = false ∧ Q false H1
theorem pw_andF {X : Cx} {a b : Expr} {rest : List Expr} {pos : Pos} {tA : TT} (ha : PT X a tA) : PW X (.BoolOp .And (a :: b :: rest) pos) (tAndF tA) := by
  refine ⟨fun wh pins s σ H Q I h => ?_⟩
  refine isTrue_and (thn (ha.run pins s σ H _ I h) fun c s1 ⟨H1, I1, e, q1⟩ => ?_)
  subst e
  exact ⟨H1, I1, q1⟩
abbrev NBeO : List Str := ["path", "part", "number", "below"]
theorem scBeO : FnScope NBeO ["path", "part"] (defScope sBelow) := ⟨rfl, rfl, rfl, by decide +kernel, rfl, by decide +kernel, by decide +kernel⟩
def spBeO (K : PySem.W.Frag) : Sp := fun vs H Q _ => ∃ (q a : Addr) (xs : List V) (t : Tm), vs = [.ref q, .ref a] ∧ SqT K H q xs ∧ xs.length ≤ 900 ∧ TmAt K H a t ∧ Rt t ∧ ∀ (L : Addr) (rs : List Addr) (H' : Hp), Same H H' → H L = none → H' L = some (.lst (rs.map V.ref)) → PrsO K H' (xs.length + 1) rs t.kids → Q (.ref L) H'
abbrev NPCO : List Str := ["frame", "value", "found", "waiting", "path", "part"]
theorem scPCO : FnScope NPCO ["frame", "value"] (defScope sPartsChecked) := ⟨rfl, rfl, rfl, by decide +kernel, rfl, by decide +kernel, by decide +kernel⟩
def spPC (K : PySem.W.Frag) : Sp := fun vs H Q _ => ∃ (a : Addr) (t : Tm), vs = [.non, .ref a] ∧ TmAt K H a t ∧ Rt t ∧ t.sz ≤ 400 ∧ ∀ (L : Addr) (rs : List Addr) (H' : Hp), Same H H' → H L = none → H' L = some (.lst (rs.map V.ref)) → PrsO K H' 400 rs t.pre → Q (.ref L) H'
abbrev NPO : List Str := ["term"]
theorem scPO : FnScope NPO ["term"] (defScope sPartsOf) := ⟨rfl, rfl, rfl, by decide +kernel, rfl, by decide +kernel, by decide +kernel⟩
def spPO (K : PySem.W.Frag) : Sp := fun vs H Q _ => ∃ (a : Addr) (t : Tm), vs = [.ref a] ∧ TmAt K H a t ∧ Rt t ∧ t.sz ≤ 400 ∧ ∀ (L : Addr) (rs : List Addr) (H' : Hp), Same H H' → H L = none → H' L = some (.lst (rs.map V.ref)) → PrsO K H' 400 rs t.pre → Q (.ref L) H'
section
variable {P : Program} {w : World} {K : PySem.W.Frag} {mg : Str → Option Value} {base : Heap} {f : Addr} {fd : FuncData}
theorem ok_beO (F : FnP K "_below" sBelow f fd) (Y : Fx w K mg) : FnOk P w K mg base CX0 2 f fd ["path", "part"] (spBeO K) := by
  obtain ⟨d1, F1⟩ := Y.dPartsBelow
  have b1 := FunD.bindsN (ps := ["term"]) F1 fun _ _ _ _ _ _ us hl => match us, hl with | [_], _ => rfl
  have G1 : FnOk P w K mg base CX0 1 _ d1 ["term"] (spPB K) := ok_pb F1 Y
  refine okD F scBeO (fun vs H Q E h => ?_) (fun cdv A outer s H vs Q E hr h => ?_)
  · obtain ⟨q, a, xs, t, rfl, _⟩ := h
    rfl
  · have nd := scBeO.nd
    refine ⟨_, pss_one (ps_ret (pe_lc (own := [("number", 2), ("below", 3)]) (g := gTup K 2 (gCons (gName 2) (gCons (gName 3) gNil))) (tt := tYes) (te := tTup (tCons (tOp (rCatA K) (tVar 0) (tTup (tCons (tVar 2) tNil))) (tCons (tVar 3) tNil))) rfl nd
      (pi_enumA (by rfl) Y.bEnumerate (pa_cons (pe_call G1 hr (by rfl) Y.gPartsBelow F1.kp b1 .nil pass0 (pa_cons (pv 1) pa_nil)) pa_nil)) (blkOk_by (N := NBeO) (sc := defScope sBelow) (by decide +kernel))
      (fun _ _ _ _ _ => pg_tup rfl (pgs_cons (pg_name (i := 2) nd rfl (Or.inl rfl)) (pgs_cons (pg_name (i := 3) nd rfl (Or.inl rfl)) pgs_nil))) (fun _ _ _ _ _ => pts_nil)
      (fun _ _ _ _ _ => pe_tup (pa_cons (pe_op op_catA (pv 0) (pe_tup (pa_cons (pv 2) pa_nil))) (pa_cons (pv 3) pa_nil))))), ?_⟩
    obtain ⟨q, a, xs, t, rfl, hq, lx, ha, rt, k⟩ := h
    refine ⟨_, rfl, a, t, rfl, ha, rt, fun p us H1 s1 hp hk => ?_⟩
    refine ⟨p, us.map V.ref, rfl, .inr (SqT.of hp), fun J GG wk gk D hD => lc_it wk (fun i G => ∃ rs : List Addr, G D = some (.lst (rs.map V.ref)) ∧ PrsO K G (xs.length + 1) rs (t.kids.take i) ∧ Same H1 G) ⟨[], upd_same, .nil, same_upd hD⟩ (fun i G _ ⟨_, _, _, z⟩ => gk G z) ?_ ?_⟩
    · rintro i v G G' hi ⟨rs, e, hP, sm⟩ ⟨T, x, y, rfl, hT, rfl, ex, ey⟩
      cases ex
      obtain ⟨u, eu, rfl⟩ : ∃ u, us[i]? = some u ∧ y = V.ref u := by
        replace ey : (us.map V.ref)[i]? = some y := ey
        rw [List.getElem?_map] at ey
        cases z : us[i]? with
        | none => rw [z] at ey; cases ey
        | some u => rw [z] at ey; exact ⟨u, rfl, (Option.some.inj ey).symm⟩
      obtain ⟨kd, ek, hkd⟩ := hk.get eu
      have li := (List.getElem?_eq_some_iff.mp ek).1
      have l2 := rt.pos.2.1
      have lr := hP.len
      rw [List.length_take] at lr
      have sT := same_upd (o := .tup [V.int (i : Int), V.ref u]) hT
      refine ⟨T, _, rfl, SqT.of upd_same, rfl, _, _, rfl, _, _, rfl, rfl, rfl, _, rfl, _, rfl, szl (by show 1 ≤ 1000; decide), fun T2 hT2 => ?_⟩
      have sT2 := same_upd (o := .tup [V.int (i : Int)]) hT2
      refine ⟨q, T2, xs, [.int (i : Int)], rfl, rfl, sqt_same (s1.trans (sm.trans (sT.trans sT2))) hq, SqT.of upd_same, szl (by show xs.length + 1 ≤ 1000; omega), fun hx => ?_, fun hx h0 => absurd h0 (List.cons_ne_nil _ _), fun hx _ => ?_⟩
      · refine ⟨_, rfl, szl (by show 2 ≤ 1000; decide), fun T3 hT3 => ?_⟩
        have sT3 := same_upd (o := .tup [V.ref T2, V.ref u]) hT3
        have s9 := sT.trans (sT2.trans sT3)
        have e9 := s9 _ _ e
        refine ⟨_, e9, ?_, rs ++ [T3], ?_, ?_, same_put hD (sm.trans s9)⟩
        · rw [List.length_map]
          exact small1000 (by omega)
        · rw [upd_same, List.map_append]
          rfl
        · rw [List.take_add_one, ek]
          refine PrsO.put e9 ((hP.same s9).app (.cons ⟨T2, u, [.int (i : Int)], SqT.of upd_same, sqt_same sT3 (SqT.of upd_same), Nat.succ_le_succ (Nat.zero_le _), hkd.same (sm.trans s9)⟩ .nil))
      · intro T4 hT4
        have sT4 := same_upd (o := .tup (xs ++ [V.int (i : Int)])) hT4
        refine ⟨_, rfl, szl (by show 2 ≤ 1000; decide), fun T3 hT3 => ?_⟩
        have sT3 := same_upd (o := .tup [V.ref T4, V.ref u]) hT3
        have s9 := sT.trans (sT2.trans (sT4.trans sT3))
        have e9 := s9 _ _ e
        refine ⟨_, e9, ?_, rs ++ [T3], ?_, ?_, same_put hD (sm.trans s9)⟩
        · rw [List.length_map]
          exact small1000 (by omega)
        · rw [upd_same, List.map_append]
          rfl
        · rw [List.take_add_one, ek]
          refine PrsO.put e9 ((hP.same s9).app (.cons ⟨T4, u, xs ++ [.int (i : Int)], SqT.of upd_same, sqt_same sT3 (SqT.of upd_same), by rw [List.length_append]; exact Nat.le_refl _, hkd.same (sm.trans s9)⟩ .nil))
    · rintro G ⟨rs, e, hP, sm⟩
      have lk := hk.len
      rw [List.length_map, List.take_of_length_le (by omega)] at hP
      have hD0 : H D = none := by
        cases z : H D with
        | none => rfl
        | some u => exact absurd (s1 _ _ z) (by rw [hD]; intro q; cases q)
      exact k D rs G (s1.trans sm) hD0 e hP
end
end K37

namespace K37
open PySem PySem.Spec PyProof.Rows L2 Ow
theorem none_sameO {H G : Hp} (s : Same H G) {D : Addr} (hD : G D = none) : H D = none := by
  cases z : H D with
  | none => rfl
  | some u => exact absurd (s _ _ z) (by rw [hD]; intro q; cases q)
def lenAtO (σ : L2.St) (i : Nat) (G : Hp) : Nat := match σ[i]? with
  | some (some (V.ref b)) => (match G b with
    | some (.lst zs) => zs.length
    | _ => 0)
  | _ => 0
section
variable {P : Program} {w : World} {K : PySem.W.Frag} {mg : Str → Option Value} {base : Heap} {f : Addr} {fd : FuncData}
theorem ok_pc (F : FnP K "_parts_checked" sPartsChecked f fd) (Y : Fx w K mg) : FnOk P w K mg base CX0 3 f fd ["frame", "value"] (spPC K) := by
  obtain ⟨d1, F1⟩ := Y.dBelow
  have b1 := FunD.bindsN (ps := ["path", "part"]) F1 fun _ _ _ _ _ _ us hl => match us, hl with | [_, _], _ => rfl
  have G1 : FnOk P w K mg base CX0 2 _ d1 ["path", "part"] (spBeO K) := ok_beO F1 Y
  refine okD F scPCO (fun vs H Q E h => ?_) (fun cdv A outer s H vs Q E hr h => ?_)
  · obtain ⟨a, t, rfl, _⟩ := h
    rfl
  · have nd := scPCO.nd
    refine ⟨_, pss_cons (ps_set (i := 2) nd rfl (Or.inl rfl) (pe_lst pa_nil))
      (pss_cons (ps_set (i := 3) nd rfl (Or.inl rfl) (pe_lst (pa_cons (pe_tup (pa_cons (pe_tup pa_nil) (pa_cons (pv 1) pa_nil))) pa_nil)))
      (pss_cons (ps_while PassesOwn.never (pt_truth (pv 3) (by intro _; rfl))
        (pss_cons (ps_asg (pe_bm0 PySem.F.plainAttrs_list PySem.F.slot_list_pop PySem.F.type_list_pop mt_pop (pv 3)) (pg_tup rfl (pgs_cons (pg_name (i := 4) nd rfl (Or.inl rfl)) (pgs_cons (pg_name (i := 5) nd rfl (Or.inl rfl)) pgs_nil))))
        (pss_cons (ps_ifN (pw_andF (pt_cmpR op_notN (pv 0) pe_non (nomark _))).pt pss_nil)
        (pss_cons (ps_expr (pe_bm PySem.F.plainAttrs_list PySem.F.slot_list_append PySem.F.type_list_append mt_append (pv 2) (pa_cons (pe_tup (pa_cons (pv 4) (pa_cons (pv 5) pa_nil))) pa_nil)))
        (pss_one (ps_expr (pe_bm PySem.F.plainAttrs_list PySem.F.slot_list_extend PySem.F.type_list_extend mt_extend (pv 3) (pa_cons (pe_rev (pe_call G1 hr (by rfl) Y.gBelow F1.kp b1 .nil pass0 (pa_cons (pv 4) (pa_cons (pv 5) pa_nil))) (pe_un un_neg pe_int)) pa_nil))))))))
      (pss_one (ps_ret (pv 2))))), ?_⟩
    obtain ⟨a, t, rfl, ha, rt, z4, k⟩ := h
    refine ⟨szl (by show 0 ≤ 1000; decide), fun Fd hF => ?_⟩
    have s0 := same_upd (o := .lst []) hF
    refine ⟨szl (by show 0 ≤ 1000; decide), fun T0 hT0 => ?_⟩
    have s1 := same_upd (o := .tup []) hT0
    refine ⟨_, rfl, szl (by show 2 ≤ 1000; decide), fun T1 hT1 => ?_⟩
    have s2 := same_upd (o := .tup [V.ref T0, V.ref a]) hT1
    refine ⟨szl (by show 1 ≤ 1000; decide), fun Wt hW => ?_⟩
    have s3 := same_upd (o := .lst [V.ref T1]) hW
    have e3F := s3 _ _ (s2 _ _ (s1 _ _ (upd_same : upd H Fd (.lst []) Fd = _)))
    have e3W := (upd_same : upd (upd (upd (upd H Fd (.lst [])) T0 (.tup [])) T1 (.tup [V.ref T0, V.ref a])) Wt (.lst [V.ref T1]) Wt = _)
    have q3 : SqT K (upd (upd (upd (upd H Fd (.lst [])) T0 (.tup [])) T1 (.tup [V.ref T0, V.ref a])) Wt (.lst [V.ref T1])) T1 [.ref T0, .ref a] := sqt_same s3 (SqT.of upd_same)
    have q4 : SqT K (upd (upd (upd (upd H Fd (.lst [])) T0 (.tup [])) T1 (.tup [V.ref T0, V.ref a])) Wt (.lst [V.ref T1])) T0 [] := sqt_same (s2.trans s3) (SqT.of upd_same)
    have s9 := s0.trans (s1.trans (s2.trans s3))
    have hW0 : H Wt = none := none_sameO (s0.trans (s1.trans s2)) hW
    have nFW : Fd ≠ Wt := fun q => by
      subst q
      have z := (s1.trans s2) _ _ (upd_same : upd H Fd (.lst []) Fd = _)
      rw [hW] at z
      cases z
    have ha9 := ha.same s9
    obtain ⟨G0, eG⟩ : ∃ Z, Z = upd (upd (upd (upd H Fd (.lst [])) T0 (.tup [])) T1 (.tup [V.ref T0, V.ref a])) Wt (.lst [V.ref T1]) := ⟨_, rfl⟩
    dsimp only [gName]
    change tSeq (tWhile _ _) _ _ [some .non, some (.ref a), some (.ref Fd), some (.ref Wt), none, none] (upd (upd (upd (upd H Fd (.lst [])) T0 (.tup [])) T1 (.tup [V.ref T0, V.ref a])) Wt (.lst [V.ref T1]))
    rw [← eG] at e3F e3W q3 q4 s9 ha9 ⊢
    clear eG s0 s1 s2 s3 hW hT1 hT0
    refine while_by (fun σ G => ∃ (rs ws : List Addr) (ts us : List Tm) (v4 v5 : Option V), σ = [some .non, some (.ref a), some (.ref Fd), some (.ref Wt), v4, v5] ∧ G Fd = some (.lst (rs.map V.ref)) ∧ G Wt = some (.lst (ws.map V.ref)) ∧ PrsO K G rs.length rs ts ∧ PrsO K G rs.length ws us ∧ (∀ u ∈ us, Rt u) ∧ ts ++ us.reverse.flatMap Tm.pre = t.pre ∧ Same H G)
      (fun σ G => t.sz - lenAtO σ 2 G) ⟨[], [T1], [], [t], none, none, rfl, e3F, e3W, .nil, .cons ⟨T0, a, [], q3, q4, Nat.le_refl _, ha9⟩ .nil, fun u hu => (List.mem_singleton.mp hu) ▸ rt, by simp, s9⟩ ?_ ?_
    · rintro σ G ⟨rs, ws, ts, us, v4, v5, rfl, eF, eW, P1, P2, hR, hsum, sm⟩
      have l1 := P1.len
      have l2 := P2.len
      have lsum := congrArg List.length hsum
      rw [List.length_append, pre_len] at lsum
      refine ⟨_, rfl, !(ws.map V.ref).isEmpty, .inl ⟨_, SqL.of eW, rfl⟩, ?_⟩
      rcases List.eq_nil_or_concat ws with rfl | ⟨ws', r, rfl⟩
      · refine iteF ?_
        rw [List.length_eq_zero_iff.mp l2.symm] at hsum
        have e : ts = t.pre := by rw [← hsum]; simp
        subst e
        exact ⟨_, rfl, k Fd rs G sm hF eF (P1.le (by rw [l1, pre_len]; exact z4))⟩
      · rw [List.concat_eq_append] at *
        have ne : (!((ws' ++ [r]).map V.ref).isEmpty) = true := by simp
        rw [ne]
        refine iteT ?_
        obtain ⟨us', u, rfl, P3, q, ua, xs, h1, h2, h3, h4⟩ := P2.last
        have hRu := hR u (List.mem_append_right _ List.mem_cons_self)
        have hsum2 : (ts ++ [u]) ++ (us' ++ u.kids.reverse).reverse.flatMap Tm.pre = t.pre := by
          rw [← hsum]
          simp only [List.reverse_append, List.reverse_reverse, List.reverse_cons, List.reverse_nil, List.nil_append, List.flatMap_append, List.append_assoc, List.singleton_append, List.flatMap_cons, List.cons_append]
          rw [pre_kids u]
          simp
        have lsum2 := congrArg List.length hsum2
        rw [List.length_append, List.length_append, pre_len] at lsum2
        have ll2 := P3.len
        have hku : ∀ v ∈ us' ++ u.kids.reverse, Rt v := fun v hv => by
          rcases List.mem_append.mp hv with z | z
          · exact hR v (List.mem_append_left _ z)
          · exact hRu.kids v (List.mem_reverse.mp z)
        have pos_len : ∀ l : List Tm, l.length ≤ (l.flatMap Tm.pre).length := fun l => by
          induction l with
          | nil => exact Nat.le_refl _
          | cons x l ih =>
            rw [List.flatMap_cons, List.length_append, List.length_cons, pre_len]
            have : 1 ≤ x.sz := by cases x <;> simp only [Tm.sz] <;> omega
            omega
        have lu := pos_len (us' ++ u.kids.reverse).reverse
        rw [List.length_reverse, List.length_append, List.length_reverse] at lu
        simp only [List.length_cons, List.length_nil] at lsum2
        have l9 : rs.length ≤ 399 := by omega
        refine ⟨_, rfl, .inl ⟨rfl, _, SqL.of eW⟩, Wt, _, .ref r, rfl, rfl, eW, by rw [List.map_append, List.length_append, List.map_cons, List.map_nil, List.length_cons, List.length_nil, Nat.add_sub_cancel]; simp, ?_⟩
        rw [List.map_append, List.map_cons, List.map_nil, List.dropLast_concat]
        have smA := same_put (o := .lst (ws'.map V.ref)) hW0 sm
        have eFA : upd G Wt (.lst (ws'.map V.ref)) Fd = some (.lst (rs.map V.ref)) := (upd_ne nFW).trans eF
        have eWA : upd G Wt (.lst (ws'.map V.ref)) Wt = some (.lst (ws'.map V.ref)) := upd_same
        have P1A := P1.put (o := .lst (ws'.map V.ref)) eW
        have P3A := P3.put (o := .lst (ws'.map V.ref)) eW
        have h1A := sqt_put (o := .lst (ws'.map V.ref)) eW h1
        have h2A := sqt_put (o := .lst (ws'.map V.ref)) eW h2
        have h4A := h4.put (o := .lst (ws'.map V.ref)) eW
        generalize upd G Wt (.lst (ws'.map V.ref)) = GA at smA eFA eWA P1A P3A h1A h2A h4A ⊢
        refine ⟨r, _, rfl, h1A, rfl, _, _, rfl, _, _, rfl, rfl, ?_⟩
        dsimp only
        change tSeq _ _ _ [some .non, some (.ref a), some (.ref Fd), some (.ref Wt), some (.ref q), some (.ref ua)] GA
        refine ⟨_, rfl, rfl, rfl, _, rfl, rfl, rfl, ?_⟩
        change tSeq _ _ _ [some .non, some (.ref a), some (.ref Fd), some (.ref Wt), some (.ref q), some (.ref ua)] GA
        refine ⟨_, rfl, .inl ⟨rfl, _, SqL.of eFA⟩, _, rfl, _, rfl, szl (by show 2 ≤ 1000; decide), fun T hT => ?_⟩
        have sT := same_upd (o := .tup [V.ref q, V.ref ua]) hT
        have eFB := sT _ _ eFA
        refine ⟨Fd, _, _, rfl, rfl, eFB, by rw [List.length_map]; exact small1000 (by omega), ?_⟩
        have nm : rs.map V.ref ++ [V.ref T] = (rs ++ [T]).map V.ref := by rw [List.map_append]; rfl
        rw [nm]
        have prT : PrO K (upd GA T (.tup [V.ref q, V.ref ua])) (rs.length + 1) T u := ⟨q, ua, xs, SqT.of upd_same, sqt_same sT h2A, Nat.le_succ_of_le h3, h4A.same sT⟩
        have P1B := (((P1A.same sT).le (Nat.le_succ _)).app (.cons prT .nil)).put (o := .lst ((rs ++ [T]).map V.ref)) eFB
        have P3B := ((P3A.same sT).le (Nat.le_succ _)).put (o := .lst ((rs ++ [T]).map V.ref)) eFB
        have h2B := sqt_put (o := .lst ((rs ++ [T]).map V.ref)) eFB (sqt_same sT h2A)
        have h4B := (h4A.same sT).put (o := .lst ((rs ++ [T]).map V.ref)) eFB
        have smB := same_put (o := .lst ((rs ++ [T]).map V.ref)) hF (smA.trans sT)
        have eFC : upd (upd GA T (.tup [V.ref q, V.ref ua])) Fd (.lst ((rs ++ [T]).map V.ref)) Fd = some (.lst ((rs ++ [T]).map V.ref)) := upd_same
        have eWC : upd (upd GA T (.tup [V.ref q, V.ref ua])) Fd (.lst ((rs ++ [T]).map V.ref)) Wt = some (.lst (ws'.map V.ref)) := (upd_ne nFW.symm).trans (sT _ _ eWA)
        generalize upd (upd GA T (.tup [V.ref q, V.ref ua])) Fd (.lst ((rs ++ [T]).map V.ref)) = GB at P1B P3B h2B h4B smB eFC eWC ⊢
        refine ⟨_, rfl, .inl ⟨rfl, _, SqL.of eWC⟩, _, rfl, _, rfl, q, ua, xs, u, rfl, h2B, by omega, h4B, hRu, fun L rs2 GC sC hL eL hP => ?_⟩
        refine ⟨_, rfl, rfl, L, _, rfl, .inl ⟨SqL.of eL, fun p hp => ?_⟩⟩
        have sp := same_upd (o := .lst (rs2.map V.ref).reverse) hp
        have eWD := sp _ _ (sC _ _ eWC)
        have lr2 := hP.len
        refine ⟨Wt, p, _, _, rfl, rfl, eWD, upd_same, szl (by rw [List.length_map, List.length_reverse, List.length_map]; omega), ?_⟩
        have nm2 : ws'.map V.ref ++ (rs2.map V.ref).reverse = (ws' ++ rs2.reverse).map V.ref := by rw [List.map_append, List.map_reverse]
        rw [nm2]
        have eFD := (upd_ne (o := HO.lst ((ws' ++ rs2.reverse).map V.ref)) nFW).trans (sp _ _ (sC _ _ eFC))
        have lr : (rs ++ [T]).length = rs.length + 1 := by rw [List.length_append]; rfl
        refine ⟨⟨rs ++ [T], ws' ++ rs2.reverse, ts ++ [u], us' ++ u.kids.reverse, _, _, rfl, eFD, upd_same, ?_, ?_, hku, hsum2, same_put hW0 (smB.trans (sC.trans sp))⟩, ?_⟩
        · rw [lr]
          exact (P1B.same (sC.trans sp)).put eWD
        · rw [lr]
          exact ((P3B.same (sC.trans sp)).app ((hP.same sp).le (by omega)).rev).put eWD
        · show t.sz - (match upd (upd GC p (.lst (rs2.map V.ref).reverse)) Wt (.lst ((ws' ++ rs2.reverse).map V.ref)) Fd with
            | some (HO.lst zs) => zs.length
            | _ => 0) < t.sz - (match G Fd with
            | some (HO.lst zs) => zs.length
            | _ => 0)
          rw [eFD, eF]
          dsimp only
          rw [List.length_map, List.length_map, lr]
          omega
    · rintro σ G Q1 Q2 hq ⟨v, e1, b, e2, z⟩
      exact ⟨v, e1, b, e2, hq _ _ z⟩
end
end K37

namespace K37
open PySem PySem.Spec PyProof.Rows L2 Ow
/-! ### parts_of, and what asks all parts -/
def noneB (ws : List Str) (u : Tm) : Bool := !decide (u.hd ∈ ws)
def noneOf (ws : List Str) (t : Tm) : Bool := (t.pre.map (noneB ws)).all id
abbrev NF : List Str := ["then", "closed", "walked"]
abbrev NSh : List Str := ["closed", "walked"]
def isRest (u : Tm) : Bool := decide (u.hd = "rest")
def rkO (l : List Tm) : List Tm := (l.filter isRest).flatMap Tm.kids
theorem rk_yes {l : List Tm} {i : Nat} {u : Tm} (e : l[i]? = some u) (h : isRest u = true) : rkO (l.take (i + 1)) = rkO (l.take i) ++ u.kids := by
  unfold rkO
  rw [List.take_add_one, e, List.filter_append, List.flatMap_append]
  simp [h]
theorem rk_no {l : List Tm} {i : Nat} {u : Tm} (e : l[i]? = some u) (h : isRest u = false) : rkO (l.take (i + 1)) = rkO (l.take i) := by
  unfold rkO
  rw [List.take_add_one, e, List.filter_append, List.flatMap_append]
  simp [h]
def keptB (t : Tm) : Bool := ((rkO t.pre).map (noneOf NF)).all id
theorem Rt.rest : ∀ {u : Tm}, Rt u → u.hd = "rest" → ∃ v, u = .one "rest" v ∧ Rt v
  | .leaf w ss, h, e => by
    exfalso
    rcases h with ⟨rfl, _⟩ | ⟨rfl, _⟩ | ⟨rfl, _⟩ | ⟨rfl, _⟩ | ⟨rfl, _⟩
    · exact absurd (show ("letter" : Str) = "rest" from e) (by decide +kernel)
    · exact absurd (show ("same" : Str) = "rest" from e) (by decide +kernel)
    · exact absurd (show ("other" : Str) = "rest" from e) (by decide +kernel)
    · exact absurd (show ("none" : Str) = "rest" from e) (by decide +kernel)
    · exact absurd (show ("all" : Str) = "rest" from e) (by decide +kernel)
  | .one w v, h, e => by
    cases (show w = "rest" from e)
    exact ⟨v, rfl, h.2⟩
  | .two w s t, h, e => by
    exfalso
    rcases h.1 with rfl | rfl | rfl
    · exact absurd (show ("joined" : Str) = "rest" from e) (by decide +kernel)
    · exact absurd (show ("cut" : Str) = "rest" from e) (by decide +kernel)
    · exact absurd (show ("then" : Str) = "rest" from e) (by decide +kernel)
theorem sz_pre : ∀ {t u : Tm}, u ∈ t.pre → u.sz ≤ t.sz
  | .leaf w ss, u, h => by rw [List.mem_singleton.mp h]; exact Nat.le_refl _
  | .one w v, u, h => by
    rcases List.mem_cons.mp h with z | z
    · rw [z]; exact Nat.le_refl _
    · have := sz_pre z
      show u.sz ≤ 1 + v.sz
      omega
  | .two w s t, u, h => by
    rcases List.mem_cons.mp h with z | z
    · rw [z]; exact Nat.le_refl _
    · show u.sz ≤ 1 + s.sz + t.sz
      rcases List.mem_append.mp z with z | z
      · have := sz_pre z
        omega
      · have := sz_pre z
        omega
/-- a def that tells a Bool of a term -/
def spBo (K : PySem.W.Frag) (g : Tm → Bool) : Sp := fun vs H Q _ => ∃ (a : Addr) (t : Tm), vs = [.ref a] ∧ TmAt K H a t ∧ Rt t ∧ t.sz ≤ 400 ∧ ∀ H', Same H H' → Q (.bl (g t)) H'
abbrev NHN : List Str := ["term", "words", "_", "part"]
theorem scHN : FnScope NHN ["term", "words"] (defScope sHasNoneOf) := ⟨rfl, rfl, rfl, by decide +kernel, rfl, by decide +kernel, by decide +kernel⟩
def spHN (K : PySem.W.Frag) : Sp := fun vs H Q _ => ∃ (a w : Addr) (t : Tm) (ws : List Str), vs = [.ref a, .ref w] ∧ TmAt K H a t ∧ Rt t ∧ t.sz ≤ 400 ∧ SqT K H w (ws.map V.str) ∧ ∀ H', Same H H' → Q (.bl (noneOf ws t)) H'
theorem scIF : FnScope ["term"] ["term"] (defScope sIsFlat) := ⟨rfl, rfl, rfl, by decide +kernel, rfl, by decide +kernel, by decide +kernel⟩
abbrev NIK : List Str := ["term", "_", "part"]
theorem scIK : FnScope NIK ["term"] (defScope sIsKept) := ⟨rfl, rfl, rfl, by decide +kernel, rfl, by decide +kernel, by decide +kernel⟩
section
variable {P : Program} {w : World} {K : PySem.W.Frag} {mg : Str → Option Value} {base : Heap} {f : Addr} {fd : FuncData}
theorem ok_po (F : FnP K "parts_of" sPartsOf f fd) (Y : Fx w K mg) : FnOk P w K mg base CX0 4 f fd ["term"] (spPO K) := by
  obtain ⟨d1, F1⟩ := Y.dPartsChecked
  have b1 := FunD.bindsN (ps := ["frame", "value"]) F1 fun _ _ _ _ _ _ us hl => match us, hl with | [_, _], _ => rfl
  have G1 : FnOk P w K mg base CX0 3 _ d1 ["frame", "value"] (spPC K) := ok_pc F1 Y
  refine okD F scPO (fun vs H Q E h => ?_) (fun cdv A outer s H vs Q E hr h => ?_)
  · obtain ⟨a, t, rfl, _⟩ := h
    rfl
  · have nd := scPO.nd
    refine ⟨_, pss_one (ps_ret (pe_call G1 hr (by rfl) Y.gPartsChecked F1.kp b1 .nil pass0 (pa_cons pe_non (pa_cons (pv 0) pa_nil)))), ?_⟩
    obtain ⟨a, t, rfl, ha, rt, z4, k⟩ := h
    exact ⟨_, rfl, a, t, rfl, ha, rt, z4, k⟩
theorem ok_hn (F : FnP K "_has_none_of" sHasNoneOf f fd) (Y : Fx w K mg) : FnOk P w K mg base CX0 5 f fd ["term", "words"] (spHN K) := by
  obtain ⟨d1, F1⟩ := Y.dPartsOf
  have b1 := FunD.bindsN (ps := ["term"]) F1 fun _ _ _ _ _ _ us hl => match us, hl with | [_], _ => rfl
  have G1 : FnOk P w K mg base CX0 4 _ d1 ["term"] (spPO K) := ok_po F1 Y
  refine okD F scHN (fun vs H Q E h => ?_) (fun cdv A outer s H vs Q E hr h => ?_)
  · obtain ⟨a, w, t, ws, rfl, _⟩ := h
    rfl
  · have nd := scHN.nd
    refine ⟨_, pss_one (ps_ret (pe_callB (cr_all rfl) (by rfl) Y.bAll (by decide +kernel) (pa_cons (pe_lc (own := [("_", 2), ("part", 3)]) (g := gTup K 2 (gCons (gName 2) (gCons (gName 3) gNil))) (tt := tYes) (te := tOp (rIn K true) (tOp (rIxT K) (tVar 3) (tC (.int 0))) (tVar 1)) rfl nd
      (pi_list (pe_call G1 hr (by rfl) Y.gPartsOf F1.kp b1 .nil pass0 (pa_cons (pv 0) pa_nil))) (blkOk_by (N := NHN) (sc := defScope sHasNoneOf) (by decide +kernel))
      (fun _ _ _ _ _ => pg_tup rfl (pgs_cons (pg_name (i := 2) nd rfl (Or.inl rfl)) (pgs_cons (pg_name (i := 3) nd rfl (Or.inl rfl)) pgs_nil))) (fun _ _ _ _ _ => pts_nil)
      (fun _ _ _ _ _ => pe_cmpR op_notIn_seq (pe_ix ix_tup (pv 3) pe_int (fun _ _ => rfl)) (pv 1) (by rfl))) pa_nil))), ?_⟩
    obtain ⟨a, wa, t, ws, rfl, ha, rt, z4, hw, k⟩ := h
    refine ⟨_, rfl, a, t, rfl, ha, rt, z4, fun L rs H1 s1 hL eL hP => ⟨L, rfl, ⟨_, SqL.of eL⟩, fun D hD => ?_⟩⟩
    refine lc_list (K := K) (a := L) (xs := rs.map V.ref) (fun i G => G D = some (.lst (((t.pre.take i).map (noneB ws)).map V.bl)) ∧ Same H1 G) ⟨upd_same, same_upd hD⟩ (fun i G _ p => p.2.seq (SqL.of eL)) ?_ ?_
    · rintro i v G hi ⟨e, sm⟩
      obtain ⟨r, er, rfl⟩ := ref_at hi
      obtain ⟨u, eu, q, ua, xs, h1, h2, h3, h4⟩ := hP.get er
      obtain ⟨us, hv, _⟩ := (h4.same sm).view
      have li := (List.getElem?_eq_some_iff.mp eu).1
      rw [pre_len] at li
      refine ⟨r, _, rfl, sqt_same sm h1, rfl, _, _, rfl, _, _, rfl, rfl, rfl, _, rfl, ua, _, 0, _, rfl, rfl, hv, atI_0 _ _, _, rfl, wa, _, rfl, .inr (sqt_same (s1.trans sm) hw), rfl, fl_strs ws, ?_⟩
      refine ⟨_, e, ?_, ?_, same_put hD sm⟩
      · rw [List.length_map, List.length_map, List.length_take, pre_len]
        exact small1000 (by omega)
      · rw [upd_same, List.take_add_one, eu, inV_strs]
        simp [noneB]
    · rintro G ⟨e, sm⟩
      rw [List.length_map, hP.len, List.take_length] at e
      exact ⟨D, _, rfl, SqL.of e, k G (s1.trans sm)⟩
theorem ok_if (F : FnP K "is_flat" sIsFlat f fd) (Y : Fx w K mg) : FnOk P w K mg base CX0 6 f fd ["term"] (spBo K (noneOf NF)) := by
  obtain ⟨d1, F1⟩ := Y.dHasNoneOf
  have b1 := FunD.bindsN (ps := ["term", "words"]) F1 fun _ _ _ _ _ _ us hl => match us, hl with | [_, _], _ => rfl
  have G1 : FnOk P w K mg base CX0 5 _ d1 ["term", "words"] (spHN K) := ok_hn F1 Y
  refine okD F scIF (fun vs H Q E h => ?_) (fun cdv A outer s H vs Q E hr h => ?_)
  · obtain ⟨a, t, rfl, _⟩ := h
    rfl
  · have nd := scIF.nd
    refine ⟨_, pss_one (ps_ret (pe_call G1 hr (by rfl) Y.gHasNoneOf F1.kp b1 .nil pass0 (pa_cons (pv 0) (pa_cons (pe_glob (v := .ref (He.ga K "_NOT_FLAT")) (by rfl) Y.gNOTFLAT rfl) pa_nil)))), ?_⟩
    obtain ⟨a, t, rfl, ha, rt, z4, k⟩ := h
    exact ⟨_, rfl, a, _, t, NF, rfl, ha, rt, z4, He.tupB_ok Y.x11 H, k⟩
theorem ok_ik (F : FnP K "is_kept" sIsKept f fd) (Y : Fx w K mg) : FnOk P w K mg base CX0 7 f fd ["term"] (spBo K keptB) := by
  obtain ⟨d1, F1⟩ := Y.dPartsOf
  obtain ⟨d2, F2⟩ := Y.dIsFlat
  have b1 := FunD.bindsN (ps := ["term"]) F1 fun _ _ _ _ _ _ us hl => match us, hl with | [_], _ => rfl
  have b2 := FunD.bindsN (ps := ["term"]) F2 fun _ _ _ _ _ _ us hl => match us, hl with | [_], _ => rfl
  have G1 : FnOk P w K mg base CX0 4 _ d1 ["term"] (spPO K) := ok_po F1 Y
  have G2 : FnOk P w K mg base CX0 6 _ d2 ["term"] (spBo K (noneOf NF)) := ok_if F2 Y
  refine okD F scIK (fun vs H Q E h => ?_) (fun cdv A outer s H vs Q E hr h => ?_)
  · obtain ⟨a, t, rfl, _⟩ := h
    rfl
  · have nd := scIK.nd
    have hr1 : Room 4 _ := hr.mono (by decide)
    refine ⟨_, pss_one (ps_ret (pe_callB (cr_all rfl) (by rfl) Y.bAll (by decide +kernel) (pa_cons (pe_lc (own := [("_", 1), ("part", 2)]) (g := gTup K 2 (gCons (gName 1) (gCons (gName 2) gNil))) (tt := tTest (tOp rEq (tOp (rIxT K) (tVar 2) (tC (.int 0))) (tC (.str "rest"))))
      (te := tCall (spBo K (noneOf NF)) [] E0 (tCons (tOp (rIxT K) (tVar 2) (tC (.int 1))) tNil)) rfl nd
      (pi_list (pe_call G1 hr1 (by rfl) Y.gPartsOf F1.kp b1 .nil pass0 (pa_cons (pv 0) pa_nil))) (blkOk_by (N := NIK) (sc := defScope sIsKept) (by decide +kernel))
      (fun _ _ _ _ _ => pg_tup rfl (pgs_cons (pg_name (i := 1) nd rfl (Or.inl rfl)) (pgs_cons (pg_name (i := 2) nd rfl (Or.inl rfl)) pgs_nil))) (fun _ _ _ _ _ => pts_one (pt_cmpR op_eq (pe_ix ix_tup (pv 2) pe_int (fun _ _ => rfl)) pe_str (nomark _)))
      (fun _ _ _ _ _ => pe_call G2 hr (by rfl) Y.gIsFlat F2.kp b2 .nil pass0 (pa_cons (pe_ix ix_tup (pv 2) pe_int (fun _ _ => rfl)) pa_nil))) pa_nil))), ?_⟩
    obtain ⟨a, t, rfl, ha, rt, z4, k⟩ := h
    refine ⟨_, rfl, a, t, rfl, ha, rt, z4, fun L rs H1 s1 hL eL hP => ⟨L, rfl, ⟨_, SqL.of eL⟩, fun D hD => ?_⟩⟩
    refine lc_list (K := K) (a := L) (xs := rs.map V.ref) (fun i G => G D = some (.lst (((rkO (t.pre.take i)).map (noneOf NF)).map V.bl)) ∧ (rkO (t.pre.take i)).length ≤ i ∧ Same H1 G) ⟨upd_same, Nat.le_refl _, same_upd hD⟩ (fun i G _ p => p.2.2.seq (SqL.of eL)) ?_ ?_
    · rintro i v G hi ⟨e, ln, sm⟩
      obtain ⟨r, er, rfl⟩ := ref_at hi
      obtain ⟨u, eu, q, ua, xs, h1, h2, h3, h4⟩ := hP.get er
      obtain ⟨us, hv, _⟩ := (h4.same sm).view
      have li := (List.getElem?_eq_some_iff.mp eu).1
      rw [pre_len] at li
      have hu := List.mem_of_getElem? eu
      have hsu := sz_pre hu
      have hRu := rt.pre u hu
      refine ⟨r, _, rfl, sqt_same sm h1, rfl, _, _, rfl, _, _, rfl, rfl, rfl, ?_⟩
      refine ⟨_, rfl, ua, _, 0, _, rfl, rfl, hv, atI_0 _ _, rfl, _, rfl, ite2 (fun hc => ?_) (fun hc => ?_)⟩
      · have ew : u.hd = "rest" := by
          have z : V.str u.hd = V.str "rest" := of_decide_eq_true hc
          injection z
        obtain ⟨v, rfl, rv⟩ := hRu.rest ew
        obtain ⟨b, hb1, hb2⟩ := h4.same sm
        refine ⟨_, rfl, ua, _, 1, _, rfl, rfl, hb1, rfl, b, v, rfl, hb2, rv, (by have z : 1 + v.sz ≤ t.sz := hsu; omega), fun G2 s2 => ?_⟩
        refine ⟨_, s2 _ _ e, ?_, ?_, ?_, same_put hD (sm.trans s2)⟩
        · rw [List.length_map, List.length_map]
          exact small1000 (by omega)
        · rw [upd_same, rk_yes eu (decide_eq_true rfl), List.map_append, List.map_append]
          rfl
        · rw [rk_yes eu (decide_eq_true rfl), List.length_append]
          exact Nat.succ_le_succ ln
      · have z : isRest u = false := by
          refine Bool.eq_false_iff.mpr fun z => hc ?_
          have z2 : u.hd = "rest" := of_decide_eq_true z
          show decide (V.str u.hd = V.str "rest") = true
          rw [z2]
          exact decide_eq_true rfl
        refine ⟨?_, ?_, sm⟩
        · rw [rk_no eu z]
          exact e
        · rw [rk_no eu z]
          exact Nat.le_succ_of_le ln
    · rintro G ⟨e, _, sm⟩
      rw [List.length_map, hP.len, List.take_length] at e
      exact ⟨D, _, rfl, SqL.of e, k G (s1.trans sm)⟩
end
end K37

namespace K37
open PySem PySem.Spec PyProof.Rows L2 Ow Xv
/-! ### the drawn frame, and what stands in the made one -/
theorem seq_any {a u : TS} {D : Ends} {σ : L2.St} {H : Hp} (I : L2.St → Hp → Prop) (hu : ∀ σ' H', I σ' H' → u D σ' H') (h : ∀ nx : L2.St → Hp → Prop, (∀ σ' H', I σ' H' → nx σ' H') → a { D with nx := nx } σ H) : tSeq a u D σ H := h _ hu
section
variable {xs : List Str} {ls : List Lt} {ts : List Tt}
theorem due_rd (e : badN (xs ++ ls.map (·.1)) = none) (e1 : again xs = none) (e2 : again (ls.map (·.1)) = none) (e3 : badE xs ls = none) (e4 : badT (ls.map (·.1)) ts = none) (e5 : badF ts = none) : dueF xs ls ts = if rnd (stepsOf ls ts) xs = [] then none else some (.rd (rnd (stepsOf ls ts) xs)) := by
  unfold dueF; rw [e]; dsimp only; rw [e1]; dsimp only; rw [e2]; dsimp only; rw [e3]; dsimp only; rw [e4]; dsimp only; rw [e5]
end
theorem okx_wd {x : Str} (h : Wd x) : Okx x := ⟨by have := h.hi; omega, h.lay⟩
theorem isW_wd {x : Str} (h : Wd x) : isW x = true := by
  obtain ⟨c, ec⟩ : ∃ c, x.cps[0]? = some c := ⟨x.cps[0]'(show 0 < x.cps.size from h.lo), Array.getElem?_eq_getElem _⟩
  unfold isW
  rw [decide_eq_true h.lo, decide_eq_true h.hi, ec]
  show (true && (true && (inC LT c && x.cps.toList.all (inC SG)))) = true
  have e1 : inC LT c = true := decide_eq_true (h.h c ec)
  have e2 : x.cps.toList.all (inC SG) = true := List.all_eq_true.mpr fun c hc => by
    obtain ⟨i, hi, e⟩ := List.getElem_of_mem hc
    exact decide_eq_true (h.s i c (by rw [← Array.getElem?_toList, List.getElem?_eq_getElem hi, e]))
  rw [e1, e2]
  rfl
theorem firstL_all {α β : Type} {f : Nat → α → Option β} {xs : List α} (h : ∀ i x, xs[i]? = some x → f i x = none) : firstL f xs = none := by
  have key : ∀ n, firstN (fun i => xs[i]?.bind (f i)) n = none := fun n => by
    induction n with
    | zero => rfl
    | succ n ih =>
      refine firstN_step ih ?_
      cases e : xs[n]? with
      | none => rfl
      | some x => exact h n x e
  exact key _
def rk (x : Str) : Nat := x.cps.getD 0 0 - 97
theorem abc_rk : (ABC.all fun x => ABC.all fun y => decide (decide (y.cps.toList < x.cps.toList) = decide (rk y < rk x)) && (decide (x = y) || decide (rk x ≠ rk y))) = true := by decide +kernel
theorem abc_at : (((List.range 4).all fun n => (ABC.take n).all fun x => decide (rk x < n)) && decide (ABC.length = 3)) = true := by decide +kernel
def totOf (q : Lt) : Tt := (q.1, if q.2.2.cps.toList < q.2.1.cps.toList then "back" else "on")
theorem step_tot {q : Lt} (h1 : q.2.1 ∈ ABC) (h2 : q.2.2 ∈ ABC) (ne : q.2.1 ≠ q.2.2) : rk (stepOf q (totOf q)).1 < rk (stepOf q (totOf q)).2 := by
  obtain ⟨z1, z2⟩ := an (List.all_eq_true.mp (List.all_eq_true.mp abc_rk _ h1) _ h2)
  have z3 := of_decide_eq_true z1
  have z4 : rk q.2.1 ≠ rk q.2.2 := by
    rw [decide_eq_false ne, Bool.false_or] at z2
    exact of_decide_eq_true z2
  unfold stepOf totOf
  dsimp only
  by_cases c : q.2.2.cps.toList < q.2.1.cps.toList
  · rw [if_pos c, if_neg (by decide +kernel)]
    rw [decide_eq_true c] at z3
    exact of_decide_eq_true z3.symm
  · rw [if_neg c, if_pos rfl]
    rw [decide_eq_false c] at z3
    have := of_decide_eq_false z3.symm
    show rk q.2.1 < rk q.2.2
    omega
theorem leadN_rk {S : List Tt} {xs : List Str} {n : Nat} (hS : ∀ p ∈ S, rk p.1 < rk p.2) (hx : ∀ x ∈ xs, rk x < n) : ∀ k, ∀ x ∈ leadN S k xs, rk x + k < n := fun k => by
  induction k with
  | zero => exact fun x h => hx x h
  | succ k ih =>
    intro x h
    obtain ⟨h1, h2⟩ := List.mem_filter.mp h
    obtain ⟨y, hy, e⟩ := List.any_eq_true.mp h2
    have a := hS _ (of_decide_eq_true e)
    have b := ih y hy
    dsimp only at a
    omega
theorem find_nd {ls : List Lt} (nd : (ls.map (·.1)).Nodup) {q : Lt} (h : q ∈ ls) : endOf ls q.1 = q := by
  obtain ⟨m1, m2⟩ := endOf_ok (List.mem_map.mpr ⟨q, h, rfl⟩ : q.1 ∈ ls.map (·.1))
  obtain ⟨i, hi, ei⟩ := List.getElem_of_mem m1
  obtain ⟨j, hj, ej⟩ := List.getElem_of_mem h
  have : i = j := by
    by_cases e : i = j
    · exact e
    · exfalso
      rcases Nat.lt_or_gt_of_ne e with l | l
      · exact List.pairwise_iff_getElem.mp nd i j (by rw [List.length_map]; exact hi) (by rw [List.length_map]; exact hj) l (by rw [List.getElem_map, List.getElem_map, ei, ej, m2])
      · exact List.pairwise_iff_getElem.mp nd j i (by rw [List.length_map]; exact hj) (by rw [List.length_map]; exact hi) l (by rw [List.getElem_map, List.getElem_map, ei, ej, m2])
  subst this
  rw [← ei, ej]
/-- drawn sorts, letters, and the letters that are totals -/
structure Drawn (xs : List Str) (ls us : List Lt) : Prop where
  ok : FrOk xs ls
  ab : ∀ x ∈ xs, x ∈ ABC ∧ rk x < xs.length
  el : ∀ q ∈ us, q ∈ ls ∧ q.2.1 ≠ q.2.2
  nd : (us.map (·.1)).Nodup
  lu : us.length ≤ 16
theorem Drawn.good {xs : List Str} {ls us : List Lt} (h : Drawn xs ls us) : GdF xs ls (us.map totOf) := by
  have ok := h.ok
  have l16 : ls.length ≤ 16 := by have := ok.nl.n; rw [List.length_map] at this; exact this
  have wl : ∀ q ∈ ls, Wd q.1 := fun q hq => ok.nl.w _ (List.mem_map.mpr ⟨q, hq, rfl⟩)
  have e1 : badN (xs ++ ls.map (·.1)) = none := firstL_all fun i x hx => if_pos (isW_wd (by
    rcases List.mem_append.mp (List.mem_of_getElem? hx) with z | z
    · exact ok.nx.w x z
    · exact ok.nl.w x z))
  have e2 : again xs = none := again_nodup.mpr ok.nx.nd
  have e3 : again (ls.map (·.1)) = none := again_nodup.mpr ok.nl.nd
  have e4 : badE xs ls = none := firstL_all fun i q hq => by
    obtain ⟨a, b⟩ := ok.ends q (List.mem_of_getElem? hq)
    rw [if_neg (fun z => z a), if_neg (fun z => z b)]
  have e5 : badT (ls.map (·.1)) (us.map totOf) = none := firstL_all fun i q hq => by
    obtain ⟨u, hu', rfl⟩ := List.mem_map.mp (List.mem_of_getElem? hq)
    exact if_neg fun z => z (List.mem_map.mpr ⟨u, (h.el u hu').1, rfl⟩)
  have e6 : badF (us.map totOf) = none := firstL_all fun i q hq => by
    have hw : q.2 = ("on" : Str) ∨ q.2 = ("back" : Str) := by
      obtain ⟨u, hu', rfl⟩ := List.mem_map.mp (List.mem_of_getElem? hq)
      unfold totOf
      dsimp only
      by_cases c : u.2.2.cps.toList < u.2.1.cps.toList
      · exact .inr (if_pos c)
      · exact .inl (if_neg c)
    refine if_neg fun z => ?_
    rcases z with ⟨z1, z2⟩ | z
    · exact hw.elim z1 z2
    · obtain ⟨j, hj, ej⟩ := List.getElem_of_mem z
      rw [List.length_take] at hj
      rw [List.getElem_take] at ej
      obtain ⟨li, ei⟩ := List.getElem?_eq_some_iff.mp hq
      rw [List.length_map] at li
      rw [List.getElem_map] at ej ei
      refine List.pairwise_iff_getElem.mp h.nd j i (by rw [List.length_map]; omega) (by rw [List.length_map]; exact li) (by omega) ?_
      rw [List.getElem_map, List.getElem_map]
      have a : (totOf us[j]).1 = (totOf us[i]).1 := by rw [ej, ei]
      exact a
  have hS : ∀ p ∈ stepsOf ls (us.map totOf), rk p.1 < rk p.2 := fun p hp => by
    unfold stepsOf at hp
    rw [List.map_map] at hp
    obtain ⟨u, hu', rfl⟩ := List.mem_map.mp hp
    obtain ⟨hul, ne⟩ := h.el u hu'
    show rk (stepOf (endOf ls u.1) (totOf u)).1 < rk (stepOf (endOf ls u.1) (totOf u)).2
    rw [find_nd ok.nl.nd hul]
    obtain ⟨a, b⟩ := ok.ends u hul
    exact step_tot (h.ab _ a).1 (h.ab _ b).1 ne
  have e7 : rnd (stepsOf ls (us.map totOf)) xs = [] := by
    unfold rnd
    cases z : leadN (stepsOf ls (us.map totOf)) xs.length xs with
    | nil => rfl
    | cons a l =>
      have := leadN_rk hS (fun x hx => (h.ab x hx).2) xs.length a (by rw [z]; exact List.mem_cons_self)
      omega
  have lx := ok.nx.n
  have lu := h.lu
  refine ⟨⟨fun x h => okx_wd (ok.nx.w x h), fun q hq => ⟨okx_wd (wl q hq), okx_wd (ok.nx.w _ (ok.ends q hq).1), okx_wd (ok.nx.w _ (ok.ends q hq).2)⟩, fun q hq => ?_, by omega, by omega, by rw [List.length_map]; omega⟩, by rw [due_rd e1 e2 e3 e4 e5 e6, if_pos e7]⟩
  obtain ⟨u, hu', rfl⟩ := List.mem_map.mp hq
  refine ⟨okx_wd (wl u (h.el u hu').1), ?_⟩
  have w1 : Wd ("on" : Str) := wd_of (by decide +kernel)
  have w2 : Wd ("back" : Str) := wd_of (by decide +kernel)
  unfold totOf
  dsimp only
  by_cases c : u.2.2.cps.toList < u.2.1.cps.toList
  · rw [if_pos c]
    exact okx_wd w2
  · rw [if_neg c]
    exact okx_wd w1
theorem drawn_of {xs : List Str} {ls us : List Lt} {n : Nat} (ok : FrOk xs ls) (ex : xs = ABC.take n) (n3 : n ≤ 3) (hu : us.Sublist ls) (ne : ∀ q ∈ us, q.2.1 ≠ q.2.2) : Drawn xs ls us := by
  obtain ⟨f1, f2⟩ := an abc_at
  have lx : xs.length = n := by rw [ex, List.length_take, of_decide_eq_true f2]; omega
  have l16 : ls.length ≤ 16 := by have := ok.nl.n; rw [List.length_map] at this; exact this
  refine ⟨ok, fun x h => ?_, fun q hq => ⟨hu.subset hq, ne q hq⟩, ok.nl.nd.sublist (hu.map _), by have := hu.length_le; omega⟩
  rw [lx]
  rw [ex] at h
  exact ⟨List.mem_of_mem_take h, of_decide_eq_true (List.all_eq_true.mp (List.all_eq_true.mp f1 n (List.mem_range.mpr (by omega))) x h)⟩
/-- the sequences of the sorts -/
def PM : List (List Str) := [["a", "b", "c"], ["b", "a", "c"], ["c", "b", "a"], ["b", "c", "a"]]
theorem pm_nl {r : Nat} (h : r < 4) : NL (PM.getD r []) := by
  have key : ∀ l ∈ PM, NL l := fun l hl => by
    have e : (PM.all fun l => decide (l.Nodup) && (l.all wdB && decide (l.length ≤ 16))) = true := by decide +kernel
    obtain ⟨e1, e2⟩ := an (List.all_eq_true.mp e l hl)
    obtain ⟨e3, e4⟩ := an e2
    exact ⟨of_decide_eq_true e1, fun x hx => wd_of (List.all_eq_true.mp e3 x hx), of_decide_eq_true e4⟩
  have l : PM.length = 4 := rfl
  rw [List.getD_eq_getElem?_getD, List.getElem?_eq_getElem (by omega)]
  exact key _ (List.getElem_mem _)
theorem pm_len {r : Nat} (h : r < 4) : (PM.getD r []).length = 3 := by
  have e : ((List.range 4).all fun r => decide ((PM.getD r []).length = 3)) = true := by decide +kernel
  exact of_decide_eq_true (List.all_eq_true.mp e r (List.mem_range.mpr h))
theorem lead0 (l : List Str) : lead [] l = [] := by
  unfold lead
  simp
theorem good0 {xs : List Str} {ls : List Lt} (ok : FrOk xs ls) : GdF xs ls [] := by
  have l16 : ls.length ≤ 16 := by have := ok.nl.n; rw [List.length_map] at this; exact this
  have wl : ∀ q ∈ ls, Wd q.1 := fun q hq => ok.nl.w _ (List.mem_map.mpr ⟨q, hq, rfl⟩)
  have e1 : badN (xs ++ ls.map (·.1)) = none := firstL_all fun i x hx => if_pos (isW_wd (by
    rcases List.mem_append.mp (List.mem_of_getElem? hx) with z | z
    · exact ok.nx.w x z
    · exact ok.nl.w x z))
  have e2 : again xs = none := again_nodup.mpr ok.nx.nd
  have e3 : again (ls.map (·.1)) = none := again_nodup.mpr ok.nl.nd
  have e4 : badE xs ls = none := firstL_all fun i q hq => by
    obtain ⟨a, b⟩ := ok.ends q (List.mem_of_getElem? hq)
    rw [if_neg (fun z => z a), if_neg (fun z => z b)]
  have e7 : rnd (stepsOf ls []) xs = [] := by
    unfold rnd
    show leadN [] xs.length xs = []
    cases xs with
    | nil => rfl
    | cons x r => exact lead0 _
  have lx := ok.nx.n
  exact ⟨⟨fun x h => okx_wd (ok.nx.w x h), fun q hq => ⟨okx_wd (wl q hq), okx_wd (ok.nx.w _ (ok.ends q hq).1), okx_wd (ok.nx.w _ (ok.ends q hq).2)⟩, fun q hq => absurd hq List.not_mem_nil, by omega, by omega, Nat.zero_le _⟩, by rw [due_rd e1 e2 e3 e4 rfl rfl, if_pos e7]⟩
theorem TupsT.tups' {K : PySem.W.Frag} {H : Hp} {l : Addr} {us : List Addr} {vss : List (List V)} (e : SqA K H l (us.map V.ref)) (h : AllT K H us vss) : TupsA K H l vss := ⟨us, e, h.1, h.2⟩
theorem TupsA.of {K : PySem.W.Frag} {H : Hp} {l : Addr} {vss : List (List V)} (h : TupsAt K H l vss) : TupsA K H l vss := by
  obtain ⟨as, a, b, c⟩ := h
  exact ⟨as, .inl a, b, c⟩
section
variable {K : PySem.W.Frag} {H : Hp} {d c x D : Addr} {xs : List Str} {ls : List Lt} {ts : List Tt}
theorem sqt_hid {a : Addr} {xs : List V} (src : SrcAt H d c) (h : SqT K H a xs) : SqT K (hid d c H) a xs := by
  obtain ⟨ns, l, m, t, h1, _, h3⟩ := src
  rcases h with (h | ⟨o, h⟩) | h
  · exact .inl (.inl ((hid_at (fun e => by rw [e, h3] at h; cases h) (fun e => by rw [e, h1] at h; cases h)).trans h))
  · exact .inl (.inr ⟨o, (hid_at (fun e => by rw [e, h3] at h; cases h) (fun e => by rw [e, h1] at h; cases h)).trans h⟩)
  · exact .inr h
theorem kvL_skv {l m t : Int} : ∀ (ls : List Lt) (as : List Addr), kvL ls as ≠ skv c l m t
  | [], _, h => by cases h
  | _ :: _, [], h => by cases h
  | q :: [], a :: as, h => by
    injection h with h1 h2
    cases h2
  | q :: p :: ls, [a], h => by
    injection h with h1 h2
    cases h2
  | q :: p :: ls, a :: b :: as, h => by
    injection h with h1 h2
    injection h2 with h3 h4
    injection h3 with h5 h6
    cases h6
theorem FrmAt.hid (src : SrcAt H d c) (h : FrmAt K H x xs ls ts) : FrmAt K (hid d c H) x xs ls ts := by
  obtain ⟨dx, s, l, t, m, h1, h2, ⟨as, h3, h6⟩, ⟨bs, h4, h7⟩, ⟨ws, h5, h8, h9⟩⟩ := h
  obtain ⟨ns, l', m', t', g1, _, g3⟩ := id src
  refine ⟨dx, s, l, t, m, ?_, sqt_hid src h2, ⟨as, sqt_hid src h3, h6.1, fun i u e => ?_⟩, ⟨bs, sqt_hid src h4, h7.1, fun i u e => ?_⟩, ⟨ws, ?_, h8, fun i u e => ?_⟩⟩
  · exact (hid_at (fun e => by rw [e, g3] at h1; cases h1) (fun e => by rw [e, g1] at h1; cases h1)).trans h1
  · obtain ⟨vs, a, b⟩ := h6.2 i u e
    exact ⟨vs, a, sqt_hid src b⟩
  · obtain ⟨vs, a, b⟩ := h7.2 i u e
    exact ⟨vs, a, sqt_hid src b⟩
  · refine (hid_at (fun e => ?_) (fun e => by rw [e, g1] at h5; cases h5)).trans h5
    rw [e, g3] at h5
    injection h5 with h5
    injection h5 with h5
    exact kvL_skv ls ws h5.symm
  · obtain ⟨q, a, b⟩ := h9 i u e
    exact ⟨q, a, sqt_hid src b⟩
theorem FrmAt.putL {o : HO} {zs : List V} (e : H D = some (.lst zs)) (h : FrmAt K H x xs ls ts) : FrmAt K (upd H D o) x xs ls ts := by
  obtain ⟨dx, s, l, t, m, h1, h2, ⟨as, h3, h6⟩, ⟨bs, h4, h7⟩, ⟨ws, h5, h8, h9⟩⟩ := h
  refine ⟨dx, s, l, t, m, ?_, sqt_put e h2, ⟨as, sqt_put e h3, h6.put e⟩, ⟨bs, sqt_put e h4, h7.put e⟩, ⟨ws, ?_, h8, fun i u e2 => ?_⟩⟩
  · exact (upd_ne fun z => by rw [z, e] at h1; cases h1).trans h1
  · exact (upd_ne fun z => by rw [z, e] at h5; cases h5).trans h5
  · obtain ⟨q, a, b⟩ := h9 i u e2
    exact ⟨q, a, sqt_put e b⟩
theorem cat_any {a b : Addr} {ys zs : List V} {Q : VK} (h1 : SqT K H a ys) (h2 : SqT K H b zs) (l : ys.length + zs.length ≤ 1000) (k : ∀ (T : Addr) (H' : Hp), Same H H' → SqT K H' T (ys ++ zs) → Q (.ref T) H') : rCatA K (.ref a) (.ref b) H Q :=
  ⟨a, b, ys, zs, rfl, rfl, h1, h2, szl l, fun e => k b H (Same.refl _) (by rw [e]; exact h2), fun _ e => k a H (Same.refl _) (by rw [e, List.append_nil]; exact h1), fun _ _ p hp => k p _ (same_upd hp) (SqT.of upd_same)⟩
end
def TupsM (K : PySem.W.Frag) (H : Hp) (l : Addr) (vss : List (List V)) : Prop := ∃ as : List Addr, H l = some (.lst (as.map V.ref)) ∧ AllT K H as vss
theorem TupsM.same {K : PySem.W.Frag} {H H' : Hp} {l : Addr} {vss : List (List V)} (s : Same H H') (h : TupsM K H l vss) : TupsM K H' l vss := by
  obtain ⟨as, e, g⟩ := h
  exact ⟨as, s _ _ e, g.same s⟩
theorem TupsM.at_ {K : PySem.W.Frag} {H : Hp} {l : Addr} {vss : List (List V)} (h : TupsM K H l vss) : TupsAt K H l vss := by
  obtain ⟨as, e, g⟩ := h
  exact g.tups (SqL.of e)
/-- the made frame -/
def MdAt (K : PySem.W.Frag) (H : Hp) (e : Addr) (xs : List Str) (ls : List Lt) (ts : List Tt) (b : Addr) : Prop := (∃ s m o t, H e = some (.dK (frV s m o t b)) ∧ TupsM K H t (ts.map ttV)) ∧ FrmAt K H b xs ls ts ∧ GdF xs ls ts
theorem MdAt.same {K : PySem.W.Frag} {H H' : Hp} {e b : Addr} {xs : List Str} {ls : List Lt} {ts : List Tt} (s : Same H H') (h : MdAt K H e xs ls ts b) : MdAt K H' e xs ls ts b := by
  obtain ⟨⟨a, m, o, t, h1, h4⟩, h2, h3⟩ := h
  exact ⟨⟨a, m, o, t, s _ _ h1, h4.same s⟩, h2.same s, h3⟩
/-- a frame, with any totals -/
def FrmA (K : PySem.W.Frag) (H : Hp) (x : Addr) (xs : List Str) (ls : List Lt) : Prop := ∃ ts, FrmAt K H x xs ls ts
theorem FrmA.same {K : PySem.W.Frag} {H H' : Hp} {x : Addr} {xs : List Str} {ls : List Lt} (s : Same H H') (h : FrmA K H x xs ls) : FrmA K H' x xs ls := let ⟨ts, h⟩ := h; ⟨ts, h.same s⟩
theorem FrmA.putL {K : PySem.W.Frag} {H : Hp} {D x : Addr} {xs : List Str} {ls : List Lt} {o : HO} {zs : List V} (e : H D = some (.lst zs)) (h : FrmA K H x xs ls) : FrmA K (upd H D o) x xs ls := let ⟨ts, h⟩ := h; ⟨ts, h.putL e⟩
theorem fr_made {H : Hp} {d s m o t b : Addr} (h : H d = some (.dK (frV s m o t b))) : DGet H d (.str "made") (some (.ref b)) := by
  have z : DGet H d (kV (.inr "made")) (valV (frV s m o t b) (.inr "made")) := DGet.k h
  rw [show valV (frV s m o t b) (.inr "made") = some (.ref b) from rfl] at z
  exact z
def spFd3 (K : PySem.W.Frag) : Sp := fun vs H Q _ => ∃ (s o m t : Addr) (xs : List Str) (ls : List Lt) (ts : List Tt), vs = [.ref s, .ref o, .ref m, .ref t] ∧ H s = some (.lst (xs.map V.str)) ∧ SqL K H o ((ls.map (·.1)).map V.str) ∧ LdAt K H m ls ∧ TupsAt K H t (ts.map ttV) ∧ GdF xs ls ts ∧
  ∀ d b H', H d = none → Same H H' → H' d = some (.dK (frV s m o t b)) → FrmAt K H' b xs ls ts → Q (.ref d) H'
def spFr3 (K : PySem.W.Frag) : Sp := fun vs H Q _ => ∃ (d c : Addr) (n m : Nat), vs = [.ref d, .int (n : Int), .int (m : Int)] ∧ SrcAt H d c ∧ 1 ≤ n ∧ n ≤ 3 ∧ 1 ≤ m ∧ m ≤ 8 ∧
  ∀ (e b : Addr) (xs : List Str) (ls : List Lt) (H' : Hp), SrcAt H' d c → Same (hid d c H) (hid d c H') → FrAt K (hid d c H') e xs ls → MdAt K (hid d c H') e xs ls [] b → (∃ r, r < 4 ∧ xs = (PM.getD r []).take n) → ls.length = m → Q (.ref e) H'
section
variable {P : Program} {w : World} {K : PySem.W.Frag} {mg : Str → Option Value} {base : Heap} {f : Addr} {fd : FuncData}
/-- what C(..) of such lists asks and tells -/
theorem mk_fr2 {H : Hp} {s l t : Addr} {xs : List Str} {ls : List Lt} {ts : List Tt} {Q : Addr → Hp → Prop} {E : XK} (hs : SqA K H s (xs.map V.str)) (hl : TupsA K H l (ls.map ltV)) (ht : TupsA K H t (ts.map ttV)) (ok : FrIn xs ls ts) (kE : ∀ f, dueF xs ls ts = some f → RaisedF K H E f)
    (k : dueF xs ls ts = none → ∀ b H', Same H H' → H b = none → FrmAt K H' b xs ls ts → Q b H') :
    ∀ x dx, H x = none → H dx = none → dx ≠ x → spFI2 K (.ref x :: ([.ref s, .ref l, .ref t] ++ [])) (upd (upd H dx (.own x)) x (.ins (CFrame K) dx [])) (fun v H2 => v = .non ∧ Q x H2) E := fun x dx hx hd nd => by
  have s0 : Same H (upd (upd H dx (.own x)) x (.ins (CFrame K) dx [])) := same_new hx hd .refl
  have nn : ∀ {d : Addr}, upd (upd H dx (.own x)) x (.ins (CFrame K) dx []) d = none → H d = none := none_of s0
  refine ⟨x, s, l, t, dx, xs, ls, ts, rfl, upd_same, hs.same s0, hl.same s0, ht.same s0, ok, fun f e => ?_, fun e H' kk hF => ⟨rfl, k e x H' (same_new hx hd kk) hx hF⟩⟩
  have z := kE f e
  cases f with
  | nm y => exact fun d H' s' hd' e' => z d H' (s0.trans s') (nn hd') e'
  | tw y => exact fun d H' s' hd' e' => z d H' (s0.trans s') (nn hd') e'
  | un y => exact fun d H' s' hd' e' => z d H' (s0.trans s') (nn hd') e'
  | fr y => exact fun d H' s' hd' e' => z d H' (s0.trans s') (nn hd') e'
  | rd ys => exact fun d T H' s' hd' e' hT => z d T H' (s0.trans s') (nn hd') e' hT
theorem ok_fd3 (F : FnP K "_law_framed" sLawFramed f fd) (Y : Fx w K mg) : FnOk P w K mg base CX0 6 f fd ["_law_every", "_law_order", "_law_letters", "_law_totals"] (spFd3 K) := by
  obtain ⟨d2, F2⟩ := Y.dFrame_Init
  have b2 := FunD.bindsN (ps := ["self", "sorts", "letters", "totals"]) F2 fun _ _ _ _ _ _ us hl => match us, hl with | [_, _, _, _], _ => rfl
  have G2 : FnOk P w K mg base (L2.CX P w) 4 _ d2 ["self", "sorts", "letters", "totals"] (spFI2 K) := ok_fi2 F2 Y
  refine okD F scFd (fun vs H Q E h => ?_) (fun cdv A outer s H vs Q E hr h => ?_)
  · obtain ⟨s, o, m, t, xs, ls, ts, rfl, _⟩ := h
    rfl
  · have nd := scFd.nd
    have hu := hu_of hr
    refine ⟨_, pss_cons (ps_set (i := 4) nd rfl (Or.inl rfl) (pe_make Y.mFrame G2 hr (by rfl) Y.gFrame b2 .nil passX (pa_cons (pv 0) (pa_cons
        (pe_lc (own := [("_law_name", 5)]) (g := gName 5) (tt := tYes) (te := tTup (tCons (tVar 5) (tCons (tOp (rIxT K) (tDGet (tVar 2) (tVar 5)) (tC (.int 0))) (tCons (tOp (rIxT K) (tDGet (tVar 2) (tVar 5)) (tC (.int 1))) tNil)))) rfl nd (pi_list (pv 1)) (blkOk_by (N := NFd) (sc := defScope sLawFramed) (by decide +kernel)) (fun _ _ _ _ _ => pg_name (i := 5) nd rfl (Or.inl rfl)) (fun _ _ _ _ _ => pts_nil)
          (fun _ _ _ _ _ => pe_tup (pa_cons (pv 5) (pa_cons (pe_ix ix_tup (pe_dget hu (pv 2) (pv 5) nosl) pe_int (fun _ _ => rfl)) (pa_cons (pe_ix ix_tup (pe_dget hu (pv 2) (pv 5) nosl) pe_int (fun _ _ => rfl)) pa_nil))))) (pa_cons (pv 3) pa_nil)))))
      (pss_one (ps_ret (pe_disp (pps_cons pe_str (pv 0) (pps_cons pe_str (pv 2) (pps_cons pe_str (pv 1) (pps_cons pe_str (pv 3) (pps_cons pe_str (pv 4) pps_nil))))) rfl rfl (by simp) (by decide)))), ?_⟩
    obtain ⟨s, o, m, t, xs, ls, ts, rfl, hs, ho, hm, ht, ok, k⟩ := h
    refine ⟨_, rfl, _, rfl, o, rfl, ⟨_, ho⟩, fun D hD => ?_⟩
    refine lc_list (K := K) (a := o) (xs := (ls.map (·.1)).map V.str) (fun i G => ∃ us : List Addr, G D = some (.lst (us.map V.ref)) ∧ AllT K G us ((ls.take i).map ltV) ∧ Same H G) ⟨[], upd_same, AllT.nil, same_upd hD⟩ (fun i G _ p => by obtain ⟨us, _, _, p⟩ := p; exact p.seq ho) ?_ ?_
    · rintro i v G hi ⟨us, e, hA, sm⟩
      obtain ⟨x, ex, rfl⟩ := str_at hi
      obtain ⟨q, eq, rfl⟩ : ∃ q, ls[i]? = some q ∧ x = q.1 := by
        rw [List.getElem?_map] at ex
        cases z : ls[i]? with
        | none => rw [z] at ex; cases ex
        | some q => rw [z] at ex; exact ⟨q, rfl, (Option.some.inj ex).symm⟩
      obtain ⟨tt, dg, st⟩ := (hm.same sm).get ok.nd eq
      have li := (List.getElem?_eq_some_iff.mp eq).1
      have n60 := ok.fi.ll
      refine ⟨rfl, _, rfl, ?_⟩
      refine ⟨_, rfl, _, rfl, m, .ref tt, rfl, dg, tt, _, 0, _, rfl, rfl, st, rfl, ?_⟩
      refine ⟨_, rfl, _, rfl, m, .ref tt, rfl, dg, tt, _, 1, _, rfl, rfl, st, rfl, ?_⟩
      refine ⟨szl (by show 3 ≤ 1000; decide), fun T hT => ?_⟩
      have e2 := same_upd (o := .tup [V.str q.1, V.str q.2.1, V.str q.2.2]) hT _ _ e
      refine ⟨_, e2, ?_, us ++ [T], ?_, ?_, same_put hD (sm.trans (same_upd hT))⟩
      · have z := hA.1
        rw [List.length_map, List.length_take] at z
        rw [List.length_map]
        exact small1000 (by omega)
      · rw [upd_same, List.map_append]
        rfl
      · rw [List.take_add_one, eq, List.map_append]
        exact ((hA.same (same_upd hT)).snoc (SqT.of upd_same)).put e2
    rintro G ⟨us, e, hA, sm⟩
    rw [List.length_map, List.length_map, List.take_length] at hA
    refine ⟨_, rfl, ?_⟩
    refine mk_fr2 (.inl (sm.seq (SqL.of hs))) (TupsT.tups' (.inl (SqL.of e)) hA) (TupsA.of (ht.same sm)) ok.fi (fun f e => by rw [ok.no] at e; cases e) fun _ b H1 s1 _ hF => ?_
    replace s1 := sm.trans s1
    intro p hp
    refine ⟨_, rfl, _, rfl, _, rfl, _, rfl, _, rfl, upd_same, frV s m o t b, rfl, (show 5 ≤ 15 by decide), ?_⟩
    rw [show mergeK [] (frV s m o t b) = frV s m o t b from rfl, upd_upd]
    have s2 := s1.trans (same_upd (o := .dK (frV s m o t b)) hp)
    exact k p b _ (none_of s1 hp) s2 upd_same (hF.same (same_upd hp))
theorem ok_fr3 (F : FnP K "_law_frame" sLawFrame f fd) (Y : Fx w K mg) : FnOk P w K mg base CX0 7 f fd ["_law_source_here", "_law_sorts", "_law_letters"] (spFr3 K) := by
  obtain ⟨d1, F1⟩ := Y.dLawPick
  obtain ⟨d2, F2⟩ := Y.dLawNames
  obtain ⟨d3, F3⟩ := Y.dLawFramed
  have b1 := FunD.bindsN (ps := ["_law_source_here", "_law_many"]) F1 fun _ _ _ _ _ _ us hl => match us, hl with | [_, _], _ => rfl
  have b2 := FunD.bindsN (ps := ["_law_source_here", "_law_many"]) F2 fun _ _ _ _ _ _ us hl => match us, hl with | [_, _], _ => rfl
  have b3 := FunD.bindsN (ps := ["_law_every", "_law_order", "_law_letters", "_law_totals"]) F3 fun _ _ _ _ _ _ us hl => match us, hl with | [_, _, _, _], _ => rfl
  have G1 : FnOk P w K mg base CX0 1 _ d1 ["_law_source_here", "_law_many"] spPick := ok_pick F1 Y.bl
  have G2 : FnOk P w K mg base CX0 2 _ d2 ["_law_source_here", "_law_many"] (spNm K) := ok_nm F2 Y
  have G3 : FnOk P w K mg base CX0 6 _ d3 ["_law_every", "_law_order", "_law_letters", "_law_totals"] (spFd3 K) := ok_fd3 F3 Y
  refine okD F scFr (fun vs H Q E h => ?_) (fun cdv A outer s H vs Q E hr h => ?_)
  · obtain ⟨d, c, n, m, rfl, _⟩ := h
    rfl
  · have nd := scFr.nd
    have hu := hu_of hr
    have hr1 : Room 1 _ := hr.mono (by decide)
    have hr2 : Room 2 _ := hr.mono (by decide)
    refine ⟨_, pss_cons (ps_set (i := 3) nd rfl (Or.inl rfl) (pe_slice sl_list (pe_ix ix_list (pe_lst (pa_cons (pe_lst (pa_cons pe_str (pa_cons pe_str (pa_cons pe_str pa_nil)))) (pa_cons (pe_lst (pa_cons pe_str (pa_cons pe_str (pa_cons pe_str pa_nil)))) (pa_cons (pe_lst (pa_cons pe_str (pa_cons pe_str (pa_cons pe_str pa_nil)))) (pa_cons (pe_lst (pa_cons pe_str (pa_cons pe_str (pa_cons pe_str pa_nil)))) pa_nil))))) (pe_call G1 hr1 (by rfl) Y.gLawPick F1.kp b1 .nil pass0 (pa_cons (pv 0) (pa_cons pe_int pa_nil))) (fun _ _ => rfl)) po_none (po_some (pv 1))))
      (pss_cons (ps_set (i := 4) nd rfl (Or.inl rfl) (pe_call G2 hr2 (by rfl) Y.gLawNames F2.kp b2 .nil pass0 (pa_cons (pv 0) (pa_cons (pv 2) pa_nil))))
      (pss_cons (ps_set (i := 5) nd rfl (Or.inl rfl) pe_dnewK)
      (pss_cons (ps_for PassesOwn.never rfl (pi_list (pv 4)) (pg_name (i := 6) nd rfl (Or.inl rfl))
        (pss_one (ps_dput hu (pv 5) (pv 6) (pe_tup (pa_cons (pe_ix ix_list (pv 3) (pe_call G1 hr1 (by rfl) Y.gLawPick F1.kp b1 .nil pass0 (pa_cons (pv 0) (pa_cons (pv 1) pa_nil))) (fun _ _ => rfl)) (pa_cons (pe_ix ix_list (pv 3) (pe_call G1 hr1 (by rfl) Y.gLawPick F1.kp b1 .nil pass0 (pa_cons (pv 0) (pa_cons (pv 1) pa_nil))) (fun _ _ => rfl)) pa_nil))) rfl)))
      (pss_one (ps_ret (pe_call G3 hr (by rfl) Y.gLawFramed F3.kp b3 .nil pass0 (pa_cons (pv 3) (pa_cons (pv 4) (pa_cons (pv 5) (pa_cons (pe_lst pa_nil) pa_nil))))))))))  , ?_⟩
    obtain ⟨d, c, n, m, rfl, src, n1, n3, m1, m4, k⟩ := h
    refine seq_any (fun σ G => ∃ (s : Addr) (xs : List Str), σ = [some (.ref d), some (.int (n : Int)), some (.int (m : Int)), some (.ref s), none, none, none] ∧ SrcAt G d c ∧ Same (hid d c H) (hid d c G) ∧ hid d c G s = some (.lst (xs.map V.str)) ∧ s ≠ d ∧ s ≠ c ∧ ∃ r, r < 4 ∧ xs = (PM.getD r []).take n) ?_ ?_
    rotate_left
    · intro nx hnx
      refine ⟨szl (by show 3 ≤ 1000; decide), fun a1 h1 => ⟨szl (by show 3 ≤ 1000; decide), fun a2 h2 => ⟨szl (by show 3 ≤ 1000; decide), fun a3 h3 => ⟨szl (by show 3 ≤ 1000; decide), fun a4 h4 => ⟨szl (by show 4 ≤ 1000; decide), fun a5 h5 => ?_⟩⟩⟩⟩⟩
      have n1 := new_h (.lst [V.str "a", V.str "b", V.str "c"]) src h1
      have n2 := new_h (.lst [V.str "b", V.str "a", V.str "c"]) n1.src h2
      have n3' := new_h (.lst [V.str "c", V.str "b", V.str "a"]) n2.src h3
      have n4 := new_h (.lst [V.str "b", V.str "c", V.str "a"]) n3'.src h4
      have n5 := new_h (.lst [V.ref a1, V.ref a2, V.ref a3, V.ref a4]) n4.src h5
      have s45 := n4.sm.trans n5.sm
      have s35 := n3'.sm.trans s45
      have s25 := n2.sm.trans s35
      have sA := n1.sm.trans s25
      refine ⟨_, rfl, d, c, 4, rfl, n5.src, by decide, by decide, fun r G2 r0 r1 src2 keep => ?_⟩
      have eh := hid_pick keep
      obtain ⟨j, rfl⟩ : ∃ j : Nat, r = (j : Int) := ⟨r.toNat, by omega⟩
      have j4 : j < 4 := by omega
      have e5 := n5.at_
      rw [← eh] at sA e5
      have hrow : ∃ b : Addr, [V.ref a1, V.ref a2, V.ref a3, V.ref a4][j]? = some (V.ref b) ∧ hid d c G2 b = some (.lst ((PM.getD j []).map V.str)) := by
        have e1 := s25 _ _ n1.at_
        have e2 := s35 _ _ n2.at_
        have e3 := s45 _ _ n3'.at_
        have e4 := n5.sm _ _ n4.at_
        rw [← eh] at e1 e2 e3 e4
        have hj : j = 0 ∨ j = 1 ∨ j = 2 ∨ j = 3 := by omega
        rcases hj with rfl | rfl | rfl | rfl
        · exact ⟨a1, rfl, e1⟩
        · exact ⟨a2, rfl, e2⟩
        · exact ⟨a3, rfl, e3⟩
        · exact ⟨a4, rfl, e4⟩
      obtain ⟨b, eb, hb⟩ := hrow
      refine ⟨a5, _, _, .ref b, rfl, rfl, SqL.of (hid_sub _ _ e5), atI_nat eb, _, rfl, _, rfl, b, _, rfl, SqL.of (hid_sub _ _ hb), fun s hs => ?_⟩
      rw [show cutV ((PM.getD j []).map V.str) none (some (n : Int)) = ((PM.getD j []).take n).map V.str by rw [cutV_take, List.map_take]]
      have n6 := new_h (.lst (((PM.getD j []).take n).map V.str)) src2 hs
      exact hnx _ _ ⟨s, _, rfl, n6.src, sA.trans n6.sm, n6.at_, n6.nd, n6.nc, j, j4, rfl⟩
    rintro σ G0 ⟨s, xs, rfl, src0, s0, e0, sd, sc, r, r4, ex⟩
    have lx : xs.length = n := by rw [ex, List.length_take, pm_len r4]; omega
    have nlx : NL xs := by rw [ex]; exact (pm_nl r4).sub (List.take_sublist _ _)
    refine ⟨_, rfl, _, rfl, d, c, m, rfl, src0, by omega, fun o ns G1 src1 sm1 hn ln ho => ?_⟩
    have es : hid d c G1 s = some (.lst (xs.map V.str)) := sm1 _ _ e0
    have sm : Same (hid d c H) (hid d c G1) := s0.trans sm1
    clear sm1 e0 s0 src0
    intro L hL
    obtain ⟨Ld, Lc⟩ := src_ne src1 hL
    refine ⟨_, rfl, o, rfl, ⟨_, (same_upd hL).seq (hid_sub.seq ho)⟩, for_list (K := K) (a := o) (xs := ns.map V.str) (fun i σ G => (∃ v6, σ = [some (.ref d), some (.int (n : Int)), some (.int (m : Int)), some (.ref s), some (.ref o), some (.ref L), v6]) ∧ SrcAt G d c ∧ Same (hid d c G1) (hid d c G) ∧
      ∃ (as : List Addr) (ls : List Lt), ls.map (·.1) = ns.take i ∧ G L = some (.dK (kvL ls as)) ∧ AllT K (hid d c G) as (ls.map endV) ∧ ∀ q ∈ ls, q.2.1 ∈ xs ∧ q.2.2 ∈ xs)
      ⟨⟨_, rfl⟩, src_put Ld Lc src1, hid_put hL (Same.refl _), [], [], rfl, upd_same, AllT.nil, fun q hq => absurd hq List.not_mem_nil⟩ (fun i σ G _ p => hid_sub.seq (p.2.2.1.seq ho)) ?_ ?_⟩
    · rintro i v σ G hi ⟨⟨v6, rfl⟩, src2, sm2, as, ls, en, eL, hA, hin⟩
      obtain ⟨x, ex1, rfl⟩ := str_at hi
      have li := (List.getElem?_eq_some_iff.mp ex1).1
      refine ⟨_, rfl, _, rfl, _, rfl, d, c, n, rfl, src2, by omega, by omega, fun r G2 r0 r1 src3 keep3 => ?_⟩
      obtain ⟨j, rfl⟩ : ∃ j : Nat, r = (j : Int) := ⟨r.toNat, by omega⟩
      have eh : hid d c G2 = hid d c G := hid_pick keep3
      have es2 : G2 s = some (.lst (xs.map V.str)) := hid_sub _ _ (show hid d c G2 s = _ by rw [eh]; exact sm2 _ _ es)
      have eL2 : G2 L = some (.dK (kvL ls as)) := (keep3 L Ld Lc).trans eL
      refine ⟨s, _, _, _, rfl, rfl, SqL.of es2, str_ix (by omega), ?_⟩
      refine ⟨_, rfl, _, rfl, _, rfl, d, c, n, rfl, src3, by omega, by omega, fun r G3 r0 r1 src4 keep4 => ?_⟩
      obtain ⟨j2, rfl⟩ : ∃ j : Nat, r = (j : Int) := ⟨r.toNat, by omega⟩
      have eh3 : hid d c G3 = hid d c G := (hid_pick keep4).trans eh
      have es3 : G3 s = some (.lst (xs.map V.str)) := (keep4 s sd sc).trans es2
      have eL3 : G3 L = some (.dK (kvL ls as)) := (keep4 L Ld Lc).trans eL2
      refine ⟨s, _, _, _, rfl, rfl, SqL.of es3, str_ix (by omega), ?_⟩
      refine ⟨szl (by show 2 ≤ 1000; decide), fun T hT => ?_⟩
      obtain ⟨Td, Tc⟩ := src_ne src4 hT
      have eL4 := same_upd (o := .tup [V.str (xs[j]'(by omega)), V.str (xs[j2]'(by omega))]) hT _ _ eL3
      have ll : ls.length = i := by
        have z := congrArg List.length en
        rw [List.length_map, List.length_take] at z
        omega
      have lk := kvL_len ls as
      have hno : x ∉ ls.map (·.1) := by
        rw [en]
        intro z
        obtain ⟨i2, l2, e2⟩ := List.getElem_of_mem z
        rw [List.length_take] at l2
        have e3 : ns[i2]? = some x := by rw [List.getElem_take] at e2; rw [List.getElem?_eq_getElem (by omega), e2]
        have e4 : ns[i2]'(by omega) = ns[i] := by
          rw [List.getElem?_eq_getElem (by omega)] at e3
          rw [List.getElem?_eq_getElem li] at ex1
          rw [Option.some.inj e3, Option.some.inj ex1]
        exact List.pairwise_iff_getElem.mp hn.nd i2 i (by omega) li (by omega) e4
      refine ⟨_, rfl, _, rfl, L, _, rfl, (show DPut _ L (.str x) _ _ from DPut.k (k := .inr x) eL4 (small1000 (by omega))), ?_⟩
      have hA4 := hA
      rw [← eh3] at hA4
      have sT := hid_same (d := d) (c := c) (same_upd (o := .tup [V.str (xs[j]'(by omega)), V.str (xs[j2]'(by omega))]) hT)
      refine ⟨⟨_, rfl⟩, src_put Ld Lc (src_same (same_upd hT) src4), hid_put hL (by rw [← eh3] at sm2; exact sm2.trans sT), as ++ [T], ls ++ [(x, xs[j]'(by omega), xs[j2]'(by omega))], ?_, ?_, ?_, ?_⟩
      · rw [List.map_append, en, List.take_add_one, ex1]
        rfl
      · rw [upd_same, putK_new _ (kvL_no ls as hno), kvL_snoc _ _ _ _ (by rw [hA.1, List.length_map])]
      · have z := (hA4.same sT).snoc (SqT.of (show hid d c (upd G3 T (.tup [V.str (xs[j]'(by omega)), V.str (xs[j2]'(by omega))])) T = some (.tup (endV (x, xs[j]'(by omega), xs[j2]'(by omega)))) from (hid_at Td Tc).trans upd_same))
        rw [List.map_append]
        rw [hid_upd Ld Lc]
        exact z.putD ((hid_at Ld Lc).trans eL4)
      · intro q hq
        rcases List.mem_append.mp hq with z | z
        · exact hin q z
        · rw [List.mem_singleton.mp z]
          exact ⟨List.getElem_mem _, List.getElem_mem _⟩
    · rintro σ G ⟨⟨v6, rfl⟩, src2, sm2, as, ls, en, eL, hA, hin⟩
      rw [List.length_map, List.take_length] at en
      refine ⟨_, rfl, _, rfl, _, rfl, szl (by show 0 ≤ 1000; decide), fun t ht => ?_⟩
      have st := same_upd (o := .lst []) ht
      obtain ⟨td, tc⟩ := src_ne src2 ht
      have sh := hid_same (d := d) (c := c) st
      have es2 : hid d c G s = some (.lst (xs.map V.str)) := sm2 _ _ es
      have eLh : hid d c G L = some (.dK (kvL ls as)) := (hid_at Ld Lc).trans eL
      have fok : FrOk xs ls := ⟨nlx, by rw [en]; exact hn, hin⟩
      have lal : as.length = ls.length := by rw [hA.1, List.length_map]
      have ld : LdAt K (hid d c (upd G t (.lst []))) L ls := ⟨as, sh _ _ eLh, lal, fun i u e => by
        obtain ⟨vs, a, b⟩ := (hA.same sh).2 i u e
        rw [List.getElem?_map] at a
        cases z : ls[i]? with
        | none => rw [z] at a; cases a
        | some q => rw [z] at a; exact ⟨q, rfl, by rw [← Option.some.inj a] at b; exact b⟩⟩
      have ldG : LdAt K (upd G t (.lst [])) L ls := ld.same hid_sub
      have hoG : SqL K (hid d c (upd G t (.lst []))) o ((ls.map (·.1)).map V.str) := by rw [en]; exact (sm2.trans sh).seq ho
      have gd : GdF xs ls [] := good0 fok
      refine ⟨s, o, L, t, xs, ls, [], rfl, hid_sub _ _ (sh _ _ es2), hid_sub.seq hoG, ldG, ⟨[], SqL.of upd_same, rfl, fun _ _ z => nomatch z⟩, gd, fun e b H' he s9 ee hb => ?_⟩
      obtain ⟨ed, ec⟩ := src_ne (src_same st src2) he
      have s9h := hid_same (d := d) (c := c) s9
      refine k e b xs ls H' (src_same (st.trans s9) src2) (sm.trans (sm2.trans (sh.trans s9h))) ⟨⟨s, L, o, t, b, (hid_at ed ec).trans ee, s9h _ _ (sh _ _ es2), ld.same s9h, s9h.seq hoG⟩, fok⟩ ⟨⟨s, L, o, t, (hid_at ed ec).trans ee, [], s9h _ _ ((hid_at td tc).trans upd_same), AllT.nil⟩, hb.hid (src_same (st.trans s9) src2), gd⟩ ⟨r, r4, ex⟩ ?_
      have z := congrArg List.length en
      rw [List.length_map] at z
      exact z.trans ln
end
end K37

namespace K37
open PySem PySem.Spec PyProof.Rows L2 Ow Xv
/-! ### the form of values as data -/
def PT : List (Str × Nat × Nat) := [("letter", 0, 0), ("same", 0, 1), ("other", 0, 1), ("none", 0, 2), ("all", 0, 2), ("rest", 1, 0), ("turned", 1, 0), ("joined", 2, 0), ("cut", 2, 0), ("then", 2, 0), ("closed", 1, 0), ("walked", 1, 0)]
def shp (w : Str) : Option (Nat × Nat) := (PT.find? fun q => decide (q.1 = w)).map (·.2)
theorem shp_some {w : Str} {q : Nat × Nat} (h : shp w = some q) : (w, q) ∈ PT := by
  unfold shp at h
  cases z : PT.find? fun q => decide (q.1 = w) with
  | none => rw [z] at h; cases h
  | some r =>
    rw [z] at h
    cases h
    have e := List.find?_some z
    have m := List.mem_of_find?_eq_some z
    rw [← of_decide_eq_true e]
    exact m
theorem shp_none {w : Str} (h : shp w = none) : w ∉ PT.map (·.1) := by
  intro m
  obtain ⟨q, hq, rfl⟩ := List.mem_map.mp m
  unfold shp at h
  cases z : PT.find? fun r => decide (r.1 = q.1) with
  | none => exact absurd (decide_eq_true rfl) (List.find?_eq_none.mp z q hq)
  | some r => rw [z] at h; cases h
theorem pt_kpb : kPARTSBELOW = PT.map (·.1) := rfl
theorem pt_vpb : vPARTSBELOW = PT.map fun q => (q.1, He.Dv.int (q.2.1 : Int)) := rfl
def PS : List (Str × Nat × Nat) := [("same", 0, 1), ("other", 0, 1), ("none", 0, 2), ("all", 0, 2)]
theorem pt_kst : kSORTSTOLD = PS.map (·.1) := rfl
theorem pt_vst : vSORTSTOLD = PS.map fun q => (q.1, He.Dv.int (q.2.2 : Int)) := rfl
theorem pt_ps : (PT.all fun q => if q.2.2 = 0 then PS.all fun r => decide (r.1 ≠ q.1) else decide (q ∈ PS)) = true := by decide +kernel
theorem shp_pb {w : Str} {p s : Nat} (h : shp w = some (p, s)) : (w, He.Dv.int (p : Int)) ∈ vPARTSBELOW := by
  rw [pt_vpb]
  exact List.mem_map.mpr ⟨_, shp_some h, rfl⟩
theorem shp_kpb {w : Str} {q : Nat × Nat} (h : shp w = some q) : w ∈ kPARTSBELOW := by
  rw [pt_kpb]
  exact List.mem_map.mpr ⟨_, shp_some h, rfl⟩
theorem shp_st {w : Str} {p s : Nat} (h : shp w = some (p, s)) : ((w, He.Dv.int (s : Int)) ∈ vSORTSTOLD ∧ 0 < s) ∨ (s = 0 ∧ w ∉ kSORTSTOLD) := by
  have z := List.all_eq_true.mp pt_ps _ (shp_some h)
  dsimp only at z
  by_cases c : s = 0
  · rw [if_pos c] at z
    refine .inr ⟨c, fun m => ?_⟩
    rw [pt_kst] at m
    obtain ⟨r, hr, e⟩ := List.mem_map.mp m
    exact of_decide_eq_true (List.all_eq_true.mp z r hr) e
  · rw [if_neg c] at z
    rw [pt_vst]
    exact .inl ⟨List.mem_map.mpr ⟨_, of_decide_eq_true z, rfl⟩, by omega⟩
def inT (xs : List Str) : PyData → Bool
  | .str z => decide (z ∈ xs)
  | _ => false
theorem isTx_inT {K : PySem.W.Frag} {H : Hp} {v : V} {d : PyData} (h : Va K H v d) (xs : List Str) : isTx v xs = inT xs d := by
  cases h with
  | str z => exact isTx_str z xs
  | _ => exact isTx_no (by intro z e; cases e) xs
def formW (xs ns : List Str) (w : Str) (ds : List PyData) : Bool := if w = ("letter" : Str) then decide (ds.length = 1) && ds.all (inT ns) else match shp w with
  | none => false
  | some (p, s) => decide (ds.length = p + s) && (ds.take s).all (inT xs)
def formD (xs ns : List Str) : PyData → Bool
  | .tuple (.str w :: ds) => formW xs ns w ds
  | _ => false
def kidsD : PyData → List PyData
  | .tuple (.str w :: ds) => match shp w with
    | some (p, _) => ds.take p
    | none => []
  | _ => []
theorem dep_mem : ∀ {ds : List PyData} {k : PyData}, k ∈ ds → k.depth ≤ PyData.depthAll ds
  | d :: ds, k, h => by
    rw [PyData.depthAll]
    rcases List.mem_cons.mp h with z | z
    · rw [z]; exact Nat.le_max_left _ _
    · exact Nat.le_trans (dep_mem z) (Nat.le_max_right _ _)
theorem dep_kid {d k : PyData} (h : k ∈ kidsD d) : k.depth < d.depth := by
  unfold kidsD at h
  split at h
  · rename_i w ds
    split at h
    · rename_i p s e
      have m : k ∈ (PyData.str w :: ds) := List.mem_cons_of_mem _ (List.mem_of_mem_take h)
      have := dep_mem m
      simp only [PyData.depth]
      omega
    · cases h
  · cases h
/-- the first with something, and its number before it -/
def flK (f : PyData → Option (List Nat)) : Nat → List PyData → Option (List Nat)
  | _, [] => none
  | i, k :: ks => match f k with
    | some q => some (i :: q)
    | none => flK f (i + 1) ks
theorem flK_congr {f g : PyData → Option (List Nat)} : ∀ (ks : List PyData) (i : Nat), (∀ k ∈ ks, f k = g k) → flK f i ks = flK g i ks
  | [], _, _ => rfl
  | k :: ks, i, h => by
    unfold flK
    rw [h k List.mem_cons_self, flK_congr ks (i + 1) fun k hk => h k (List.mem_cons_of_mem _ hk)]
section
variable (xs ns : List Str)
def flF : Nat → PyData → Option (List Nat)
  | 0, _ => some []
  | n + 1, d => if formD xs ns d = true then flK (flF n) 0 (kidsD d) else some []
/-- the path of the first part without form -/
def fl (d : PyData) : Option (List Nat) := flF xs ns (d.depth + 1) d
theorem flF_eq : ∀ (n m : Nat) (d : PyData), d.depth < n → d.depth < m → flF xs ns n d = flF xs ns m d
  | 0, _, _, h, _ => absurd h (Nat.not_lt_zero _)
  | _, 0, _, _, h => absurd h (Nat.not_lt_zero _)
  | n + 1, m + 1, d, h, g => by
    unfold flF
    rw [flK_congr (f := flF xs ns n) (g := flF xs ns m) (kidsD d) 0 fun k hk => flF_eq n m k (by have := dep_kid hk; omega) (by have := dep_kid hk; omega)]
theorem fl_eq (d : PyData) : fl xs ns d = if formD xs ns d = true then flK (fl xs ns) 0 (kidsD d) else some [] := by
  show flF xs ns (d.depth + 1) d = _
  rw [flF]
  rw [flK_congr (f := flF xs ns d.depth) (g := fl xs ns) (kidsD d) 0 fun k hk => flF_eq xs ns _ _ k (dep_kid hk) (Nat.lt_succ_self _)]
/-- paths and parts, one's own first -/
def kp {α : Type} (p : List Nat) : Nat → List α → List (List Nat × α)
  | _, [] => []
  | i, k :: ks => (p ++ [i], k) :: kp p (i + 1) ks
theorem kp_mem {α : Type} {p : List Nat} : ∀ {ks : List α} {i : Nat} {x : List Nat × α}, x ∈ kp p i ks → x.2 ∈ ks ∧ x.1.length = p.length + 1
  | k :: ks, i, x, h => by
    rcases List.mem_cons.mp h with z | z
    · rw [z]; exact ⟨List.mem_cons_self, by simp⟩
    · have := kp_mem z
      exact ⟨List.mem_cons_of_mem _ this.1, this.2⟩
theorem kp_len {α : Type} {p : List Nat} : ∀ {ks : List α} {i : Nat}, (kp p i ks).length = ks.length
  | [], _ => rfl
  | _ :: ks, i => congrArg Nat.succ (kp_len (ks := ks) (i := i + 1))
theorem kp_at {α : Type} {p : List Nat} : ∀ {ks : List α} {i j : Nat} {k : α}, ks[j]? = some k → (kp p i ks)[j]? = some (p ++ [i + j], k)
  | k :: ks, i, 0, k', h => by
    obtain rfl : k = k' := by simpa using h
    rfl
  | k :: ks, i, j + 1, k', h => by
    have := kp_at (p := p) (i := i + 1) (j := j) (ks := ks) (k := k') (by simpa using h)
    rw [show i + (j + 1) = i + 1 + j by omega]
    simpa [kp] using this
theorem kp_map {α β : Type} (f : α → β) {p : List Nat} : ∀ (ks : List α) (i : Nat), (kp p i ks).map (fun x => (x.1, f x.2)) = kp p i (ks.map f)
  | [], _ => rfl
  | k :: ks, i => congrArg (_ :: ·) (kp_map f ks (i + 1))
def preF : Nat → List Nat → PyData → List (List Nat × PyData)
  | 0, p, d => [(p, d)]
  | n + 1, p, d => (p, d) :: if formD xs ns d = true then (kp p 0 (kidsD d)).flatMap fun x => preF n x.1 x.2 else []
def preD (p : List Nat) (d : PyData) : List (List Nat × PyData) := preF xs ns (d.depth + 1) p d
theorem preF_eq : ∀ (n m : Nat) (p : List Nat) (d : PyData), d.depth < n → d.depth < m → preF xs ns n p d = preF xs ns m p d
  | 0, _, _, _, h, _ => absurd h (Nat.not_lt_zero _)
  | _, 0, _, _, _, h => absurd h (Nat.not_lt_zero _)
  | n + 1, m + 1, p, d, h, g => by
    unfold preF
    have : ((kp p 0 (kidsD d)).flatMap fun x => preF xs ns n x.1 x.2) = (kp p 0 (kidsD d)).flatMap fun x => preF xs ns m x.1 x.2 := by
      rw [List.flatMap_def, List.flatMap_def]
      congr 1
      refine List.map_congr_left fun x hx => ?_
      have := dep_kid (kp_mem hx).1
      exact preF_eq n m x.1 x.2 (by omega) (by omega)
    rw [this]
theorem preD_eq (p : List Nat) (d : PyData) : preD xs ns p d = (p, d) :: if formD xs ns d = true then (kp p 0 (kidsD d)).flatMap fun x => preD xs ns x.1 x.2 else [] := by
  show preF xs ns (d.depth + 1) p d = _
  rw [preF]
  have : ((kp p 0 (kidsD d)).flatMap fun x => preF xs ns d.depth x.1 x.2) = (kp p 0 (kidsD d)).flatMap fun x => preD xs ns x.1 x.2 := by
    rw [List.flatMap_def, List.flatMap_def]
    congr 1
    refine List.map_congr_left fun x hx => ?_
    exact preF_eq xs ns _ _ x.1 x.2 (dep_kid (kp_mem hx).1) (Nat.lt_succ_self _)
  rw [this]
def badP (x : List Nat × PyData) : Bool := !formD xs ns x.2
theorem find_app {α : Type} (f : α → Bool) : ∀ (l m : List α), (l ++ m).find? f = match l.find? f with
    | some a => some a
    | none => m.find? f
  | [], m => rfl
  | a :: l, m => by
    rw [List.cons_append, List.find?_cons, List.find?_cons]
    cases f a with
    | true => rfl
    | false => exact find_app f l m
theorem pre_fl : ∀ (n : Nat) (d : PyData) (p : List Nat), d.depth < n → ((preD xs ns p d).find? (badP xs ns)).map (·.1) = (fl xs ns d).map (p ++ ·)
  | 0, _, _, h => absurd h (Nat.not_lt_zero _)
  | n + 1, d, p, h => by
    rw [preD_eq, fl_eq, List.find?_cons]
    unfold badP
    cases c : formD xs ns d with
    | false => simp
    | true =>
      rw [if_pos rfl, if_pos rfl]
      show ((List.find? (badP xs ns) ((kp p 0 (kidsD d)).flatMap fun x => preD xs ns x.1 x.2)).map (·.1)) = _
      have key : ∀ (ks : List PyData) (i : Nat), (∀ k ∈ ks, k.depth < n) → ((List.find? (badP xs ns) ((kp p i ks).flatMap fun x => preD xs ns x.1 x.2)).map (·.1)) = (flK (fl xs ns) i ks).map (p ++ ·) := fun ks => by
        induction ks with
        | nil => intro i _; rfl
        | cons k ks ih =>
          intro i hk
          have e := pre_fl n k (p ++ [i]) (hk k List.mem_cons_self)
          show ((List.find? (badP xs ns) (preD xs ns (p ++ [i]) k ++ (kp p (i + 1) ks).flatMap fun x => preD xs ns x.1 x.2)).map (·.1)) = _
          rw [find_app]
          unfold flK
          cases z : fl xs ns k with
          | some q =>
            rw [z] at e
            cases z2 : (preD xs ns (p ++ [i]) k).find? (badP xs ns) with
            | none => rw [z2] at e; cases e
            | some y =>
              rw [z2] at e
              simp only [Option.map_some, Option.some.injEq] at e ⊢
              rw [e, List.append_assoc]
              rfl
          | none =>
            rw [z] at e
            cases z2 : (preD xs ns (p ++ [i]) k).find? (badP xs ns) with
            | some y => rw [z2] at e; cases e
            | none => exact ih (i + 1) fun k hk' => hk k (List.mem_cons_of_mem _ hk')
      exact key _ 0 fun k hk => by have := dep_kid hk; omega
theorem pre_first (d : PyData) : ((preD xs ns [] d).find? (badP xs ns)).map (·.1) = fl xs ns d := by
  rw [pre_fl xs ns _ d [] (Nat.lt_succ_self _)]
  cases fl xs ns d <;> rfl
end
end K37

namespace K37
open PySem PySem.Spec PyProof.Rows L2 Ow Xv
/-! ### the parts below, the sorts told, the form, of any value -/
def spPBv (K : PySem.W.Frag) : Sp := fun vs H Q _ => ∃ (a : Addr) (w : Str) (xs : List V) (p s : Nat), vs = [.ref a] ∧ SqT K H a (.str w :: xs) ∧ shp w = some (p, s) ∧ p ≤ xs.length ∧ ∀ (T : Addr) (H' : Hp), Same H H' → H' T = some (.tup (xs.take p)) → Q (.ref T) H'
def spSTv (K : PySem.W.Frag) : Sp := fun vs H Q _ => ∃ (a : Addr) (w : Str) (xs : List V) (p s : Nat), vs = [.ref a] ∧ SqT K H a (.str w :: xs) ∧ shp w = some (p, s) ∧ s ≤ xs.length ∧ ∀ (T : Addr) (H' : Hp), Same H H' → H' T = some (.tup (xs.take s)) → Q (.ref T) H'
abbrev NHF : List Str := ["frame", "value", "word", "sort"]
theorem scHF : FnScope NHF ["frame", "value"] (defScope sHasForm) := ⟨rfl, rfl, rfl, by decide +kernel, rfl, by decide +kernel, by decide +kernel⟩
def spHF (K : PySem.W.Frag) : Sp := fun vs H Q _ => ∃ (x : Addr) (v : V) (d : PyData) (xs : List Str) (ls : List Lt), vs = [.ref x, v] ∧ FrmA K H x xs ls ∧ Va K H v d ∧ ∀ H', Same H H' → Q (.bl (formD xs (ls.map (·.1)) d)) H'
section
variable {P : Program} {w : World} {K : PySem.W.Frag} {mg : Str → Option Value} {base : Heap} {f : Addr} {fd : FuncData}
theorem dicPB (Y : Fx w K mg) : He.dicW K (He.ga K "_PARTS_BELOW") = some (He.keysIn w.params kPARTSBELOW) := by
  have e : tabs.map (fun t => He.dicW K (t.1 K)) = tabs.map fun t => some (He.keysIn w.params t.2) := congrArg (fun z : He.AlT => z.2) Y.t
  exact (List.cons.inj e).1
theorem dicST (Y : Fx w K mg) : He.dicW K (He.ga K "_SORTS_TOLD") = some (He.keysIn w.params kSORTSTOLD) := by
  have e : tabs.map (fun t => He.dicW K (t.1 K)) = tabs.map fun t => some (He.keysIn w.params t.2) := congrArg (fun z : He.AlT => z.2) Y.t
  exact (List.cons.inj (List.cons.inj e).2).1
/-- how many sorts a word tells, as the table answers -/
theorem stGet (Y : Fx w K mg) {x : Str} {p s : Nat} (h : shp x = some (p, s)) : ∃ (r : Option Value) (v : V), PySem.W.nsIn K (He.ga K "_SORTS_TOLD") x = some r ∧ (match r with
    | none => v = .int 0
    | some u => RelV v u) ∧ v = .int (s : Int) := by
  rcases shp_st h with ⟨m, _⟩ | ⟨rfl, no⟩
  · obtain ⟨u, eu, ru⟩ := He.valsB_ok Y.x10 m
    exact ⟨some u, .int (s : Int), eu, ru, rfl⟩
  · exact ⟨none, .int 0, dicW_no (dicST Y) no, rfl, rfl⟩
theorem ok_pbv (F : FnP K "parts_below" sPartsBelow f fd) (Y : Fx w K mg) : FnOk P w K mg base CX0 1 f fd ["term"] (spPBv K) := by
  obtain ⟨es, n, D⟩ := Y.kPARTSBELOW
  refine okD F scPB (fun vs H Q E h => ?_) (fun cdv A outer s H vs Q E hr h => ?_)
  · obtain ⟨a, x, xs, p, s, rfl, _⟩ := h
    rfl
  · have nd := scPB.nd
    refine ⟨_, pss_one (ps_ret (pe_slice sl_tupA (pv 0) (po_some pe_int) (po_some (pe_op op_add pe_int (pe_ix ix_kdict (pe_glob (v := .ref (He.ga K "_PARTS_BELOW")) (by rfl) Y.gPARTSBELOW rfl) (pe_ix ix_tup (pv 0) pe_int (fun _ _ => rfl)) (fun _ _ => rfl)))))), ?_⟩
    obtain ⟨a, x, xs, p, s, rfl, h1, hs, lp, k⟩ := h
    obtain ⟨u, eu, ru⟩ := He.valsB_ok Y.x9 (shp_pb hs)
    refine ⟨_, rfl, _, rfl, _, rfl, a, _, 0, _, rfl, rfl, h1, atI_0 _ _, _, _, _, rfl, rfl, ⟨es, n, u, D.at_, D.lit, eu, ru⟩, ?_⟩
    refine ⟨_, _, rfl, rfl, _, rfl, a, _, rfl, h1, fun hh => absurd ⟨hh.1, trivial⟩ (sIx_1 _ _), fun _ T hT => ?_⟩
    rw [show (1 : Int) + (p : Int) = ((1 + p : Nat) : Int) by omega, cutV_1 _ _ _ lp]
    exact k T _ (same_upd hT) upd_same
theorem ok_stv (F : FnP K "sorts_told" sSortsTold f fd) (Y : Fx w K mg) : FnOk P w K mg base CX0 1 f fd ["part"] (spSTv K) := by
  obtain ⟨es, n, D⟩ := Y.kSORTSTOLD
  refine okD F scST (fun vs H Q E h => ?_) (fun cdv A outer s H vs Q E hr h => ?_)
  · obtain ⟨a, x, xs, p, s, rfl, _⟩ := h
    rfl
  · have nd := scST.nd
    refine ⟨_, pss_one (ps_ret (pe_slice sl_tupA (pv 0) (po_some pe_int) (po_some (pe_op op_add pe_int (pe_kdget2 D (pe_glob (v := .ref (He.ga K "_SORTS_TOLD")) (by rfl) Y.gSORTSTOLD rfl) (pe_ix ix_tup (pv 0) pe_int (fun _ _ => rfl)) pe_int ⟨rfl, rfl, rfl, rfl⟩))))), ?_⟩
    obtain ⟨a, x, xs, p, s, rfl, h1, hs, ls, k⟩ := h
    obtain ⟨r, v, e1, e2, rfl⟩ := stGet Y hs
    refine ⟨_, rfl, _, rfl, rfl, _, rfl, a, _, 0, _, rfl, rfl, h1, atI_0 _ _, x, r, .int (s : Int), rfl, e1, e2, ?_⟩
    refine ⟨_, _, rfl, rfl, _, rfl, a, _, rfl, h1, fun hh => absurd ⟨hh.1, trivial⟩ (sIx_1 _ _), fun _ T hT => ?_⟩
    rw [show (1 : Int) + (s : Int) = ((1 + s : Nat) : Int) by omega, cutV_1 _ _ _ ls]
    exact k T _ (same_upd hT) upd_same
theorem ok_hf (F : FnP K "has_form" sHasForm f fd) (Y : Fx w K mg) : FnOk P w K mg base CX0 2 f fd ["frame", "value"] (spHF K) := by
  obtain ⟨es, n, D⟩ := Y.kPARTSBELOW
  obtain ⟨es2, n2, D2⟩ := Y.kSORTSTOLD
  obtain ⟨d1, F1⟩ := Y.dFrame_HasLetter
  obtain ⟨d2, F2⟩ := Y.dFrame_HasSort
  obtain ⟨d3, F3⟩ := Y.dSortsTold
  have b1 := FunD.bindsN (ps := ["self", "value"]) F1 fun _ _ _ _ _ _ us hl => match us, hl with | [_, _], _ => rfl
  have b2 := FunD.bindsN (ps := ["self", "value"]) F2 fun _ _ _ _ _ _ us hl => match us, hl with | [_, _], _ => rfl
  have b3 := FunD.bindsN (ps := ["part"]) F3 fun _ _ _ _ _ _ us hl => match us, hl with | [_], _ => rfl
  have G1 : FnOk P w K mg base CX0 1 _ d1 ["self", "value"] (spHL K) := ok_hl F1 Y
  have G2 : FnOk P w K mg base CX0 1 _ d2 ["self", "value"] (spHS K) := ok_hs F2 Y
  have G3 : FnOk P w K mg base CX0 1 _ d3 ["part"] (spSTv K) := ok_stv F3 Y
  refine okD F scHF (fun vs H Q E h => ?_) (fun cdv A outer s H vs Q E hr h => ?_)
  · obtain ⟨x, v, d, xs, ls, rfl, _⟩ := h
    rfl
  · have nd := scHF.nd
    refine ⟨_, pss_cons (ps_if (pw_or (pt_not (pt_val (pe_callB call_isi (by rfl) Y.bIsinstance boot_isinstance (pa_cons (pv 1) (pa_cons (pe_bltn (v := .ty "tuple") (u := .type "tuple") (by rfl) Y.bTuple (by decide +kernel) rfl) pa_nil)))))
        (pw_or1 (pt_not (pt_truth (pv 1) (by intro _; rfl))))).pt (pss_one (ps_ret pe_bl)) pss_nil)
      (pss_cons (ps_set (i := 2) nd rfl (Or.inl rfl) (pe_ix ix_tup (pv 1) pe_int (fun _ _ => rfl)))
      (pss_cons (ps_if (pw_or (pt_not (pt_val (pe_callB call_isi (by rfl) Y.bIsinstance boot_isinstance (pa_cons (pv 2) (pa_cons (pe_bltn (v := .ty "str") (u := .type "str") (by rfl) Y.bStr (by decide +kernel) rfl) pa_nil)))))
        (pw_or1 (pt_cmpR (op_notIn_kd D) (pv 2) (pe_glob (v := .ref (He.ga K "_PARTS_BELOW")) (by rfl) Y.gPARTSBELOW rfl) (by rfl)))).pt (pss_one (ps_ret pe_bl)) pss_nil)
      (pss_cons (ps_if (pt_cmpR op_eq (pv 2) pe_str (nomark _)) (pss_one (ps_ret (pe_and (pe_cmpR op_eq (pe_callB call_len_seq (by rfl) Y.bLen PySem.boot_len (pa_cons (pv 1) pa_nil)) pe_int (nomark _))
        (pe_one (pe_meth (pv 0) Y.cFrame Y.mFrame_HasLetter G1 hr b1 .nil pass0 (pa_cons (pe_ix ix_tup (pv 1) pe_int (fun _ _ => rfl)) pa_nil)))))) pss_nil)
      (pss_cons (ps_if (pt_cmpR op_ne (pe_callB call_len_seq (by rfl) Y.bLen PySem.boot_len (pa_cons (pv 1) pa_nil)) (pe_op op_add (pe_op op_add pe_int (pe_ix ix_kdict (pe_glob (v := .ref (He.ga K "_PARTS_BELOW")) (by rfl) Y.gPARTSBELOW rfl) (pv 2) (fun _ _ => rfl)))
          (pe_kdget2 D2 (pe_glob (v := .ref (He.ga K "_SORTS_TOLD")) (by rfl) Y.gSORTSTOLD rfl) (pv 2) pe_int ⟨rfl, rfl, rfl, rfl⟩)) (nomark _)) (pss_one (ps_ret pe_bl)) pss_nil)
      (pss_one (ps_ret (pe_callB (cr_all rfl) (by rfl) Y.bAll (by decide +kernel) (pa_cons (pe_lc (own := [("sort", 3)]) (g := gName 3) (tt := tYes) (te := tMeth (CFrame K) "has_sort" (spHS K) [] E0 (tVar 0) (tCons (tVar 3) tNil)) rfl nd
        (pi_seqA (pe_call G3 hr (by rfl) Y.gSortsTold F3.kp b3 .nil pass0 (pa_cons (pv 1) pa_nil))) (blkOk_by (N := NHF) (sc := defScope sHasForm) (by decide +kernel)) (fun _ _ _ _ _ => pg_name (i := 3) nd rfl (Or.inl rfl)) (fun _ _ _ _ _ => pts_nil)
        (fun _ _ _ _ _ => pe_meth (pv 0) Y.cFrame Y.mFrame_HasSort G2 hr b2 .nil pass0 (pa_cons (pv 3) pa_nil))) pa_nil)))))))), ?_⟩
    obtain ⟨x, v, d, xs, ls, rfl, hF, hv, k⟩ := h
    obtain ⟨tz, hF⟩ := hF
    obtain ⟨T, hT, _, kb⟩ := hv.ty
    refine ⟨_, rfl, _, _, _, _, kdTup d, rfl, .ty _, hT, kit_ty kb, _, rfl, ?_⟩
    rcases hv.tupD with ⟨a, vs, ds, rfl, rfl, hq, hg⟩ | hno
    · refine iteF ?_
      refine ⟨_, rfl, _, .inr (.inl ⟨_, hq, rfl⟩), ?_⟩
      cases hg with
      | nil => exact iteT (k _ (Same.refl _))
      | @cons v0 vs d0 ds h0 hg =>
        refine iteF ?_
        obtain ⟨T0, hT0, kb0, _⟩ := h0.ty
        refine ⟨_, rfl, a, _, 0, _, rfl, rfl, hq, atI_0 _ _, ?_⟩
        refine ⟨_, rfl, _, _, _, _, kdStr d0, rfl, .ty _, hT0, kit_ty kb0, _, rfl, ?_⟩
        rcases h0.strD with ⟨z, rfl, rfl⟩ | ⟨ez, hz⟩
        · refine iteF ?_
          cases hs : shp z with
          | none =>
            have e : formD xs (ls.map (·.1)) (.tuple (.str z :: ds)) = false := by
              show formW xs (ls.map (·.1)) z ds = false
              unfold formW
              rw [hs]
              have n : z ≠ ("letter" : Str) := fun q => by
                subst q
                exact shp_none hs (by decide +kernel)
              rw [if_neg n]
            rw [e] at k
            refine ⟨_, rfl, z, none, rfl, rfl, dicW_no (dicPB Y) (by rw [pt_kpb]; exact shp_none hs), _, rfl, ?_⟩
            exact iteT (k _ (Same.refl _))
          | some ps =>
            obtain ⟨p, s⟩ := ps
            obtain ⟨dx, f1, f2, f3, f4, hx, _⟩ := id hF
            obtain ⟨u, eu, ru⟩ := He.valsB_ok Y.x9 (shp_pb hs)
            refine ⟨_, rfl, z, some u, rfl, rfl, eu, _, rfl, ?_⟩
            refine iteF ?_
            refine ⟨_, rfl, rfl, _, rfl, ite2 (fun hc => ?_) (fun hc => ?_)⟩
            · have ew : z = ("letter" : Str) := V.str.inj (of_decide_eq_true hc)
              have e : formD xs (ls.map (·.1)) (.tuple (.str z :: ds)) = (decide (ds.length = 1) && ds.all (inT (ls.map (·.1)))) := by
                show formW xs (ls.map (·.1)) z ds = _
                unfold formW
                rw [if_pos ew]
              rw [e] at k
              have lg := hg.len
              refine ⟨_, rfl, a, _, rfl, .inr hq, rfl, _, rfl, ite2 (fun hl => ?_) (fun hl => ?_)⟩
              · have l1 : vs.length = 1 := by
                  have z2 : ((V.str z :: vs).length : Int) = 2 := V.int.inj (of_decide_eq_true hl)
                  rw [List.length_cons] at z2
                  omega
                cases hg with
                | nil => cases l1
                | @cons v1 vs1 d1 ds1 hv1 hg1 =>
                cases hg1 with
                | cons => cases l1
                | nil =>
                refine ⟨_, rfl, x, dx, _, rfl, hx, rfl, _, rfl, a, _, 1, _, rfl, rfl, hq, rfl, x, v1, d1, xs, ls, tz, rfl, hF, hv1, ?_⟩
                have e2 : (decide ([d1].length = 1) && [d1].all (inT (ls.map (·.1)))) = isTx v1 (ls.map (·.1)) := by
                  rw [isTx_inT hv1]
                  simp
                rw [e2] at k
                exact k _ (Same.refl _)
              · have n1 : ds.length ≠ 1 := fun q => hl (by
                  rw [List.length_cons, lg, q]
                  rfl)
                rw [decide_eq_false n1, Bool.false_and] at k
                exact k _ (Same.refl _)
            · have ew : z ≠ ("letter" : Str) := fun q => hc (by rw [q]; exact decide_eq_true rfl)
              have e : formD xs (ls.map (·.1)) (.tuple (.str z :: ds)) = (decide (ds.length = p + s) && (ds.take s).all (inT xs)) := by
                show formW xs (ls.map (·.1)) z ds = _
                unfold formW
                rw [if_neg ew, hs]
              rw [e] at k
              have lg := hg.len
              obtain ⟨r, rv, e1, e2, rfl⟩ := stGet Y hs
              refine ⟨_, rfl, a, _, rfl, .inr hq, _, rfl, _, _, _, rfl, rfl, ⟨es, n, u, D.at_, D.lit, eu, ru⟩, ?_⟩
              refine ⟨_, _, rfl, rfl, rfl, _, rfl, z, r, .int (s : Int), rfl, e1, e2, _, _, rfl, rfl, rfl, _, rfl, ite2 (fun hl => ?_) (fun hl => ?_)⟩
              · have n1 : ds.length ≠ p + s := fun q => by
                  have z2 : V.int ((V.str z :: vs).length : Int) ≠ V.int (1 + (p : Int) + (s : Int)) := by simpa using hl
                  refine z2 (congrArg V.int ?_)
                  rw [List.length_cons, lg, q]
                  omega
                rw [decide_eq_false n1, Bool.false_and] at k
                exact k _ (Same.refl _)
              · have n1 : ds.length = p + s := by
                  have z2 : V.int ((V.str z :: vs).length : Int) = V.int (1 + (p : Int) + (s : Int)) := by simpa using hl
                  have z3 := V.int.inj z2
                  rw [List.length_cons] at z3
                  omega
                rw [decide_eq_true n1, Bool.true_and] at k
                have hx2 := (hg.take s)
                have lt := hx2.len
                have s2 : s ≤ 2 := by
                  have z2 := List.all_eq_true.mp (show (PT.all fun q => decide (q.2.2 ≤ 2)) = true by decide +kernel) _ (shp_some hs)
                  exact of_decide_eq_true z2
                refine ⟨_, rfl, a, z, vs, p, s, rfl, hq, hs, by omega, fun T2 H1 s1 hT2 => ?_⟩
                refine ⟨T2, vs.take s, rfl, .inr (SqT.of hT2), fun J GG wk gk D hD => ?_⟩
                refine lc_it wk (fun i G => G D = some (.lst ((((ds.take s).take i).map (inT xs)).map V.bl)) ∧ Same H1 G) ⟨upd_same, same_upd hD⟩ (fun i G _ p => gk G p.2) ?_ ?_
                · rintro i v G G' hi ⟨e, sm⟩ ⟨rfl, ev⟩
                  obtain ⟨d', ed, hv'⟩ := hx2.at_ ev
                  have sm1 := s1.trans sm
                  have li := (List.getElem?_eq_some_iff.mp ed).1
                  rw [List.length_take] at li
                  refine ⟨rfl, _, rfl, x, dx, _, rfl, sm1 _ _ hx, rfl, _, rfl, x, v, d', xs, ls, tz, rfl, hF.same sm1, hv'.mono sm1, ?_⟩
                  refine ⟨_, e, ?_, ?_, same_put hD sm⟩
                  · rw [List.length_map, List.length_map, List.length_take, List.length_take]
                    exact small1000 (by omega)
                  · rw [upd_same, List.take_add_one, ed, isTx_inT hv']
                    simp
                · rintro G ⟨e, sm⟩
                  rw [lt, List.take_length] at e
                  refine ⟨D, _, rfl, SqL.of e, ?_⟩
                  have z3 := k G (s1.trans sm)
                  rw [List.all_map]
                  exact z3
        · have e : formD xs (ls.map (·.1)) (.tuple (d0 :: ds)) = false := by
            cases d0 with
            | str z => cases ez
            | _ => rfl
          rw [e] at k
          rw [ez]
          exact iteT (iteT (k _ (Same.refl _)))
    · have e : formD xs (ls.map (·.1)) d = false := by
        cases d with
        | tuple ds => cases hno
        | _ => rfl
      rw [e] at k
      rw [hno]
      exact iteT (iteT (k _ (Same.refl _)))
end
end K37

namespace K37
open PySem PySem.Spec PyProof.Rows L2 Ow Xv
/-! ### a path with its part; the raise of BadTerm; _below over any value -/
def paV (p : List Nat) : List V := p.map fun n : Nat => V.int (n : Int)
abbrev PaV (α : Type) : Type := List Nat × V × α
section
variable {α : Type} {K : PySem.W.Frag} {H H' : Hp}
def Pr (K : PySem.W.Frag) (H : Hp) (r : Addr) (x : PaV α) : Prop := ∃ q : Addr, SqT K H r [.ref q, x.2.1] ∧ H q = some (.tup (paV x.1))
inductive Prs (K : PySem.W.Frag) (H : Hp) : List Addr → List (PaV α) → Prop
  | nil : Prs K H [] []
  | cons {a : Addr} {t : PaV α} {as : List Addr} {ts : List (PaV α)} : Pr K H a t → Prs K H as ts → Prs K H (a :: as) (t :: ts)
theorem Pr.same (s : Same H H') {r : Addr} {t : PaV α} (h : Pr K H r t) : Pr K H' r t := let ⟨q, a, b⟩ := h; ⟨q, sqt_same s a, s _ _ b⟩
theorem Pr.put {D : Addr} {l : List V} {o : HO} (e : H D = some (.lst l)) {r : Addr} {t : PaV α} (h : Pr K H r t) : Pr K (upd H D o) r t := let ⟨q, a, b⟩ := h; ⟨q, sqt_put e a, (upd_ne fun z => by subst z; rw [e] at b; cases b).trans b⟩
theorem Prs.same (s : Same H H') : ∀ {as : List Addr} {ts : List (PaV α)}, Prs K H as ts → Prs K H' as ts
  | _, _, .nil => .nil
  | _, _, .cons h g => .cons (h.same s) (g.same s)
theorem Prs.put {D : Addr} {l : List V} {o : HO} (e : H D = some (.lst l)) : ∀ {as : List Addr} {ts : List (PaV α)}, Prs K H as ts → Prs K (upd H D o) as ts
  | _, _, .nil => .nil
  | _, _, .cons h g => .cons (h.put e) (g.put e)
theorem Prs.len : ∀ {as : List Addr} {ts : List (PaV α)}, Prs K H as ts → as.length = ts.length
  | _, _, .nil => rfl
  | _, _, .cons _ g => congrArg Nat.succ g.len
theorem Prs.app : ∀ {as bs : List Addr} {ts us : List (PaV α)}, Prs K H as ts → Prs K H bs us → Prs K H (as ++ bs) (ts ++ us)
  | _, _, _, _, .nil, g => g
  | _, _, _, _, .cons h r, g => .cons h (r.app g)
theorem Prs.rev : ∀ {as : List Addr} {ts : List (PaV α)}, Prs K H as ts → Prs K H as.reverse ts.reverse
  | _, _, .nil => .nil
  | _, _, .cons h g => by rw [List.reverse_cons, List.reverse_cons]; exact g.rev.app (.cons h .nil)
theorem Prs.get : ∀ {as : List Addr} {ts : List (PaV α)}, Prs K H as ts → ∀ {i : Nat} {a : Addr}, as[i]? = some a → ∃ t, ts[i]? = some t ∧ Pr K H a t
  | _, _, .nil, i, a, e => by cases e
  | _, _, .cons h r, 0, a, e => ⟨_, rfl, (Option.some.inj e) ▸ h⟩
  | _, _, .cons h r, i + 1, a, e => r.get (i := i) e
theorem Prs.last {as : List Addr} {a : Addr} {ts : List (PaV α)} (h : Prs K H (as ++ [a]) ts) : ∃ us t, ts = us ++ [t] ∧ Prs K H as us ∧ Pr K H a t := by
  have z := h.rev
  rw [List.reverse_append] at z
  generalize e : ts.reverse = rs at z
  cases z with
  | cons h1 g1 =>
    rename_i t rs'
    have e2 : ts = rs'.reverse ++ [t] := by rw [← List.reverse_reverse ts, e, List.reverse_cons]
    have g2 : Prs K H as rs'.reverse := by
      have z2 := g1.rev
      simpa using z2
    exact ⟨_, _, e2, g2, h1⟩
end
theorem scXN6 : FnScope ["self", "path"] ["self", "path"] (defScope sBadTerm_Init) := ⟨rfl, rfl, rfl, by decide +kernel, rfl, by decide +kernel, by decide +kernel⟩
def spXP (K : PySem.W.Frag) (C : Addr) (n : Str) : Sp := fun vs H Q _ => ∃ (a q : Addr) (zs : List V), vs = [.ref a, .ref q] ∧ H a = some (exo a C none) ∧ SqT K H q zs ∧ ∀ (dx : Addr), H dx = none → dx ≠ a → Q .non (upd (upd H dx (exd dx [(n, .ref q)])) a (exo a C (some dx)))
theorem mkO_tup {K : PySem.W.Frag} {C q : Addr} {n : Str} {zs : List V} {H : Hp} {Q : XK} (hq : SqT K H q zs) (k : ∀ (d : Addr) (H' : Hp), Same H H' → H d = none → H' d = some (.xd [(n, .ref q)]) → Q (.ref C) (some d) H') (a : Addr) (ha : H a = none) :
    spXP K C n (.ref a :: ([.ref q] ++ [])) (upd H a (exo a C none)) (fun v H2 => v = .non ∧ ∃ (d : Addr) (fs : List (Str × V)), H2 a = some (exo a C (some d)) ∧ H2 d = some (exd d fs) ∧ H d = none ∧ Q (.ref C) (some d) (upd (del H2 a) d (.xd fs))) (fun _ _ _ => False) := by
  refine ⟨a, q, zs, rfl, upd_same, sqt_same (same_upd ha) hq, fun dx h1 h2 => ?_⟩
  have hd1 : H dx = none := (upd_ne h2).symm.trans h1
  refine ⟨rfl, dx, _, upd_same, (upd_ne h2).trans upd_same, hd1, k dx _ (fun b o eb => ?_) hd1 upd_same⟩
  have n1 := ne_of_none eb ha
  have n2 := ne_of_none eb hd1
  rw [upd_ne n2, del_ne n1, upd_ne n1, upd_ne n2, upd_ne n1]
  exact eb
abbrev NBe : List Str := ["path", "part", "number", "below"]
theorem scBe : FnScope NBe ["path", "part"] (defScope sBelow) := ⟨rfl, rfl, rfl, by decide +kernel, rfl, by decide +kernel, by decide +kernel⟩
def spBe (α : Type) (K : PySem.W.Frag) : Sp := fun vs H Q _ => ∃ (q a : Addr) (p : List Nat) (x : Str) (xs : List V) (m s : Nat) (kids : List (V × α)), vs = [.ref q, .ref a] ∧ SqT K H q (paV p) ∧ p.length ≤ 900 ∧ SqT K H a (.str x :: xs) ∧ shp x = some (m, s) ∧ m ≤ xs.length ∧ kids.map (·.1) = xs.take m ∧
  ∀ (L : Addr) (rs : List Addr) (H' : Hp), Same H H' → H L = none → H' L = some (.lst (rs.map V.ref)) → Prs K H' rs (kp p 0 kids) → Q (.ref L) H'
section
variable {P : Program} {w : World} {K : PySem.W.Frag} {mg : Str → Option Value} {base : Heap} {f : Addr} {fd : FuncData}
theorem Fx.xBT (Y : Fx w K mg) : XC K (CBadTerm K) "path" veB "ValueError.__new__" := xc_of Y.x6
theorem raBT (Y : Fx w K mg) : RaC P w K mg base (CBadTerm K) ["self", "path"] (spXP K (CBadTerm K) "path") := by
  obtain ⟨fd, F⟩ := Y.dBadTerm_Init
  have b := FunD.bindsN (ps := ["self", "path"]) F fun _ _ _ _ _ _ us hl => match us, hl with | [_, _], _ => rfl
  refine ⟨⟨_, _, _, _, _, fd, PySem.F.excBase_ValueError, Y.xBT.q, Y.xBT.iC, Y.xBT.tI, ?_, b⟩, Y.xBT.ec.kp, Y.xBT.ec.be, Y.xBT.ty⟩
  refine okD F scXN6 (fun vs H Q E h => ?_) (fun cdv A outer s H vs Q E hr h => ?_)
  · obtain ⟨a, m, zs, rfl, _⟩ := h
    rfl
  · refine ⟨_, pss_one (ps_st (C := CBadTerm K) PySem.F.store_ValueError Y.xBT.ec Y.xBT.ov Y.xBT.tk (pv 0) (pe_callTy call_tuple_of (by rfl) Y.bTuple (by decide +kernel) (pa_cons (pv 1) pa_nil))), ?_⟩
    obtain ⟨a, q, zs, rfl, ha, hq, k⟩ := h
    exact ⟨_, rfl, q, zs, rfl, .inr ⟨hq, _, rfl, a, rfl, .inl ⟨ha, fun dx h1 h2 => k dx h1 h2⟩⟩⟩
theorem ok_be {α : Type} (F : FnP K "_below" sBelow f fd) (Y : Fx w K mg) : FnOk P w K mg base CX0 2 f fd ["path", "part"] (spBe α K) := by
  obtain ⟨d1, F1⟩ := Y.dPartsBelow
  have b1 := FunD.bindsN (ps := ["term"]) F1 fun _ _ _ _ _ _ us hl => match us, hl with | [_], _ => rfl
  have G1 : FnOk P w K mg base CX0 1 _ d1 ["term"] (spPBv K) := ok_pbv F1 Y
  refine okD F scBe (fun vs H Q E h => ?_) (fun cdv A outer s H vs Q E hr h => ?_)
  · obtain ⟨q, a, pp, x, xs, m, s, kids, rfl, _⟩ := h
    rfl
  · have nd := scBe.nd
    refine ⟨_, pss_one (ps_ret (pe_lc (own := [("number", 2), ("below", 3)]) (g := gTup K 2 (gCons (gName 2) (gCons (gName 3) gNil))) (tt := tYes) (te := tTup (tCons (tOp (rCatA K) (tVar 0) (tTup (tCons (tVar 2) tNil))) (tCons (tVar 3) tNil))) rfl nd
      (pi_enumA (by rfl) Y.bEnumerate (pa_cons (pe_call G1 hr (by rfl) Y.gPartsBelow F1.kp b1 .nil pass0 (pa_cons (pv 1) pa_nil)) pa_nil)) (blkOk_by (N := NBe) (sc := defScope sBelow) (by decide +kernel))
      (fun _ _ _ _ _ => pg_tup rfl (pgs_cons (pg_name (i := 2) nd rfl (Or.inl rfl)) (pgs_cons (pg_name (i := 3) nd rfl (Or.inl rfl)) pgs_nil))) (fun _ _ _ _ _ => pts_nil)
      (fun _ _ _ _ _ => pe_tup (pa_cons (pe_op op_catA (pv 0) (pe_tup (pa_cons (pv 2) pa_nil))) (pa_cons (pv 3) pa_nil))))), ?_⟩
    obtain ⟨q, a, pp, x, xs, m, sn, kids, rfl, hq, lx, ha, hs, lm, ek, k⟩ := h
    have lpv : (paV pp).length = pp.length := by unfold paV; rw [List.length_map]
    have m2 : m ≤ 2 := by
      have z2 := List.all_eq_true.mp (show (PT.all fun q => decide (q.2.1 ≤ 2)) = true by decide +kernel) _ (shp_some hs)
      exact of_decide_eq_true z2
    have lk : kids.length ≤ 2 := by
      have z := congrArg List.length ek
      rw [List.length_map, List.length_take] at z
      omega
    refine ⟨_, rfl, a, x, xs, m, sn, rfl, ha, hs, lm, fun p H1 s1 hp => ?_⟩
    rw [← ek] at hp
    refine ⟨p, kids.map (·.1), rfl, .inr (SqT.of hp), fun J GG wk gk D hD => lc_it wk (fun i G => ∃ rs : List Addr, G D = some (.lst (rs.map V.ref)) ∧ Prs K G rs ((kp pp 0 kids).take i) ∧ Same H1 G) ⟨[], upd_same, .nil, same_upd hD⟩ (fun i G _ ⟨_, _, _, z⟩ => gk G z) ?_ ?_⟩
    · rintro i v G G' hi ⟨rs, e, hP, sm⟩ ⟨T, x, y, rfl, hT, rfl, ex, ey⟩
      cases ex
      obtain ⟨kd, eu, rfl⟩ : ∃ u, kids[i]? = some u ∧ y = u.1 := by
        replace ey : (kids.map (·.1))[i]? = some y := ey
        rw [List.getElem?_map] at ey
        cases z : kids[i]? with
        | none => rw [z] at ey; cases ey
        | some u => rw [z] at ey; exact ⟨u, rfl, (Option.some.inj ey).symm⟩
      have li := (List.getElem?_eq_some_iff.mp eu).1
      have ekp := kp_at (p := pp) (i := 0) eu
      rw [Nat.zero_add] at ekp
      have lr := hP.len
      rw [List.length_take] at lr
      have sT := same_upd (o := .tup [V.int (i : Int), kd.1]) hT
      refine ⟨T, _, rfl, SqT.of upd_same, rfl, _, _, rfl, _, _, rfl, rfl, rfl, _, rfl, _, rfl, szl (by show 1 ≤ 1000; decide), fun T2 hT2 => ?_⟩
      have sT2 := same_upd (o := .tup [V.int (i : Int)]) hT2
      refine ⟨q, T2, paV pp, [.int (i : Int)], rfl, rfl, sqt_same (s1.trans (sm.trans (sT.trans sT2))) hq, SqT.of upd_same, szl (by show (paV pp).length + 1 ≤ 1000; omega), fun hx => ?_, fun hx h0 => absurd h0 (List.cons_ne_nil _ _), fun hx _ => ?_⟩
      · refine ⟨_, rfl, szl (by show 2 ≤ 1000; decide), fun T3 hT3 => ?_⟩
        have sT3 := same_upd (o := .tup [V.ref T2, kd.1]) hT3
        have s9 := sT.trans (sT2.trans sT3)
        have e9 := s9 _ _ e
        refine ⟨_, e9, ?_, rs ++ [T3], ?_, ?_, same_put hD (sm.trans s9)⟩
        · rw [List.length_map]
          exact small1000 (by omega)
        · rw [upd_same, List.map_append]
          rfl
        · rw [List.take_add_one, ekp]
          have p0 : pp = [] := by cases pp with
            | nil => rfl
            | cons x l => cases hx
          refine Prs.put e9 ((hP.same s9).app (.cons ⟨T2, SqT.of upd_same, ?_⟩ .nil))
          rw [p0]
          exact sT3 _ _ (upd_same : upd _ T2 (.tup [V.int (i : Int)]) T2 = _)
      · intro T4 hT4
        have sT4 := same_upd (o := .tup (paV pp ++ [V.int (i : Int)])) hT4
        refine ⟨_, rfl, szl (by show 2 ≤ 1000; decide), fun T3 hT3 => ?_⟩
        have sT3 := same_upd (o := .tup [V.ref T4, kd.1]) hT3
        have s9 := sT.trans (sT2.trans (sT4.trans sT3))
        have e9 := s9 _ _ e
        refine ⟨_, e9, ?_, rs ++ [T3], ?_, ?_, same_put hD (sm.trans s9)⟩
        · rw [List.length_map]
          exact small1000 (by omega)
        · rw [upd_same, List.map_append]
          rfl
        · rw [List.take_add_one, ekp]
          refine Prs.put e9 ((hP.same s9).app (.cons ⟨T4, SqT.of upd_same, ?_⟩ .nil))
          rw [show paV (pp ++ [i]) = paV pp ++ [V.int (i : Int)] by unfold paV; rw [List.map_append]; rfl]
          exact sT3 _ _ upd_same
    · rintro G ⟨rs, e, hP, sm⟩
      rw [List.length_map, List.take_of_length_le (by rw [kp_len]; exact Nat.le_refl _)] at hP
      have hD0 : H D = none := by
        cases z : H D with
        | none => rfl
        | some u => exact absurd (s1 _ _ z) (by rw [hD]; intro q; cases q)
      exact k D rs G (s1.trans sm) hD0 e hP
end
end K37

namespace K37
open PySem PySem.Spec PyProof.Rows L2 L2H HotX Ow Xv
/-! ### errors that have no context; one made while another is handled -/
theorem pmk_raN {X : Cx} {C : Addr} {ps : List Str} {sp : Sp} {x : Str} {p pos : Pos} {e : Expr} {es : List Expr} {ta : TA} (M : RaC X.prog X.w X.K X.mg X.base C ps sp) (hr : Room 2 X.A) (hg : Gl X x) (hm : X.mg x = some (.ref C)) (ha : PA X (e :: es) ta)
    (hdb : (x == ("__debug__" : Str)) = false := by decide) (he : starEach (e :: es) X.env = (false, eval e X.env) :: starEach es X.env := by rfl) (hpl : (backTo pos (starEach es X.env)).any (·.1) = false := by rfl) :
    L2N.PMk X (.Call (.Name x p) (e :: es) [] pos) (tMkO C sp [] ta) := by
  obtain ⟨B, n1, n2, bmB, fI, fd, F, q, iC, tI, F1, b⟩ := M.ex
  exact (pmk5_excI F q iC tI M.kp (raises_own M.be M.ty) F1 hr b pass0 hg hm ha hdb he hpl).pmk
section
variable {P : Program} {w : World} {K : PySem.W.Frag} {mg : Str → Option Value} {base : Heap}
theorem pass0H {X : Cx} : Passes CX0 X (fun _ _ _ => False) := pass0
theorem raBTH (Y : Fx w K mg) : ∃ (fI : Addr) (fd : FuncData), PySem.W.findIn K (.ref (CBadTerm K)) "__init__" = some (some (.ref fI)) ∧ PySem.W.typeIn K (.ref fI) = some (.type "function") ∧ FnH P w K mg base CX0 1 fI fd ["self", "path"] (spXP K (CBadTerm K) "path") ∧ Binds K fd ["self", "path"] [] := by
  obtain ⟨fd, F⟩ := Y.dBadTerm_Init
  have b := FunD.bindsN (ps := ["self", "path"]) F fun _ _ _ _ _ _ us hl => match us, hl with | [_, _], _ => rfl
  obtain ⟨oc, od, dV, kV, doc, pm, an, cdv, ct, osl, e, lk, hcd, _, _⟩ := F.ex
  subst e
  refine ⟨_, _, Y.xBT.iC, Y.xBT.tI, fn_ofH lk hcd scXN6 (fun vs H Q E h => ?_) (fun A outer s H vs Q E p hot hr h => ?_), b⟩
  · obtain ⟨a, m, zs, rfl, _⟩ := h
    rfl
  · refine ⟨_, pss_one (ps_st (C := CBadTerm K) PySem.F.store_ValueError Y.xBT.ec Y.xBT.ov Y.xBT.tk (pv 0) (pe_callTy call_tuple_of (by rfl) Y.bTuple (by decide +kernel) (pa_cons (pv 1) pa_nil))), ?_⟩
    obtain ⟨a, q, zs, rfl, ha, hq, k⟩ := h
    exact ⟨_, rfl, q, zs, rfl, .inr ⟨hq, _, rfl, a, rfl, .inl ⟨ha, fun dx h1 h2 => k dx h1 h2⟩⟩⟩
end
end K37

namespace K37
open PySem PySem.Spec PyProof.Rows L2 Ow Xv
/-! ### the parts of a value checked -/
theorem formD_some {xs ns : List Str} {d : PyData} (h : formD xs ns d = true) : ∃ (w : Str) (ds : List PyData) (m s : Nat), d = .tuple (.str w :: ds) ∧ shp w = some (m, s) ∧ m ≤ ds.length ∧ s ≤ ds.length + (if w = ("letter" : Str) then 1 else 0) ∧ kidsD d = ds.take m := by
  unfold formD at h
  split at h
  · rename_i w ds
    unfold formW at h
    by_cases c : w = ("letter" : Str)
    · subst c
      exact ⟨_, ds, 0, 0, rfl, by decide +kernel, Nat.zero_le _, Nat.zero_le _, by
        show (match shp "letter" with
          | some (p, _) => ds.take p
          | none => []) = _
        rw [show shp "letter" = some (0, 0) by decide +kernel]⟩
    · rw [if_neg c] at h
      cases hs : shp w with
      | none => rw [hs] at h; cases h
      | some q =>
        obtain ⟨m, s⟩ := q
        rw [hs] at h
        obtain ⟨h1, _⟩ := an h
        have l := of_decide_eq_true h1
        refine ⟨w, ds, m, s, rfl, hs, by omega, by omega, ?_⟩
        show (match shp w with
          | some (p, _) => ds.take p
          | none => []) = _
        rw [hs]
  · cases h
theorem none_same {H G : Hp} (s : Same H G) {D : Addr} (hD : G D = none) : H D = none := none_of s hD
def lenAt (σ : L2.St) (i : Nat) (G : Hp) : Nat := match σ[i]? with
  | some (some (V.ref b)) => (match G b with
    | some (.lst zs) => zs.length
    | _ => 0)
  | _ => 0
theorem VaAll.zip {K : PySem.W.Frag} {H : Hp} : ∀ {vs : List V} {ds : List PyData}, VaAll K H vs ds → (∀ q ∈ vs.zip ds, Va K H q.1 q.2) ∧ (vs.zip ds).map (·.1) = vs ∧ (vs.zip ds).map (·.2) = ds
  | _, _, .nil => ⟨fun _ h => absurd h List.not_mem_nil, rfl, rfl⟩
  | _, _, .cons h g => by
    obtain ⟨a, b, c⟩ := VaAll.zip g
    refine ⟨fun q hq => ?_, by rw [List.zip_cons_cons, List.map_cons, b], by rw [List.zip_cons_cons, List.map_cons, c]⟩
    rw [List.zip_cons_cons] at hq
    rcases List.mem_cons.mp hq with z | z
    · rw [z]; exact h
    · exact a q z
abbrev NPC : List Str := ["frame", "value", "found", "waiting", "path", "part"]
theorem scPC : FnScope NPC ["frame", "value"] (defScope sPartsChecked) := ⟨rfl, rfl, rfl, by decide +kernel, rfl, by decide +kernel, by decide +kernel⟩
def stkD (xs ns : List Str) (us : List (PaV PyData)) : List (List Nat × PyData) := us.reverse.flatMap fun u => preD xs ns u.1 u.2.2
theorem stk_push {xs ns : List Str} {us : List (PaV PyData)} {p : List Nat} {d : PyData} {v : V} {kids : List (V × PyData)} (hf : formD xs ns d = true) (hk : kids.map (·.2) = kidsD d) :
    stkD xs ns (us ++ [(p, v, d)]) = (p, d) :: stkD xs ns (us ++ (kp p 0 kids).reverse) := by
  unfold stkD
  rw [List.reverse_append, List.reverse_append, List.reverse_reverse]
  show preD xs ns p d ++ _ = _
  rw [preD_eq, if_pos hf, List.flatMap_append, List.cons_append]
  congr 2
  rw [← hk, ← kp_map (fun q : V × PyData => q.2) kids 0, List.flatMap_def, List.flatMap_def, List.map_map]
  rfl
theorem stk_bad {xs ns : List Str} {us : List (PaV PyData)} {p : List Nat} {d : PyData} {v : V} (hf : formD xs ns d = false) : (stkD xs ns (us ++ [(p, v, d)])).find? (badP xs ns) = some (p, d) := by
  unfold stkD
  rw [List.reverse_append]
  show (preD xs ns p d ++ _).find? _ = _
  rw [preD_eq, List.cons_append, List.find?_cons]
  unfold badP
  rw [show (!formD xs ns (p, d).2) = true by rw [hf]; rfl]
theorem stk_len {xs ns : List Str} (us : List (PaV PyData)) : us.length ≤ (stkD xs ns us).length := by
  unfold stkD
  rw [← List.length_reverse (as := us)]
  generalize us.reverse = l
  induction l with
  | nil => exact Nat.le_refl _
  | cons x l ih =>
    rw [List.flatMap_cons, List.length_append, List.length_cons, preD_eq, List.length_cons]
    omega
def spPCv (K : PySem.W.Frag) : Sp := fun vs H Q E => ∃ (x : Addr) (v : V) (d : PyData) (xs : List Str) (ls : List Lt), vs = [.ref x, v] ∧ FrmA K H x xs ls ∧ Va K H v d ∧ (preD xs (ls.map (·.1)) [] d).length ≤ 400 ∧
  (∀ p, fl xs (ls.map (·.1)) d = some p → ∀ (q dx : Addr) (H' : Hp), Same H H' → SqT K H' q (paV p) → H dx = none → H' dx = some (.xd [("path", .ref q)]) → E (.ref (CBadTerm K)) (some dx) H') ∧
  (fl xs (ls.map (·.1)) d = none → ∀ (L : Addr) (H' : Hp), Same H H' → Q (.ref L) H')
section
variable {P : Program} {w : World} {K : PySem.W.Frag} {mg : Str → Option Value} {base : Heap} {f : Addr} {fd : FuncData}
theorem ok_pcv (F : FnP K "_parts_checked" sPartsChecked f fd) (Y : Fx w K mg) : FnOk P w K mg base (L2N.CX P w) 3 f fd ["frame", "value"] (spPCv K) := by
  obtain ⟨d1, F1⟩ := Y.dBelow
  obtain ⟨d2, F2⟩ := Y.dHasForm
  have b1 := FunD.bindsN (ps := ["path", "part"]) F1 fun _ _ _ _ _ _ us hl => match us, hl with | [_, _], _ => rfl
  have b2 := FunD.bindsN (ps := ["frame", "value"]) F2 fun _ _ _ _ _ _ us hl => match us, hl with | [_, _], _ => rfl
  have G1 : FnOk P w K mg base CX0 2 _ d1 ["path", "part"] (spBe PyData K) := ok_be F1 Y
  have G2 : FnOk P w K mg base CX0 2 _ d2 ["frame", "value"] (spHF K) := ok_hf F2 Y
  refine F.ok scPC (fun vs H Q E h => ?_) (fun cdv A outer s H vs Q E hr h => ?_)
  · obtain ⟨x, v, d, xs, ls, rfl, _⟩ := h
    rfl
  · have nd := scPC.nd
    refine ⟨_, pss_cons (ps_set (i := 2) nd rfl (Or.inl rfl) (pe_lst pa_nil))
      (pss_cons (ps_set (i := 3) nd rfl (Or.inl rfl) (pe_lst (pa_cons (pe_tup (pa_cons (pe_tup pa_nil) (pa_cons (pv 1) pa_nil))) pa_nil)))
      (pss_cons (ps_while (passes_of rfl) (pt_truth (pv 3) (by intro _; rfl))
        (pss_cons (ps_asg (pe_bm0 PySem.F.plainAttrs_list PySem.F.slot_list_pop PySem.F.type_list_pop mt_pop (pv 3)) (pg_tup rfl (pgs_cons (pg_name (i := 4) nd rfl (Or.inl rfl)) (pgs_cons (pg_name (i := 5) nd rfl (Or.inl rfl)) pgs_nil))))
        (pss_cons (ps_if (pw_and (pt_cmp (pc_notN (pv 0))) (pw_and1 (pt_not (pt_val (pe_call G2 hr (by rfl) Y.gHasForm F2.kp b2 .nil pass0 (pa_cons (pv 0) (pa_cons (pv 5) pa_nil))))))).pt (pss_one (L2N.ps_raise rfl (L2N.takes_of rfl rfl rfl rfl) (pmk_raN (raBT Y) hr (by rfl) Y.gBadTerm (pa_cons (pv 4) pa_nil)))) pss_nil)
        (pss_cons (ps_expr (pe_bm PySem.F.plainAttrs_list PySem.F.slot_list_append PySem.F.type_list_append mt_append (pv 2) (pa_cons (pe_tup (pa_cons (pv 4) (pa_cons (pv 5) pa_nil))) pa_nil)))
        (pss_one (ps_expr (pe_bm PySem.F.plainAttrs_list PySem.F.slot_list_extend PySem.F.type_list_extend mt_extend (pv 3) (pa_cons (pe_rev (pe_call G1 hr (by rfl) Y.gBelow F1.kp b1 .nil pass0 (pa_cons (pv 4) (pa_cons (pv 5) pa_nil))) (pe_un un_neg pe_int)) pa_nil))))))))
      (pss_one (ps_ret (pv 2))))), ?_⟩
    obtain ⟨x, v, d, xs, ls, rfl, hFr, hv, z4, kE, kQ⟩ := h
    refine ⟨szl (by show 0 ≤ 1000; decide), fun Fd hF => ?_⟩
    have s0 := same_upd (o := .lst []) hF
    refine ⟨szl (by show 0 ≤ 1000; decide), fun T0 hT0 => ?_⟩
    have s1 := same_upd (o := .tup []) hT0
    refine ⟨_, rfl, szl (by show 2 ≤ 1000; decide), fun T1 hT1 => ?_⟩
    have s2 := same_upd (o := .tup [V.ref T0, v]) hT1
    refine ⟨szl (by show 1 ≤ 1000; decide), fun Wt hW => ?_⟩
    have s3 := same_upd (o := .lst [V.ref T1]) hW
    have e3F := s3 _ _ (s2 _ _ (s1 _ _ (upd_same : upd H Fd (.lst []) Fd = _)))
    have e3W := (upd_same : upd (upd (upd (upd H Fd (.lst [])) T0 (.tup [])) T1 (.tup [V.ref T0, v])) Wt (.lst [V.ref T1]) Wt = _)
    have q3 : SqT K (upd (upd (upd (upd H Fd (.lst [])) T0 (.tup [])) T1 (.tup [V.ref T0, v])) Wt (.lst [V.ref T1])) T1 [.ref T0, v] := sqt_same s3 (SqT.of upd_same)
    have q4 : (upd (upd (upd (upd H Fd (.lst [])) T0 (.tup [])) T1 (.tup [V.ref T0, v])) Wt (.lst [V.ref T1])) T0 = some (.tup (paV [])) := (s2.trans s3) _ _ upd_same
    have s9 := s0.trans (s1.trans (s2.trans s3))
    have hW0 : H Wt = none := none_same (s0.trans (s1.trans s2)) hW
    have nFW : Fd ≠ Wt := fun q => by
      subst q
      have z := (s1.trans s2) _ _ (upd_same : upd H Fd (.lst []) Fd = _)
      rw [hW] at z
      cases z
    obtain ⟨G0, eG⟩ : ∃ Z, Z = upd (upd (upd (upd H Fd (.lst [])) T0 (.tup [])) T1 (.tup [V.ref T0, v])) Wt (.lst [V.ref T1]) := ⟨_, rfl⟩
    dsimp only [gName]
    change tSeq (tWhile _ _) _ _ [some (.ref x), some v, some (.ref Fd), some (.ref Wt), none, none] (upd (upd (upd (upd H Fd (.lst [])) T0 (.tup [])) T1 (.tup [V.ref T0, v])) Wt (.lst [V.ref T1]))
    rw [← eG] at e3F e3W q3 q4 s9 ⊢
    clear eG s0 s1 s2 s3 hW hT1 hT0
    obtain ⟨ns, ens⟩ : ∃ ns, ns = ls.map (·.1) := ⟨_, rfl⟩
    rw [← ens] at z4 kE kQ
    refine while_by (fun σ G => ∃ (rs ws : List Addr) (us : List (PaV PyData)) (v4 v5 : Option V), σ = [some (.ref x), some v, some (.ref Fd), some (.ref Wt), v4, v5] ∧ G Fd = some (.lst (rs.map V.ref)) ∧ G Wt = some (.lst (ws.map V.ref)) ∧ Prs K G ws us ∧ (∀ u ∈ us, Va K H u.2.1 u.2.2 ∧ u.1.length ≤ rs.length) ∧
        (stkD xs ns us).find? (badP xs ns) = (preD xs ns [] d).find? (badP xs ns) ∧ rs.length + (stkD xs ns us).length = (preD xs ns [] d).length ∧ Same H G)
      (fun σ G => (preD xs ns [] d).length - lenAt σ 2 G) ⟨[], [T1], [([], v, d)], none, none, rfl, e3F, e3W, .cons ⟨T0, q3, q4⟩ .nil, fun u hu => by rw [List.mem_singleton.mp hu]; exact ⟨hv, Nat.le_refl _⟩, by simp [stkD], by simp [stkD], s9⟩ ?_ ?_
    · rintro σ G ⟨rs, ws, us, v4, v5, rfl, eF, eW, P2, hR, hfd, hN, sm⟩
      have l2 := P2.len
      have lu := stk_len (xs := xs) (ns := ns) us
      refine ⟨_, rfl, !(ws.map V.ref).isEmpty, .inl ⟨_, SqL.of eW, rfl⟩, ?_⟩
      rcases List.eq_nil_or_concat ws with rfl | ⟨ws', r, rfl⟩
      · refine iteF ?_
        rw [List.length_eq_zero_iff.mp l2.symm] at hfd
        refine ⟨_, rfl, kQ ?_ Fd G sm⟩
        rw [← pre_first, ← hfd]
        rfl
      · rw [List.concat_eq_append] at *
        have ne : (!((ws' ++ [r]).map V.ref).isEmpty) = true := by simp
        rw [ne]
        refine iteT ?_
        obtain ⟨us', ⟨pu, uv, u⟩, rfl, P3, q, h1, h2e⟩ := P2.last
        have h2 : SqT K G q (paV pu) := SqT.of h2e
        obtain ⟨hVu, lpu⟩ := hR (pu, uv, u) (List.mem_append_right _ List.mem_cons_self)
        replace hVu : Va K H uv u := hVu
        replace lpu : pu.length ≤ rs.length := lpu
        refine ⟨_, rfl, .inl ⟨rfl, _, SqL.of eW⟩, Wt, _, .ref r, rfl, rfl, eW, by rw [List.map_append, List.length_append, List.map_cons, List.map_nil, List.length_cons, List.length_nil, Nat.add_sub_cancel]; simp, ?_⟩
        rw [List.map_append, List.map_cons, List.map_nil, List.dropLast_concat]
        have smA := same_put (o := .lst (ws'.map V.ref)) hW0 sm
        have eFA : upd G Wt (.lst (ws'.map V.ref)) Fd = some (.lst (rs.map V.ref)) := (upd_ne nFW).trans eF
        have eWA : upd G Wt (.lst (ws'.map V.ref)) Wt = some (.lst (ws'.map V.ref)) := upd_same
        have P3A := P3.put (o := .lst (ws'.map V.ref)) eW
        have h1A := sqt_put (o := .lst (ws'.map V.ref)) eW h1
        have h2A := sqt_put (o := .lst (ws'.map V.ref)) eW h2
        generalize upd G Wt (.lst (ws'.map V.ref)) = GA at smA eFA eWA P3A h1A h2A ⊢
        refine ⟨r, _, rfl, h1A, rfl, _, _, rfl, _, _, rfl, rfl, ?_⟩
        dsimp only
        change tSeq _ _ _ [some (.ref x), some v, some (.ref Fd), some (.ref Wt), some (.ref q), some uv] GA
        refine ⟨_, rfl, _, rfl, ?_⟩
        refine iteT ?_
        refine ⟨_, rfl, _, rfl, x, uv, u, xs, ls, rfl, hFr.same smA, hVu.mono smA, fun GB sB => ⟨_, rfl, ?_⟩⟩
        rw [← ens]
        have smB := smA.trans sB
        have eFB := sB _ _ eFA
        have eWB := sB _ _ eWA
        have P3B := P3A.same sB
        have h2B := sqt_same sB h2A
        cases hf : formD xs ns u with
        | false =>
          refine iteT ?_
          have ebad := (stk_bad (us := us') (p := pu) (v := uv) hf).symm.trans hfd
          have ef : fl xs ns d = some pu := by
            rw [← pre_first, ← ebad]
            rfl
          refine ⟨_, rfl, (by show 1 ≤ 1000; decide), fun a ha => mkO_tup h2B (fun dx H' s' hd e => kE pu ef q dx H' (smB.trans s') (sqt_same s' h2B) (none_same smB hd) e) a ha⟩
        | true =>
          refine iteF ?_
          obtain ⟨wd, ds, m, sn, rfl, hs, lm, _, ek⟩ := formD_some hf
          rcases hVu.tupD with ⟨ua, xs0, ds0, rfl, ed, hq, hg⟩ | hno
          · cases ed
            cases hg with
            | @cons v0 xsv _ _ h0 hg =>
            cases h0
            have hgm := hg.take m
            obtain ⟨z1, z2, z3⟩ := VaAll.zip hgm
            have lg := hg.len
            obtain ⟨kids, ekd⟩ : ∃ kids, kids = (xsv.take m).zip (ds.take m) := ⟨_, rfl⟩
            rw [← ekd] at z1 z2 z3
            have hst := stk_push (us := us') (p := pu) (v := V.ref ua) (kids := kids) hf (z3.trans ek.symm)
            have lst := stk_len (xs := xs) (ns := ns) (us' ++ (kp pu 0 kids).reverse)
            rw [hst, List.length_cons] at hN
            have hfd2 : (stkD xs ns (us' ++ (kp pu 0 kids).reverse)).find? (badP xs ns) = (preD xs ns [] d).find? (badP xs ns) := by
              rw [← hfd, hst, List.find?_cons]
              unfold badP
              rw [show (!formD xs ns (pu, PyData.tuple (PyData.str wd :: ds)).2) = false by rw [hf]; rfl]
            rw [List.length_append, List.length_reverse] at lst
            have l9 : rs.length ≤ 399 := by omega
            have ll2 := P3.len
            have lkp : (kp pu 0 kids).length = kids.length := kp_len
            have hR2 : ∀ y ∈ us' ++ (kp pu 0 kids).reverse, Va K H y.2.1 y.2.2 ∧ y.1.length ≤ rs.length + 1 := fun y hy => by
              rcases List.mem_append.mp hy with z | z
              · have q := hR y (List.mem_append_left _ z)
                exact ⟨q.1, Nat.le_succ_of_le q.2⟩
              · obtain ⟨m1, m2⟩ := kp_mem (List.mem_reverse.mp z)
                exact ⟨z1 _ m1, by omega⟩
            have smB0 := smB
            refine ⟨_, rfl, .inl ⟨rfl, _, SqL.of eFB⟩, _, rfl, _, rfl, szl (by show 2 ≤ 1000; decide), fun T hT => ?_⟩
            have sT := same_upd (o := .tup [V.ref q, V.ref ua]) hT
            have eFC := sT _ _ eFB
            refine ⟨Fd, _, _, rfl, rfl, eFC, by rw [List.length_map]; exact small1000 (by omega), ?_⟩
            have nm : rs.map V.ref ++ [V.ref T] = (rs ++ [T]).map V.ref := by rw [List.map_append]; rfl
            rw [nm]
            have P3C := (P3B.same sT).put (o := .lst ((rs ++ [T]).map V.ref)) eFC
            have h2C := sqt_put (o := .lst ((rs ++ [T]).map V.ref)) eFC (sqt_same sT h2B)
            have smC := same_put (o := .lst ((rs ++ [T]).map V.ref)) hF (smB.trans sT)
            have eFD : upd (upd GB T (.tup [V.ref q, V.ref ua])) Fd (.lst ((rs ++ [T]).map V.ref)) Fd = some (.lst ((rs ++ [T]).map V.ref)) := upd_same
            have eWD : upd (upd GB T (.tup [V.ref q, V.ref ua])) Fd (.lst ((rs ++ [T]).map V.ref)) Wt = some (.lst (ws'.map V.ref)) := (upd_ne nFW.symm).trans (sT _ _ eWB)
            generalize upd (upd GB T (.tup [V.ref q, V.ref ua])) Fd (.lst ((rs ++ [T]).map V.ref)) = GC at P3C h2C smC eFD eWD ⊢
            refine ⟨_, rfl, .inl ⟨rfl, _, SqL.of eWD⟩, _, rfl, _, rfl, q, ua, pu, wd, xsv, m, sn, kids, rfl, h2C, by omega, sqt_same smC hq, hs, by omega, z2, fun L rs2 GD sD hL eL hP => ?_⟩
            refine ⟨_, rfl, rfl, L, _, rfl, .inl ⟨SqL.of eL, fun p hp => ?_⟩⟩
            have sp := same_upd (o := .lst (rs2.map V.ref).reverse) hp
            have eWE := sp _ _ (sD _ _ eWD)
            have lr2 := hP.len
            refine ⟨Wt, p, _, _, rfl, rfl, eWE, upd_same, szl (by rw [List.length_map, List.length_reverse, List.length_map]; omega), ?_⟩
            have nm2 : ws'.map V.ref ++ (rs2.map V.ref).reverse = (ws' ++ rs2.reverse).map V.ref := by rw [List.map_append, List.map_reverse]
            rw [nm2]
            have eFE := (upd_ne (o := HO.lst ((ws' ++ rs2.reverse).map V.ref)) nFW).trans (sp _ _ (sD _ _ eFD))
            have lr : (rs ++ [T]).length = rs.length + 1 := by rw [List.length_append]; rfl
            refine ⟨⟨rs ++ [T], ws' ++ rs2.reverse, us' ++ (kp pu 0 kids).reverse, _, _, rfl, eFE, upd_same, ?_, by rw [lr]; exact hR2, hfd2, by rw [lr]; omega, same_put hW0 (smC.trans (sD.trans sp))⟩, ?_⟩
            · exact ((P3C.same (sD.trans sp)).app (hP.same sp).rev).put eWE
            · show (preD xs ns [] d).length - (match upd (upd GD p (.lst (rs2.map V.ref).reverse)) Wt (.lst ((ws' ++ rs2.reverse).map V.ref)) Fd with
                | some (HO.lst zs) => zs.length
                | _ => 0) < (preD xs ns [] d).length - (match G Fd with
                | some (HO.lst zs) => zs.length
                | _ => 0)
              rw [eFE, eF]
              dsimp only
              rw [List.length_map, List.length_map, lr]
              omega
          · cases hno
    · rintro σ G Q1 Q2 hq ⟨v, e1, b, e2, z⟩
      exact ⟨v, e1, b, e2, hq _ _ z⟩
end
end K37

namespace K37
open PySem PySem.Spec PyProof.Rows L2 Ow Xv
/-! ### values with form are terms; their ends -/
def dat : Tm → PyData
  | .leaf w ss => .tuple (.str w :: ss.map PyData.str)
  | .one w t => .tuple [.str w, dat t]
  | .two w s t => .tuple [.str w, dat s, dat t]
def LeafFm (xs ns : List Str) (w : Str) (ss : List Str) : Prop := (w = "letter" ∧ ∃ n : Str, ss = [n] ∧ n ∈ ns) ∨ (w = "same" ∧ ∃ a : Str, ss = [a] ∧ a ∈ xs) ∨ (w = "other" ∧ ∃ a : Str, ss = [a] ∧ a ∈ xs) ∨ (w = "none" ∧ ∃ a b : Str, ss = [a, b] ∧ a ∈ xs ∧ b ∈ xs) ∨ (w = "all" ∧ ∃ a b : Str, ss = [a, b] ∧ a ∈ xs ∧ b ∈ xs)
/-- a term of these sorts and letters -/
def Fmd (xs ns : List Str) : Tm → Prop
  | .leaf w ss => LeafFm xs ns w ss
  | .one w t => OneOk w ∧ Fmd xs ns t
  | .two w s t => TwoOk w ∧ Fmd xs ns s ∧ Fmd xs ns t
theorem inT_all1 {xs : List Str} {d : PyData} (h : [d].all (inT xs) = true) : ∃ a, d = .str a ∧ a ∈ xs := by
  rw [List.all_cons, List.all_nil, Bool.and_true] at h
  unfold inT at h
  split at h
  · exact ⟨_, rfl, of_decide_eq_true h⟩
  · cases h
theorem len1 {α : Type} {l : List α} (h : l.length = 1) : ∃ a, l = [a] := by
  match l, h with
  | [a], _ => exact ⟨a, rfl⟩
theorem len2 {α : Type} {l : List α} (h : l.length = 2) : ∃ a b, l = [a, b] := by
  match l, h with
  | [a, b], _ => exact ⟨a, b, rfl⟩
theorem flK_none {f : PyData → Option (List Nat)} : ∀ {ks : List PyData} {i : Nat}, flK f i ks = none → ∀ k ∈ ks, f k = none
  | k :: ks, i, h, k', hk => by
    unfold flK at h
    cases z : f k with
    | some q => rw [z] at h; cases h
    | none =>
      rw [z] at h
      rcases List.mem_cons.mp hk with e | e
      · rw [e]; exact z
      · exact flK_none h k' e
theorem pt_cases {w : Str} {p s : Nat} (h : shp w = some (p, s)) : (w = "letter" ∧ p = 0 ∧ s = 0) ∨ (w = "same" ∧ p = 0 ∧ s = 1) ∨ (w = "other" ∧ p = 0 ∧ s = 1) ∨ (w = "none" ∧ p = 0 ∧ s = 2) ∨ (w = "all" ∧ p = 0 ∧ s = 2) ∨ (OneOk w ∧ p = 1 ∧ s = 0) ∨ (TwoOk w ∧ p = 2 ∧ s = 0) := by
  have z := shp_some h
  simp only [PT, List.mem_cons, List.mem_nil_iff, or_false, Prod.mk.injEq] at z
  unfold OneOk TwoOk
  rcases z with z | z | z | z | z | z | z | z | z | z | z | z <;> obtain ⟨rfl, rfl, rfl⟩ := z
  · exact .inl ⟨rfl, rfl, rfl⟩
  · exact .inr (.inl ⟨rfl, rfl, rfl⟩)
  · exact .inr (.inr (.inl ⟨rfl, rfl, rfl⟩))
  · exact .inr (.inr (.inr (.inl ⟨rfl, rfl, rfl⟩)))
  · exact .inr (.inr (.inr (.inr (.inl ⟨rfl, rfl, rfl⟩))))
  · exact .inr (.inr (.inr (.inr (.inr (.inl ⟨.inl rfl, rfl, rfl⟩)))))
  · exact .inr (.inr (.inr (.inr (.inr (.inl ⟨.inr (.inl rfl), rfl, rfl⟩)))))
  · exact .inr (.inr (.inr (.inr (.inr (.inr ⟨.inl rfl, rfl, rfl⟩)))))
  · exact .inr (.inr (.inr (.inr (.inr (.inr ⟨.inr (.inl rfl), rfl, rfl⟩)))))
  · exact .inr (.inr (.inr (.inr (.inr (.inr ⟨.inr (.inr rfl), rfl, rfl⟩)))))
  · exact .inr (.inr (.inr (.inr (.inr (.inl ⟨.inr (.inr (.inl rfl)), rfl, rfl⟩)))))
  · exact .inr (.inr (.inr (.inr (.inr (.inl ⟨.inr (.inr (.inr rfl)), rfl, rfl⟩)))))
theorem fm_of {xs ns : List Str} : ∀ (n : Nat) (d : PyData), d.depth < n → fl xs ns d = none → ∃ t, d = dat t ∧ Fmd xs ns t
  | 0, _, h, _ => absurd h (Nat.not_lt_zero _)
  | n + 1, d, h, e => by
    rw [fl_eq] at e
    cases c : formD xs ns d with
    | false => rw [c, if_neg Bool.false_ne_true] at e; cases e
    | true =>
      rw [c, if_pos rfl] at e
      have hk := flK_none e
      obtain ⟨w, ds, m, s, rfl, hs, lm, _, ek⟩ := formD_some c
      have hform : formW xs ns w ds = true := c
      unfold formW at hform
      by_cases ew : w = ("letter" : Str)
      · rw [if_pos ew] at hform
        obtain ⟨h1, h2⟩ := an hform
        obtain ⟨a, rfl⟩ := len1 (of_decide_eq_true h1)
        obtain ⟨z, rfl, hz⟩ := inT_all1 h2
        exact ⟨.leaf w [z], rfl, .inl ⟨ew, z, rfl, hz⟩⟩
      · rw [if_neg ew, hs] at hform
        obtain ⟨h1, h2⟩ := an hform
        have l := of_decide_eq_true h1
        rcases pt_cases hs with ⟨rfl, rfl, rfl⟩ | ⟨rfl, rfl, rfl⟩ | ⟨rfl, rfl, rfl⟩ | ⟨rfl, rfl, rfl⟩ | ⟨rfl, rfl, rfl⟩ | ⟨ok, rfl, rfl⟩ | ⟨ok, rfl, rfl⟩
        · exact absurd rfl ew
        · obtain ⟨a, rfl⟩ := len1 l
          obtain ⟨z, rfl, hz⟩ := inT_all1 h2
          exact ⟨.leaf _ [z], rfl, .inr (.inl ⟨rfl, z, rfl, hz⟩)⟩
        · obtain ⟨a, rfl⟩ := len1 l
          obtain ⟨z, rfl, hz⟩ := inT_all1 h2
          exact ⟨.leaf _ [z], rfl, .inr (.inr (.inl ⟨rfl, z, rfl, hz⟩))⟩
        · obtain ⟨a, b, rfl⟩ := len2 l
          have h2' : (inT xs a && (inT xs b && true)) = true := h2
          obtain ⟨q1, q2⟩ := an h2'
          obtain ⟨z, rfl, hz⟩ := inT_all1 (xs := xs) (d := a) (by rw [List.all_cons, q1]; rfl)
          obtain ⟨y, rfl, hy⟩ := inT_all1 (xs := xs) (d := b) q2
          exact ⟨.leaf _ [z, y], rfl, .inr (.inr (.inr (.inl ⟨rfl, z, y, rfl, hz, hy⟩)))⟩
        · obtain ⟨a, b, rfl⟩ := len2 l
          have h2' : (inT xs a && (inT xs b && true)) = true := h2
          obtain ⟨q1, q2⟩ := an h2'
          obtain ⟨z, rfl, hz⟩ := inT_all1 (xs := xs) (d := a) (by rw [List.all_cons, q1]; rfl)
          obtain ⟨y, rfl, hy⟩ := inT_all1 (xs := xs) (d := b) q2
          exact ⟨.leaf _ [z, y], rfl, .inr (.inr (.inr (.inr ⟨rfl, z, y, rfl, hz, hy⟩)))⟩
        · obtain ⟨a, rfl⟩ := len1 l
          have ma : a ∈ kidsD (.tuple [.str w, a]) := by rw [ek]; exact List.mem_cons_self
          obtain ⟨t, rfl, ht⟩ := fm_of n a (by have := dep_kid ma; omega) (hk a ma)
          exact ⟨.one w t, rfl, ok, ht⟩
        · obtain ⟨a, b, rfl⟩ := len2 l
          have ma : a ∈ kidsD (.tuple [.str w, a, b]) := by rw [ek]; exact List.mem_cons_self
          have mb : b ∈ kidsD (.tuple [.str w, a, b]) := by rw [ek]; exact List.mem_cons_of_mem _ List.mem_cons_self
          obtain ⟨t, rfl, ht⟩ := fm_of n a (by have := dep_kid ma; omega) (hk a ma)
          obtain ⟨u, rfl, hu⟩ := fm_of n b (by have := dep_kid mb; omega) (hk b mb)
          exact ⟨.two w t u, rfl, ok, ht, hu⟩
theorem strs_inv {K : PySem.W.Frag} {H : Hp} : ∀ {vs : List V} {ss : List Str}, VaAll K H vs (ss.map PyData.str) → vs = ss.map V.str
  | _, [], .nil => rfl
  | _, s :: ss, .cons h g => by
    cases h
    rw [strs_inv g]
    rfl
theorem va_tm {K : PySem.W.Frag} {H : Hp} : ∀ {t : Tm} {v : V}, Va K H v (dat t) → ∃ a, v = .ref a ∧ TmAt K H a t
  | .leaf w ss, v, h => by
    rcases h.tupD with ⟨a, xs, ds, rfl, e, hq, hg⟩ | z
    · injection e with e
      subst e
      have z := strs_inv (ss := w :: ss) hg
      rw [z] at hq
      exact ⟨a, rfl, hq⟩
    · cases z
  | .one w t, v, h => by
    rcases h.tupD with ⟨a, xs, ds, rfl, e, hq, hg⟩ | z
    · injection e with e
      subst e
      cases hg with
      | cons h0 hg =>
      cases h0
      cases hg with
      | cons h1 hg =>
      cases hg
      obtain ⟨b, rfl, hb⟩ := va_tm h1
      exact ⟨a, rfl, b, hq, hb⟩
    · cases z
  | .two w s t, v, h => by
    rcases h.tupD with ⟨a, xs, ds, rfl, e, hq, hg⟩ | z
    · injection e with e
      subst e
      cases hg with
      | cons h0 hg =>
      cases h0
      cases hg with
      | cons h1 hg =>
      cases hg with
      | cons h2 hg =>
      cases hg
      obtain ⟨b, rfl, hb⟩ := va_tm h1
      obtain ⟨c, rfl, hc⟩ := va_tm h2
      exact ⟨a, rfl, b, c, hq, hb, hc⟩
    · cases z
theorem tm_va {K : PySem.W.Frag} {H : Hp} : ∀ {t : Tm} {a : Addr}, TmAt K H a t → Va K H (.ref a) (dat t)
  | .leaf w ss, a, h => .tup h (.cons (.str w) (VaAll.strs ss))
  | .one w t, a, ⟨b, h, g⟩ => .tup h (.cons (.str w) (.cons (tm_va g) .nil))
  | .two w s t, a, ⟨b, c, h, g, g2⟩ => .tup h (.cons (.str w) (.cons (tm_va g) (.cons (tm_va g2) .nil)))
/-! the ends -/
section
variable (ls : List Lt)
def eL : Tm → Str × Str
  | .leaf w ss => if w = ("letter" : Str) then (endOf ls (ss.headD "")).2 else (ss.headD "", ss.getLastD "")
  | .one w t => if w = ("turned" : Str) then ((eL t).2, (eL t).1) else eL t
  | .two w s t => if w = ("then" : Str) then ((eL s).1, (eL t).2) else eL s
def fitT : Tm → Bool
  | .leaf _ _ => true
  | .one w t => !(decide (w = ("closed" : Str) ∨ w = ("walked" : Str)) && decide ((eL ls t).1 ≠ (eL ls t).2))
  | .two w s t => if w = ("then" : Str) then decide ((eL ls s).2 = (eL ls t).1) else decide (eL ls s = eL ls t)
/-- the parts in the order of the ends: each behind its own -/
def post : List Nat → Tm → List (List Nat × Tm)
  | p, .leaf w ss => [(p, .leaf w ss)]
  | p, .one w t => post (p ++ [0]) t ++ [(p, .one w t)]
  | p, .two w s t => post (p ++ [0]) s ++ (post (p ++ [1]) t ++ [(p, .two w s t)])
/-- the first part whose ends do not fit -/
def bT : Tm → Option (List Nat)
  | .leaf _ _ => none
  | .one w t => match bT t with
    | some q => some (0 :: q)
    | none => if fitT ls (.one w t) = true then none else some []
  | .two w s t => match bT s with
    | some q => some (0 :: q)
    | none => match bT t with
      | some q => some (1 :: q)
      | none => if fitT ls (.two w s t) = true then none else some []
def misE (x : List Nat × Tm) : Bool := !fitT ls x.2
end
theorem post_find {ls : List Lt} : ∀ (t : Tm) (p : List Nat), ((post p t).find? (misE ls)).map (·.1) = (bT ls t).map (p ++ ·)
  | .leaf w ss, p => rfl
  | .one w t, p => by
    have e := post_find (ls := ls) t (p ++ [0])
    unfold post bT
    rw [find_app]
    cases z : bT ls t with
    | some q =>
      rw [z] at e
      cases z2 : (post (p ++ [0]) t).find? (misE ls) with
      | none => rw [z2] at e; cases e
      | some y =>
        rw [z2] at e
        simp only [Option.map_some, Option.some.injEq] at e ⊢
        rw [e]
        simp
    | none =>
      rw [z] at e
      cases z2 : (post (p ++ [0]) t).find? (misE ls) with
      | some y => rw [z2] at e; cases e
      | none =>
        dsimp only
        rw [List.find?_cons]
        unfold misE
        cases c : fitT ls (.one w t) <;> simp
  | .two w s t, p => by
    have e := post_find (ls := ls) s (p ++ [0])
    have f := post_find (ls := ls) t (p ++ [1])
    unfold post bT
    rw [find_app]
    cases z : bT ls s with
    | some q =>
      rw [z] at e
      cases z2 : (post (p ++ [0]) s).find? (misE ls) with
      | none => rw [z2] at e; cases e
      | some y =>
        rw [z2] at e
        simp only [Option.map_some, Option.some.injEq] at e ⊢
        rw [e]
        simp
    | none =>
      rw [z] at e
      cases z2 : (post (p ++ [0]) s).find? (misE ls) with
      | some y => rw [z2] at e; cases e
      | none =>
        dsimp only
        rw [find_app]
        cases y : bT ls t with
        | some q =>
          rw [y] at f
          cases y2 : (post (p ++ [1]) t).find? (misE ls) with
          | none => rw [y2] at f; cases f
          | some y3 =>
            rw [y2] at f
            simp only [Option.map_some, Option.some.injEq] at f ⊢
            rw [f]
            simp
        | none =>
          rw [y] at f
          cases y2 : (post (p ++ [1]) t).find? (misE ls) with
          | some y3 => rw [y2] at f; cases f
          | none =>
            dsimp only
            rw [List.find?_cons]
            unfold misE
            cases c : fitT ls (.two w s t) <;> simp
theorem post_first {ls : List Lt} (t : Tm) : ((post [] t).find? (misE ls)).map (·.1) = bT ls t := by
  rw [post_find]
  cases bT ls t <;> rfl
theorem fit_one {ls : List Lt} {w : Str} {t : Tm} : fitT ls (.one w t) = !(decide (w = ("closed" : Str) ∨ w = ("walked" : Str)) && decide ((eL ls t).1 ≠ (eL ls t).2)) := rfl
theorem fit_two {ls : List Lt} {w : Str} {s t : Tm} : fitT ls (.two w s t) = if w = ("then" : Str) then decide ((eL ls s).2 = (eL ls t).1) else decide (eL ls s = eL ls t) := rfl
theorem eL_one {ls : List Lt} {w : Str} {t : Tm} : eL ls (.one w t) = if w = ("turned" : Str) then ((eL ls t).2, (eL ls t).1) else eL ls t := rfl
theorem eL_two {ls : List Lt} {w : Str} {s t : Tm} : eL ls (.two w s t) = if w = ("then" : Str) then ((eL ls s).1, (eL ls t).2) else eL ls s := rfl
theorem eL_leaf {ls : List Lt} {w : Str} {ss : List Str} : eL ls (.leaf w ss) = if w = ("letter" : Str) then (endOf ls (ss.headD "")).2 else (ss.headD "", ss.getLastD "") := rfl
theorem bT_one {ls : List Lt} {w : Str} {t : Tm} : bT ls (.one w t) = match bT ls t with
    | some q => some (0 :: q)
    | none => if fitT ls (.one w t) = true then none else some [] := rfl
theorem bT_two {ls : List Lt} {w : Str} {s t : Tm} : bT ls (.two w s t) = match bT ls s with
    | some q => some (0 :: q)
    | none => match bT ls t with
      | some q => some (1 :: q)
      | none => if fitT ls (.two w s t) = true then none else some [] := rfl
/-- a right term's ends -/
theorem Ty.eL {xs : List Str} {ls : List Lt} (nd : ∀ q ∈ ls, endOf ls q.1 = q) {t : Tm} {x y : Str} (h : Ty xs ls t x y) : eL ls t = (x, y) ∧ bT ls t = Option.none := by
  induction h with
  | letter h =>
    refine ⟨?_, rfl⟩
    rw [eL_leaf]
    rw [if_pos rfl]
    exact congrArg Prod.snd (nd _ h)
  | same h => exact ⟨by rw [eL_leaf]; rw [if_neg (by decide +kernel)]; rfl, rfl⟩
  | other h => exact ⟨by rw [eL_leaf]; rw [if_neg (by decide +kernel)]; rfl, rfl⟩
  | none h g => exact ⟨by rw [eL_leaf]; rw [if_neg (by decide +kernel)]; rfl, rfl⟩
  | all h g => exact ⟨by rw [eL_leaf]; rw [if_neg (by decide +kernel)]; rfl, rfl⟩
  | @rest t' a b _ ih =>
    obtain ⟨e, b⟩ := ih
    have ok : fitT ls (.one "rest" t') = true := by
      rw [fit_one]
      rw [show decide (("rest" : Str) = ("closed" : Str) ∨ ("rest" : Str) = ("walked" : Str)) = false by decide +kernel, Bool.false_and]
      rfl
    exact ⟨by rw [eL_one]; rw [if_neg (by decide +kernel), e], by rw [bT_one]; rw [b]; dsimp only; rw [if_pos ok]⟩
  | @turned t' a b _ ih =>
    obtain ⟨e, b⟩ := ih
    have ok : fitT ls (.one "turned" t') = true := by
      rw [fit_one]
      rw [show decide (("turned" : Str) = ("closed" : Str) ∨ ("turned" : Str) = ("walked" : Str)) = false by decide +kernel, Bool.false_and]
      rfl
    exact ⟨by rw [eL_one]; rw [if_pos rfl, e], by rw [bT_one]; rw [b]; dsimp only; rw [if_pos ok]⟩
  | @closed t' a _ ih =>
    obtain ⟨e, b⟩ := ih
    have ok : fitT ls (.one "closed" t') = true := by
      rw [fit_one]
      rw [e]
      simp
    exact ⟨by rw [eL_one]; rw [if_neg (by decide +kernel), e], by rw [bT_one]; rw [b]; dsimp only; rw [if_pos ok]⟩
  | @walked t' a _ ih =>
    obtain ⟨e, b⟩ := ih
    have ok : fitT ls (.one "walked" t') = true := by
      rw [fit_one]
      rw [e]
      simp
    exact ⟨by rw [eL_one]; rw [if_neg (by decide +kernel), e], by rw [bT_one]; rw [b]; dsimp only; rw [if_pos ok]⟩
  | @joined s' t' a b _ _ i1 i2 =>
    obtain ⟨e1, b1⟩ := i1
    obtain ⟨e2, b2⟩ := i2
    have ok : fitT ls (.two "joined" s' t') = true := by
      rw [fit_two]
      rw [if_neg (by decide +kernel), e1, e2, decide_eq_true rfl]
    exact ⟨by rw [eL_two]; rw [if_neg (by decide +kernel), e1], by rw [bT_two]; rw [b1]; dsimp only; rw [b2]; dsimp only; rw [if_pos ok]⟩
  | @cut s' t' a b _ _ i1 i2 =>
    obtain ⟨e1, b1⟩ := i1
    obtain ⟨e2, b2⟩ := i2
    have ok : fitT ls (.two "cut" s' t') = true := by
      rw [fit_two]
      rw [if_neg (by decide +kernel), e1, e2, decide_eq_true rfl]
    exact ⟨by rw [eL_two]; rw [if_neg (by decide +kernel), e1], by rw [bT_two]; rw [b1]; dsimp only; rw [b2]; dsimp only; rw [if_pos ok]⟩
  | @then_ s' t' a m b _ _ i1 i2 =>
    obtain ⟨e1, b1⟩ := i1
    obtain ⟨e2, b2⟩ := i2
    have ok : fitT ls (.two "then" s' t') = true := by
      rw [fit_two]
      rw [if_pos rfl, e1, e2, decide_eq_true rfl]
    exact ⟨by rw [eL_two]; rw [if_pos rfl, e1, e2], by rw [bT_two]; rw [b1]; dsimp only; rw [b2]; dsimp only; rw [if_pos ok]⟩
end K37

namespace K37
open PySem PySem.Spec PyProof.Rows L2 Ow Xv
/-! ### the parts, each behind its own -/
theorem oneOk_shp {w : Str} (h : OneOk w) : shp w = some (1, 0) := by
  rcases h with rfl | rfl | rfl | rfl <;> decide +kernel
theorem twoOk_shp {w : Str} (h : TwoOk w) : shp w = some (2, 0) := by
  rcases h with rfl | rfl | rfl <;> decide +kernel
theorem leafFm_shp {xs ns : List Str} {w : Str} {ss : List Str} (h : LeafFm xs ns w ss) : ∃ s, shp w = some (0, s) ∧ s ≤ ss.length := by
  rcases h with ⟨rfl, a, rfl, _⟩ | ⟨rfl, a, rfl, _⟩ | ⟨rfl, a, rfl, _⟩ | ⟨rfl, a, b, rfl, _⟩ | ⟨rfl, a, b, rfl, _⟩
  · exact ⟨0, by decide +kernel, Nat.zero_le _⟩
  · exact ⟨1, by decide +kernel, Nat.le_refl _⟩
  · exact ⟨1, by decide +kernel, Nat.le_refl _⟩
  · exact ⟨2, by decide +kernel, Nat.le_refl _⟩
  · exact ⟨2, by decide +kernel, Nat.le_refl _⟩
/-- what stands at the value of a pair -/
def AtT (K : PySem.W.Frag) (H : Hp) (xs ns : List Str) (q : V × Tm) : Prop := (∃ b, q.1 = .ref b ∧ TmAt K H b q.2) ∧ Fmd xs ns q.2
theorem AtT.same {K : PySem.W.Frag} {H H' : Hp} {xs ns : List Str} {q : V × Tm} (s : Same H H') (h : AtT K H xs ns q) : AtT K H' xs ns q := let ⟨⟨b, e, g⟩, f⟩ := h; ⟨⟨b, e, g.same s⟩, f⟩
theorem tm_parts {K : PySem.W.Frag} {H : Hp} {xs ns : List Str} {a : Addr} {t : Tm} (h : TmAt K H a t) (f : Fmd xs ns t) : ∃ (vs : List V) (m s : Nat) (kids : List (V × Tm)), SqT K H a (.str t.hd :: vs) ∧ shp t.hd = some (m, s) ∧ m ≤ vs.length ∧ kids.map (·.1) = vs.take m ∧ kids.map (·.2) = t.kids ∧ ∀ q ∈ kids, AtT K H xs ns q := by
  cases t with
  | leaf w ss =>
    obtain ⟨s, hs, _⟩ := leafFm_shp f
    exact ⟨ss.map V.str, 0, s, [], h, hs, Nat.zero_le _, rfl, rfl, fun q hq => absurd hq List.not_mem_nil⟩
  | one w t =>
    obtain ⟨b, h1, h2⟩ := h
    exact ⟨[.ref b], 1, 0, [(.ref b, t)], h1, oneOk_shp f.1, Nat.le_refl _, rfl, rfl, fun q hq => by rw [List.mem_singleton.mp hq]; exact ⟨⟨b, rfl, h2⟩, f.2⟩⟩
  | two w s t =>
    obtain ⟨b, c, h1, h2, h3⟩ := h
    refine ⟨[.ref b, .ref c], 2, 0, [(.ref b, s), (.ref c, t)], h1, twoOk_shp f.1, Nat.le_refl _, rfl, rfl, fun q hq => ?_⟩
    rcases List.mem_cons.mp hq with z | z
    · rw [z]; exact ⟨⟨b, rfl, h2⟩, f.2.1⟩
    · rw [List.mem_singleton.mp z]; exact ⟨⟨c, rfl, h3⟩, f.2.2⟩
theorem post_kids (p : List Nat) (t : Tm) : (post p t).reverse = (p, t) :: (kp p 0 t.kids).reverse.flatMap fun x => (post x.1 x.2).reverse := by
  cases t with
  | leaf w ss => rfl
  | one w t => simp [post, Tm.kids, kp]
  | two w s t => simp [post, Tm.kids, kp]
theorem post_len : ∀ (t : Tm) (p : List Nat), (post p t).length = t.sz
  | .leaf w ss, p => rfl
  | .one w t, p => by
    have := post_len t (p ++ [0])
    simp only [post, List.length_append, List.length_singleton, this, Tm.sz]
    omega
  | .two w s t, p => by
    have h1 := post_len s (p ++ [0])
    have h2 := post_len t (p ++ [1])
    simp only [post, List.length_append, List.length_singleton, h1, h2, Tm.sz]
    omega
def sndT (u : PaV Tm) : List Nat × Tm := (u.1, u.2.2)
/-- what is still to come of a stack -/
def stkT (us : List (PaV Tm)) : List (List Nat × Tm) := us.reverse.flatMap fun u => (post u.1 u.2.2).reverse
theorem stkT_push {us : List (PaV Tm)} {p : List Nat} {t : Tm} {v : V} {kids : List (V × Tm)} (hk : kids.map (·.2) = t.kids) :
    stkT (us ++ [(p, v, t)]) = (p, t) :: stkT (us ++ kp p 0 kids) := by
  unfold stkT
  rw [List.reverse_append, List.reverse_append]
  show (post p t).reverse ++ _ = _
  rw [post_kids, List.flatMap_append, List.cons_append]
  congr 2
  rw [← hk, ← kp_map (fun q : V × Tm => q.2) kids 0, ← List.map_reverse, List.flatMap_def, List.flatMap_def, List.map_map]
  rfl
theorem stkT_len (us : List (PaV Tm)) : us.length ≤ (stkT us).length := by
  unfold stkT
  rw [← List.length_reverse (as := us)]
  generalize us.reverse = l
  induction l with
  | nil => exact Nat.le_refl _
  | cons x l ih =>
    rw [List.flatMap_cons, List.length_append, List.length_cons, post_kids, List.length_cons]
    omega
abbrev NPI : List Str := ["term", "found", "waiting", "path", "part"]
theorem scPI : FnScope NPI ["term"] (defScope sPartsInnerFirst) := ⟨rfl, rfl, rfl, by decide +kernel, rfl, by decide +kernel, by decide +kernel⟩
def spPI (K : PySem.W.Frag) : Sp := fun vs H Q _ => ∃ (a : Addr) (t : Tm) (xs ns : List Str), vs = [.ref a] ∧ TmAt K H a t ∧ Fmd xs ns t ∧ t.sz ≤ 400 ∧
  ∀ (L : Addr) (rs : List Addr) (us : List (PaV Tm)) (H' : Hp), Same H H' → H' L = some (.lst (rs.map V.ref)) → Prs K H' rs us → us.map sndT = post [] t → (∀ u ∈ us, AtT K H' xs ns u.2 ∧ u.1.length ≤ 400) → Q (.ref L) H'
section
variable {P : Program} {w : World} {K : PySem.W.Frag} {mg : Str → Option Value} {base : Heap} {f : Addr} {fd : FuncData}
theorem ok_pi (F : FnP K "parts_inner_first" sPartsInnerFirst f fd) (Y : Fx w K mg) : FnOk P w K mg base CX0 3 f fd ["term"] (spPI K) := by
  obtain ⟨d1, F1⟩ := Y.dBelow
  have b1 := FunD.bindsN (ps := ["path", "part"]) F1 fun _ _ _ _ _ _ us hl => match us, hl with | [_, _], _ => rfl
  have G1 : FnOk P w K mg base CX0 2 _ d1 ["path", "part"] (spBe Tm K) := ok_be F1 Y
  refine okD F scPI (fun vs H Q E h => ?_) (fun cdv A outer s H vs Q E hr h => ?_)
  · obtain ⟨a, t, xs, ns, rfl, _⟩ := h
    rfl
  · have nd := scPI.nd
    refine ⟨_, pss_cons (ps_set (i := 1) nd rfl (Or.inl rfl) (pe_lst pa_nil))
      (pss_cons (ps_set (i := 2) nd rfl (Or.inl rfl) (pe_lst (pa_cons (pe_tup (pa_cons (pe_tup pa_nil) (pa_cons (pv 0) pa_nil))) pa_nil)))
      (pss_cons (ps_while PassesOwn.never (pt_truth (pv 2) (by intro _; rfl))
        (pss_cons (ps_asg (pe_bm0 PySem.F.plainAttrs_list PySem.F.slot_list_pop PySem.F.type_list_pop mt_pop (pv 2)) (pg_tup rfl (pgs_cons (pg_name (i := 3) nd rfl (Or.inl rfl)) (pgs_cons (pg_name (i := 4) nd rfl (Or.inl rfl)) pgs_nil))))
        (pss_cons (ps_expr (pe_bm PySem.F.plainAttrs_list PySem.F.slot_list_append PySem.F.type_list_append mt_append (pv 1) (pa_cons (pe_tup (pa_cons (pv 3) (pa_cons (pv 4) pa_nil))) pa_nil)))
        (pss_one (ps_expr (pe_bm PySem.F.plainAttrs_list PySem.F.slot_list_extend PySem.F.type_list_extend mt_extend (pv 2) (pa_cons (pe_call G1 hr (by rfl) Y.gBelow F1.kp b1 .nil pass0 (pa_cons (pv 3) (pa_cons (pv 4) pa_nil))) pa_nil)))))))
      (pss_one (ps_ret (pe_rev (pv 1) (pe_un un_neg pe_int)))))), ?_⟩
    obtain ⟨a, t, xs, ns, rfl, ha, fm, z4, k⟩ := h
    refine ⟨szl (by show 0 ≤ 1000; decide), fun Fd hF => ?_⟩
    have s0 := same_upd (o := .lst []) hF
    refine ⟨szl (by show 0 ≤ 1000; decide), fun T0 hT0 => ?_⟩
    have s1 := same_upd (o := .tup []) hT0
    refine ⟨_, rfl, szl (by show 2 ≤ 1000; decide), fun T1 hT1 => ?_⟩
    have s2 := same_upd (o := .tup [V.ref T0, V.ref a]) hT1
    refine ⟨szl (by show 1 ≤ 1000; decide), fun Wt hW => ?_⟩
    have s3 := same_upd (o := .lst [V.ref T1]) hW
    have e3F := s3 _ _ (s2 _ _ (s1 _ _ (upd_same : upd H Fd (.lst []) Fd = _)))
    have e3W := (upd_same : upd (upd (upd (upd H Fd (.lst [])) T0 (.tup [])) T1 (.tup [V.ref T0, V.ref a])) Wt (.lst [V.ref T1]) Wt = _)
    have q3 : SqT K (upd (upd (upd (upd H Fd (.lst [])) T0 (.tup [])) T1 (.tup [V.ref T0, V.ref a])) Wt (.lst [V.ref T1])) T1 [.ref T0, V.ref a] := sqt_same s3 (SqT.of upd_same)
    have q4 : (upd (upd (upd (upd H Fd (.lst [])) T0 (.tup [])) T1 (.tup [V.ref T0, V.ref a])) Wt (.lst [V.ref T1])) T0 = some (.tup (paV [])) := (s2.trans s3) _ _ upd_same
    have s9 := s0.trans (s1.trans (s2.trans s3))
    have hW0 : H Wt = none := none_same (s0.trans (s1.trans s2)) hW
    have nFW : Fd ≠ Wt := fun q => by
      subst q
      have z := (s1.trans s2) _ _ (upd_same : upd H Fd (.lst []) Fd = _)
      rw [hW] at z
      cases z
    obtain ⟨G0, eG⟩ : ∃ Z, Z = upd (upd (upd (upd H Fd (.lst [])) T0 (.tup [])) T1 (.tup [V.ref T0, V.ref a])) Wt (.lst [V.ref T1]) := ⟨_, rfl⟩
    dsimp only [gName]
    change tSeq (tWhile _ _) _ _ [some (.ref a), some (.ref Fd), some (.ref Wt), none, none] (upd (upd (upd (upd H Fd (.lst [])) T0 (.tup [])) T1 (.tup [V.ref T0, V.ref a])) Wt (.lst [V.ref T1]))
    rw [← eG] at e3F e3W q3 q4 s9 ⊢
    clear eG s0 s1 s2 s3 hW hT1 hT0
    refine while_by (fun σ G => ∃ (rs ws : List Addr) (ts us : List (PaV Tm)) (v4 v5 : Option V), σ = [some (.ref a), some (.ref Fd), some (.ref Wt), v4, v5] ∧ G Fd = some (.lst (rs.map V.ref)) ∧ G Wt = some (.lst (ws.map V.ref)) ∧ Prs K G rs ts ∧ Prs K G ws us ∧ (∀ u ∈ ts, AtT K H xs ns u.2 ∧ u.1.length ≤ 400) ∧ (∀ u ∈ us, AtT K H xs ns u.2 ∧ u.1.length ≤ rs.length) ∧
        ts.map sndT ++ stkT us = (post [] t).reverse ∧ Same H G)
      (fun σ G => t.sz - lenAt σ 1 G) ⟨[], [T1], [], [([], .ref a, t)], none, none, rfl, e3F, e3W, .nil, .cons ⟨T0, q3, q4⟩ .nil, fun u hu => absurd hu List.not_mem_nil, fun u hu => by rw [List.mem_singleton.mp hu]; exact ⟨⟨⟨a, rfl, ha⟩, fm⟩, Nat.le_refl _⟩, by simp [stkT], s9⟩ ?_ ?_
    · rintro σ G ⟨rs, ws, ts, us, v4, v5, rfl, eF, eW, P1, P2, hT, hR, hsum, sm⟩
      have l1 := P1.len
      have l2 := P2.len
      have lsum := congrArg List.length hsum
      rw [List.length_append, List.length_reverse, post_len, List.length_map] at lsum
      refine ⟨_, rfl, !(ws.map V.ref).isEmpty, .inl ⟨_, SqL.of eW, rfl⟩, ?_⟩
      rcases List.eq_nil_or_concat ws with rfl | ⟨ws', r, rfl⟩
      · refine iteF ?_
        rw [List.length_eq_zero_iff.mp l2.symm] at hsum
        have e : ts.map sndT = (post [] t).reverse := by rw [← hsum]; simp [stkT]
        refine ⟨_, rfl, _, rfl, rfl, Fd, _, rfl, .inl ⟨SqL.of eF, fun p hp => ?_⟩⟩
        have sp := same_upd (o := .lst (rs.map V.ref).reverse) hp
        refine k p rs.reverse ts.reverse _ (sm.trans sp) (by rw [upd_same, List.map_reverse]) (P1.same sp).rev ?_ fun u hu => ?_
        · rw [List.map_reverse, e, List.reverse_reverse]
        · obtain ⟨m1, m2⟩ := hT u (List.mem_reverse.mp hu)
          exact ⟨m1.same (sm.trans sp), m2⟩
      · rw [List.concat_eq_append] at *
        have ne : (!((ws' ++ [r]).map V.ref).isEmpty) = true := by simp
        rw [ne]
        refine iteT ?_
        obtain ⟨us', ⟨pu, uv, u⟩, rfl, P3, q, h1, h2e⟩ := P2.last
        have h2 : SqT K G q (paV pu) := SqT.of h2e
        obtain ⟨hAu, lpu⟩ := hR (pu, uv, u) (List.mem_append_right _ List.mem_cons_self)
        replace lpu : pu.length ≤ rs.length := lpu
        obtain ⟨⟨ua, eua, htu⟩, fu⟩ := id hAu
        replace eua : uv = .ref ua := eua
        subst eua
        obtain ⟨xsv, m, sn, kids, hq, hs, lm, ek1, ek2, hkid⟩ := tm_parts htu fu
        rw [stkT_push ek2] at hsum lsum
        have lst := stkT_len (us' ++ kp pu 0 kids)
        have lkp : (kp pu 0 kids).length = kids.length := kp_len
        rw [List.length_append] at lst
        rw [List.length_cons] at lsum
        have l9 : rs.length ≤ 399 := by omega
        have ll2 := P3.len
        have hR2 : ∀ y ∈ us' ++ kp pu 0 kids, AtT K H xs ns y.2 ∧ y.1.length ≤ rs.length + 1 := fun y hy => by
          rcases List.mem_append.mp hy with z | z
          · have q := hR y (List.mem_append_left _ z)
            exact ⟨q.1, Nat.le_succ_of_le q.2⟩
          · obtain ⟨m1, m2⟩ := kp_mem z
            exact ⟨hkid _ m1, by omega⟩
        have hT2 : ∀ y ∈ ts ++ [(pu, V.ref ua, u)], AtT K H xs ns y.2 ∧ y.1.length ≤ 400 := fun y hy => by
          rcases List.mem_append.mp hy with z | z
          · exact hT y z
          · rw [List.mem_singleton.mp z]
            exact ⟨hAu, by show pu.length ≤ 400; omega⟩
        have hsum2 : (ts ++ [(pu, V.ref ua, u)]).map sndT ++ stkT (us' ++ kp pu 0 kids) = (post [] t).reverse := by
          rw [← hsum, List.map_append, List.append_assoc]
          rfl
        refine ⟨_, rfl, .inl ⟨rfl, _, SqL.of eW⟩, Wt, _, .ref r, rfl, rfl, eW, by rw [List.map_append, List.length_append, List.map_cons, List.map_nil, List.length_cons, List.length_nil, Nat.add_sub_cancel]; simp, ?_⟩
        rw [List.map_append, List.map_cons, List.map_nil, List.dropLast_concat]
        have smA := same_put (o := .lst (ws'.map V.ref)) hW0 sm
        have eFA : upd G Wt (.lst (ws'.map V.ref)) Fd = some (.lst (rs.map V.ref)) := (upd_ne nFW).trans eF
        have eWA : upd G Wt (.lst (ws'.map V.ref)) Wt = some (.lst (ws'.map V.ref)) := upd_same
        have P1A := P1.put (o := .lst (ws'.map V.ref)) eW
        have P3A := P3.put (o := .lst (ws'.map V.ref)) eW
        have h1A := sqt_put (o := .lst (ws'.map V.ref)) eW h1
        have h2A : upd G Wt (.lst (ws'.map V.ref)) q = some (.tup (paV pu)) := (upd_ne fun z => by subst z; rw [eW] at h2e; cases h2e).trans h2e
        generalize upd G Wt (.lst (ws'.map V.ref)) = GA at smA eFA eWA P1A P3A h1A h2A ⊢
        refine ⟨r, _, rfl, h1A, rfl, _, _, rfl, _, _, rfl, rfl, ?_⟩
        dsimp only
        change tSeq _ _ _ [some (.ref a), some (.ref Fd), some (.ref Wt), some (.ref q), some (.ref ua)] GA
        refine ⟨_, rfl, .inl ⟨rfl, _, SqL.of eFA⟩, _, rfl, _, rfl, szl (by show 2 ≤ 1000; decide), fun T hT' => ?_⟩
        have sT := same_upd (o := .tup [V.ref q, V.ref ua]) hT'
        have eFC := sT _ _ eFA
        refine ⟨Fd, _, _, rfl, rfl, eFC, by rw [List.length_map]; exact small1000 (by omega), ?_⟩
        have nm : rs.map V.ref ++ [V.ref T] = (rs ++ [T]).map V.ref := by rw [List.map_append]; rfl
        rw [nm]
        have prT : Pr K (upd GA T (.tup [V.ref q, V.ref ua])) T (pu, V.ref ua, u) := ⟨q, SqT.of upd_same, sT _ _ h2A⟩
        have P1C := ((P1A.same sT).app (.cons prT .nil)).put (o := .lst ((rs ++ [T]).map V.ref)) eFC
        have P3C := (P3A.same sT).put (o := .lst ((rs ++ [T]).map V.ref)) eFC
        have h2C := sqt_put (K := K) (o := .lst ((rs ++ [T]).map V.ref)) eFC (sqt_same sT (SqT.of h2A))
        have smC := same_put (o := .lst ((rs ++ [T]).map V.ref)) hF (smA.trans sT)
        have eFD : upd (upd GA T (.tup [V.ref q, V.ref ua])) Fd (.lst ((rs ++ [T]).map V.ref)) Fd = some (.lst ((rs ++ [T]).map V.ref)) := upd_same
        have eWD : upd (upd GA T (.tup [V.ref q, V.ref ua])) Fd (.lst ((rs ++ [T]).map V.ref)) Wt = some (.lst (ws'.map V.ref)) := (upd_ne nFW.symm).trans (sT _ _ eWA)
        generalize upd (upd GA T (.tup [V.ref q, V.ref ua])) Fd (.lst ((rs ++ [T]).map V.ref)) = GC at P1C P3C h2C smC eFD eWD ⊢
        refine ⟨_, rfl, .inl ⟨rfl, _, SqL.of eWD⟩, _, rfl, _, rfl, q, ua, pu, u.hd, xsv, m, sn, kids, rfl, h2C, by omega, sqt_same smC hq, hs, lm, ek1, fun L rs2 GD sD hL eL hP => ?_⟩
        have eWE := sD _ _ eWD
        have eFE := sD _ _ eFD
        have lr2 := hP.len
        refine ⟨Wt, L, _, _, rfl, rfl, eWE, eL, szl (by rw [List.length_map, List.length_map]; omega), ?_⟩
        have nm2 : ws'.map V.ref ++ rs2.map V.ref = (ws' ++ rs2).map V.ref := by rw [List.map_append]
        rw [nm2]
        have lr : (rs ++ [T]).length = rs.length + 1 := by rw [List.length_append]; rfl
        have eFF := (upd_ne (o := HO.lst ((ws' ++ rs2).map V.ref)) nFW).trans eFE
        refine ⟨⟨rs ++ [T], ws' ++ rs2, ts ++ [(pu, V.ref ua, u)], us' ++ kp pu 0 kids, _, _, rfl, eFF, upd_same, ?_, ?_, hT2, by rw [lr]; exact hR2, hsum2, same_put hW0 (smC.trans sD)⟩, ?_⟩
        · exact (P1C.same sD).put eWE
        · exact ((P3C.same sD).app hP).put eWE
        · show t.sz - (match upd GD Wt (.lst ((ws' ++ rs2).map V.ref)) Fd with
            | some (HO.lst zs) => zs.length
            | _ => 0) < t.sz - (match G Fd with
            | some (HO.lst zs) => zs.length
            | _ => 0)
          rw [eFF, eF]
          dsimp only
          rw [List.length_map, List.length_map, lr]
          omega
    · rintro σ G Q1 Q2 hq ⟨v, e1, b, e2, z⟩
      exact ⟨v, e1, b, e2, hq _ _ z⟩
end
end K37

namespace K37
open PySem PySem.Spec PyProof.Rows L2 Ow Xv
/-! ### the ends above the ends below -/
def prV (e : Str × Str) : List V := [.str e.1, .str e.2]
theorem end_in {xs : List Str} {ls : List Lt} (ok : FrOk xs ls) {n : Str} (h : n ∈ ls.map (·.1)) : endOf ls n ∈ ls ∧ (endOf ls n).1 = n ∧ (endOf ls n).2.1 ∈ xs ∧ (endOf ls n).2.2 ∈ xs := by
  obtain ⟨a, b⟩ := endOf_ok h
  exact ⟨a, b, ok.ends _ a⟩
theorem eL_in {xs : List Str} {ls : List Lt} (ok : FrOk xs ls) : ∀ {t : Tm}, Fmd xs (ls.map (·.1)) t → (eL ls t).1 ∈ xs ∧ (eL ls t).2 ∈ xs
  | .leaf w ss, h => by
    rw [eL_leaf]
    rcases h with ⟨rfl, a, rfl, m⟩ | ⟨rfl, a, rfl, m⟩ | ⟨rfl, a, rfl, m⟩ | ⟨rfl, a, b, rfl, m, n⟩ | ⟨rfl, a, b, rfl, m, n⟩
    · rw [if_pos rfl]
      obtain ⟨_, _, h1, h2⟩ := end_in ok m
      exact ⟨h1, h2⟩
    · rw [if_neg (by decide +kernel)]; exact ⟨m, m⟩
    · rw [if_neg (by decide +kernel)]; exact ⟨m, m⟩
    · rw [if_neg (by decide +kernel)]; exact ⟨m, n⟩
    · rw [if_neg (by decide +kernel)]; exact ⟨m, n⟩
  | .one w t, h => by
    have := eL_in ok h.2
    rw [eL_one]
    by_cases c : w = ("turned" : Str)
    · rw [if_pos c]; exact ⟨this.2, this.1⟩
    · rw [if_neg c]; exact this
  | .two w s t, h => by
    have h1 := eL_in ok h.2.1
    have h2 := eL_in ok h.2.2
    rw [eL_two]
    by_cases c : w = ("then" : Str)
    · rw [if_pos c]; exact ⟨h1.1, h2.2⟩
    · rw [if_neg c]; exact h1
abbrev NEL : List Str := ["frame", "part", "sorts"]
theorem scEL : FnScope NEL ["frame", "part"] (defScope sEndsOfLeaf) := ⟨rfl, rfl, rfl, by decide +kernel, rfl, by decide +kernel, by decide +kernel⟩
def spEL (K : PySem.W.Frag) : Sp := fun vs H Q _ => ∃ (x a : Addr) (xs : List Str) (ls : List Lt) (wd : Str) (ss : List Str), vs = [.ref x, .ref a] ∧ FrmA K H x xs ls ∧ FrOk xs ls ∧ SqT K H a (.str wd :: ss.map V.str) ∧ LeafFm xs (ls.map (·.1)) wd ss ∧
  ∀ (T : Addr) (H' : Hp), Same H H' → SqT K H' T (prV (eL ls (.leaf wd ss))) → Q (.ref T) H'
abbrev NEO : List Str := ["word", "ends", "first", "second"]
theorem scEO : FnScope NEO ["word", "ends"] (defScope sEndsOfOne) := ⟨rfl, rfl, rfl, by decide +kernel, rfl, by decide +kernel, by decide +kernel⟩
def oneE (w : Str) (p : Str × Str) : Option (Str × Str) := if w = ("turned" : Str) then some (p.2, p.1) else if (w = ("closed" : Str) ∨ w = ("walked" : Str)) ∧ p.1 ≠ p.2 then none else some p
def spEO (K : PySem.W.Frag) : Sp := fun vs H Q _ => ∃ (wd : Str) (e : Addr) (p : Str × Str), vs = [.str wd, .ref e] ∧ SqT K H e (prV p) ∧ (oneE wd p = none → ∀ H', Same H H' → Q .non H') ∧ ∀ q, oneE wd p = some q → ∀ (T : Addr) (H' : Hp), Same H H' → SqT K H' T (prV q) → Q (.ref T) H'
theorem scE2 : FnScope ["word", "ends", "others"] ["word", "ends", "others"] (defScope sEndsOfTwo) := ⟨rfl, rfl, rfl, by decide +kernel, rfl, by decide +kernel, by decide +kernel⟩
def twoE (w : Str) (p q : Str × Str) : Option (Str × Str) := if w = ("then" : Str) then (if p.2 = q.1 then some (p.1, q.2) else none) else if p = q then some p else none
def spE2 (K : PySem.W.Frag) : Sp := fun vs H Q _ => ∃ (wd : Str) (e o : Addr) (p q : Str × Str), vs = [.str wd, .ref e, .ref o] ∧ SqT K H e (prV p) ∧ SqT K H o (prV q) ∧ Wd p.1 ∧ Wd p.2 ∧ Wd q.1 ∧ Wd q.2 ∧
  (twoE wd p q = none → ∀ H', Same H H' → Q .non H') ∧ ∀ r, twoE wd p q = some r → ∀ (T : Addr) (H' : Hp), Same H H' → SqT K H' T (prV r) → Q (.ref T) H'
section
variable {P : Program} {w : World} {K : PySem.W.Frag} {mg : Str → Option Value} {base : Heap} {f : Addr} {fd : FuncData}
theorem ok_el (F : FnP K "_ends_of_leaf" sEndsOfLeaf f fd) (Y : Fx w K mg) : FnOk P w K mg base CX0 4 f fd ["frame", "part"] (spEL K) := by
  obtain ⟨d1, F1⟩ := Y.dFrame_Ends
  obtain ⟨d3, F3⟩ := Y.dSortsTold
  have b1 := FunD.bindsN (ps := ["self", "name"]) F1 fun _ _ _ _ _ _ us hl => match us, hl with | [_, _], _ => rfl
  have b3 := FunD.bindsN (ps := ["part"]) F3 fun _ _ _ _ _ _ us hl => match us, hl with | [_], _ => rfl
  have G1 : FnOk P w K mg base (L2.CX P w) 3 _ d1 ["self", "name"] (spEn K) := ok_en F1 Y
  have G3 : FnOk P w K mg base CX0 1 _ d3 ["part"] (spSTv K) := ok_stv F3 Y
  refine okD F scEL (fun vs H Q E h => ?_) (fun cdv A outer s H vs Q E hr h => ?_)
  · obtain ⟨x, a, xs, ls, wd, ss, rfl, _⟩ := h
    rfl
  · have nd := scEL.nd
    have hr1 : Room 1 _ := hr.mono (by decide)
    refine ⟨_, pss_cons (ps_if (pt_cmpR op_eq (pe_ix ix_tup (pv 1) pe_int (fun _ _ => rfl)) pe_str (nomark _)) (pss_one (ps_ret (pe_meth (pv 0) Y.cFrame Y.mFrame_Ends G1 hr b1 .nil passX (pa_cons (pe_ix ix_tup (pv 1) pe_int (fun _ _ => rfl)) pa_nil)))) pss_nil)
      (pss_cons (ps_set (i := 2) nd rfl (Or.inl rfl) (pe_call G3 hr1 (by rfl) Y.gSortsTold F3.kp b3 .nil pass0 (pa_cons (pv 1) pa_nil)))
      (pss_one (ps_ret (pe_tup (pa_cons (pe_ix ix_tup (pv 2) pe_int (fun _ _ => rfl)) (pa_cons (pe_ix ix_tup (pv 2) (pe_un un_neg pe_int) (fun _ _ => rfl)) pa_nil)))))), ?_⟩
    obtain ⟨x, a, xs, ls, wd, ss, rfl, hF, ok, ha, hl, k⟩ := h
    obtain ⟨tz, hF⟩ := hF
    obtain ⟨dx, f1, f2, f3, f4, hx, _⟩ := id hF
    refine ⟨_, rfl, a, _, 0, _, rfl, rfl, ha, atI_0 _ _, rfl, _, rfl, ite2 (fun hc => ?_) (fun hc => ?_)⟩
    · have ew : wd = ("letter" : Str) := V.str.inj (of_decide_eq_true hc)
      obtain ⟨n, rfl, hn⟩ : ∃ n, ss = [n] ∧ n ∈ ls.map (·.1) := by
        rcases hl with ⟨_, n, e, m⟩ | ⟨e, _⟩ | ⟨e, _⟩ | ⟨e, _⟩ | ⟨e, _⟩
        · exact ⟨n, e, m⟩
        all_goals exact absurd (ew.symm.trans e) (by decide +kernel)
      obtain ⟨h1, h2, _⟩ := end_in ok hn
      refine ⟨_, rfl, x, dx, _, rfl, hx, rfl, _, rfl, a, _, 1, _, rfl, rfl, ha, rfl, x, .str n, .str n, xs, ls, tz, rfl, hF, ok.nl.nd, .str n, fun e => ?_, fun q hq e t ht => ?_⟩
      · rw [isTx_str, decide_eq_true hn] at e
        cases e
      · have en : n = q.1 := V.str.inj e
        refine k t _ (Same.refl _) ?_
        rw [eL_leaf, if_pos ew]
        have e2 : endOf ls n = q := by rw [en]; exact find_nd ok.nl.nd hq
        show SqT K _ t (prV (endOf ls n).2)
        rw [e2]
        exact ht
    · have ew : wd ≠ ("letter" : Str) := fun q => hc (by rw [q]; exact decide_eq_true rfl)
      obtain ⟨s, hs, ls2, ss0⟩ : ∃ s, shp wd = some (0, s) ∧ s = ss.length ∧ ((∃ y, ss = [y]) ∨ ∃ y z, ss = [y, z]) := by
        rcases hl with ⟨e, _⟩ | ⟨rfl, y, rfl, _⟩ | ⟨rfl, y, rfl, _⟩ | ⟨rfl, y, z, rfl, _⟩ | ⟨rfl, y, z, rfl, _⟩
        · exact absurd e ew
        · exact ⟨1, by decide +kernel, rfl, .inl ⟨y, rfl⟩⟩
        · exact ⟨1, by decide +kernel, rfl, .inl ⟨y, rfl⟩⟩
        · exact ⟨2, by decide +kernel, rfl, .inr ⟨y, z, rfl⟩⟩
        · exact ⟨2, by decide +kernel, rfl, .inr ⟨y, z, rfl⟩⟩
      refine ⟨_, rfl, a, wd, ss.map V.str, 0, s, rfl, ha, hs, by rw [List.length_map]; omega, fun T H1 s1 hT => ?_⟩
      rw [List.take_of_length_le (by rw [List.length_map]; omega)] at hT
      rw [eL_leaf, if_neg ew] at k
      rcases ss0 with ⟨y, rfl⟩ | ⟨y, z, rfl⟩
      · exact ⟨_, rfl, T, _, 0, _, rfl, rfl, SqT.of hT, rfl, _, rfl, _, rfl, T, _, -1, _, rfl, rfl, SqT.of hT, rfl, szl (by show 2 ≤ 1000; decide), fun p hp => k p _ (s1.trans (same_upd hp)) (SqT.of upd_same)⟩
      · exact ⟨_, rfl, T, _, 0, _, rfl, rfl, SqT.of hT, rfl, _, rfl, _, rfl, T, _, -1, _, rfl, rfl, SqT.of hT, rfl, szl (by show 2 ≤ 1000; decide), fun p hp => k p _ (s1.trans (same_upd hp)) (SqT.of upd_same)⟩
theorem ok_eo (F : FnP K "_ends_of_one" sEndsOfOne f fd) (Y : Fx w K mg) : FnOk P w K mg base CX0 1 f fd ["word", "ends"] (spEO K) := by
  refine okD F scEO (fun vs H Q E h => ?_) (fun cdv A outer s H vs Q E hr h => ?_)
  · obtain ⟨wd, e, p, rfl, _⟩ := h
    rfl
  · have nd := scEO.nd
    refine ⟨_, pss_cons (ps_asg (pv 1) (pg_tup rfl (pgs_cons (pg_name (i := 2) nd rfl (Or.inl rfl)) (pgs_cons (pg_name (i := 3) nd rfl (Or.inl rfl)) pgs_nil))))
      (pss_cons (ps_if (pt_cmpR op_eq (pv 0) pe_str (nomark _)) (pss_one (ps_ret (pe_tup (pa_cons (pv 3) (pa_cons (pv 2) pa_nil))))) pss_nil)
      (pss_cons (ps_if (pw_and (pt_cmpR op_in_seq (pv 0) (pe_tup (pa_cons pe_str (pa_cons pe_str pa_nil))) (by rfl)) (pw_and1 (pt_cmpR op_ne (pv 2) (pv 3) (nomark _)))).pt (pss_one (ps_ret pe_non)) pss_nil)
      (pss_one (ps_ret (pe_tup (pa_cons (pv 2) (pa_cons (pv 3) pa_nil))))))), ?_⟩
    obtain ⟨wd, e, ⟨a, b⟩, rfl, he, kN, kS⟩ := h
    refine ⟨_, rfl, e, _, rfl, he, rfl, _, _, rfl, _, _, rfl, rfl, ?_⟩
    dsimp only
    refine ⟨_, rfl, rfl, _, rfl, ite2 (fun hc => ?_) (fun hc => ?_)⟩
    · have ew : wd = ("turned" : Str) := V.str.inj (of_decide_eq_true hc)
      refine ⟨_, rfl, _, rfl, szl (by show 2 ≤ 1000; decide), fun T hT => kS (b, a) ?_ T _ (same_upd hT) (SqT.of upd_same)⟩
      unfold oneE
      rw [if_pos ew]
    · have ew : wd ≠ ("turned" : Str) := fun q => hc (by rw [q]; exact decide_eq_true rfl)
      refine ⟨_, rfl, szl (by show 2 ≤ 1000; decide), fun T hT => ?_⟩
      have sT := same_upd (o := .tup [V.str "closed", V.str "walked"]) hT
      refine ⟨T, _, rfl, .inr (SqT.of upd_same), rfl, rfl, _, rfl, ite2 (fun h1 => ?_) (fun h1 => ?_)⟩
      · have cw : wd = ("closed" : Str) ∨ wd = ("walked" : Str) := by
          have z : (decide (V.str "closed" = V.str wd) || (decide (V.str "walked" = V.str wd) || false)) = true := by simpa [inV, eqV] using h1
          rcases Bool.or_eq_true_iff.mp z with z | z
          · exact .inl (V.str.inj (of_decide_eq_true z)).symm
          · rw [Bool.or_false] at z
            exact .inr (V.str.inj (of_decide_eq_true z)).symm
        refine ⟨_, rfl, _, rfl, rfl, _, rfl, ite2 (fun h2 => ?_) (fun h2 => ?_)⟩
        · have n2 : a ≠ b := by
            have z : (!decide (V.str a = V.str b)) = true := h2
            intro q
            rw [q] at z
            simp at z
          refine kN ?_ _ sT
          unfold oneE
          rw [if_neg ew, if_pos ⟨cw, n2⟩]
        · have n2 : a = b := by
            have z : ¬ (!decide (V.str a = V.str b)) = true := h2
            simpa using z
          refine ⟨_, rfl, _, rfl, szl (by show 2 ≤ 1000; decide), fun T2 hT2 => kS (a, b) ?_ T2 _ (sT.trans (same_upd hT2)) (SqT.of upd_same)⟩
          unfold oneE
          rw [if_neg ew, if_neg (fun z => z.2 n2)]
      · have nw : ¬ (wd = ("closed" : Str) ∨ wd = ("walked" : Str)) := by
          intro q
          apply h1
          rcases q with rfl | rfl <;> decide +kernel
        refine ⟨_, rfl, _, rfl, szl (by show 2 ≤ 1000; decide), fun T2 hT2 => kS (a, b) ?_ T2 _ (sT.trans (same_upd hT2)) (SqT.of upd_same)⟩
        unfold oneE
        rw [if_neg ew, if_neg (fun z => nw z.1)]
end
end K37

namespace K37
open PySem PySem.Spec PyProof.Rows L2 Ow Xv
theorem scEA : FnScope ["frame", "part", "below"] ["frame", "part", "below"] (defScope sEndsAbove) := ⟨rfl, rfl, rfl, by decide +kernel, rfl, by decide +kernel, by decide +kernel⟩
/-- the tuples of these ends -/
inductive Ens (K : PySem.W.Frag) (H : Hp) : List Addr → List (Str × Str) → Prop
  | nil : Ens K H [] []
  | cons {a : Addr} {p : Str × Str} {as : List Addr} {ps : List (Str × Str)} : SqT K H a (prV p) → Ens K H as ps → Ens K H (a :: as) (p :: ps)
theorem Ens.same {K : PySem.W.Frag} {H H' : Hp} (s : Same H H') : ∀ {as : List Addr} {ps : List (Str × Str)}, Ens K H as ps → Ens K H' as ps
  | _, _, .nil => .nil
  | _, _, .cons h g => .cons (sqt_same s h) (g.same s)
theorem Ens.put {K : PySem.W.Frag} {H : Hp} {D : Addr} {l : List V} {o : HO} (e : H D = some (.lst l)) : ∀ {as : List Addr} {ps : List (Str × Str)}, Ens K H as ps → Ens K (upd H D o) as ps
  | _, _, .nil => .nil
  | _, _, .cons h g => .cons (sqt_put e h) (g.put e)
theorem Ens.app {K : PySem.W.Frag} {H : Hp} : ∀ {as bs : List Addr} {ps qs : List (Str × Str)}, Ens K H as ps → Ens K H bs qs → Ens K H (as ++ bs) (ps ++ qs)
  | _, _, _, _, .nil, g => g
  | _, _, _, _, .cons h r, g => .cons h (r.app g)
theorem Ens.len {K : PySem.W.Frag} {H : Hp} : ∀ {as : List Addr} {ps : List (Str × Str)}, Ens K H as ps → as.length = ps.length
  | _, _, .nil => rfl
  | _, _, .cons _ g => congrArg Nat.succ g.len
def spEA (K : PySem.W.Frag) : Sp := fun vs H Q _ => ∃ (x a L : Addr) (xs : List Str) (ls : List Lt) (t : Tm) (es : List Addr), vs = [.ref x, .ref a, .ref L] ∧ FrmA K H x xs ls ∧ FrOk xs ls ∧ TmAt K H a t ∧ Fmd xs (ls.map (·.1)) t ∧ SqL K H L (es.map V.ref) ∧ Ens K H es (t.kids.map (eL ls)) ∧
  (fitT ls t = false → ∀ H', Same H H' → Q .non H') ∧ (fitT ls t = true → ∀ (T : Addr) (H' : Hp), Same H H' → SqT K H' T (prV (eL ls t)) → Q (.ref T) H')
section
variable {P : Program} {w : World} {K : PySem.W.Frag} {mg : Str → Option Value} {base : Heap} {f : Addr} {fd : FuncData}
theorem ok_e2 (F : FnP K "_ends_of_two" sEndsOfTwo f fd) (Y : Fx w K mg) : FnOk P w K mg base CX0 1 f fd ["word", "ends", "others"] (spE2 K) := by
  refine okD F scE2 (fun vs H Q E h => ?_) (fun cdv A outer s H vs Q E hr h => ?_)
  · obtain ⟨wd, e, o, p, q, rfl, _⟩ := h
    rfl
  · have nd := scE2.nd
    have hu64 := hu64_of hr
    refine ⟨_, pss_cons (ps_if (pt_cmpR op_eq (pv 0) pe_str (nomark _)) (pss_one (ps_ret (pe_ifExp (pt_cmpR op_eq (pe_ix ix_tup (pv 1) pe_int (fun _ _ => rfl)) (pe_ix ix_tup (pv 2) pe_int (fun _ _ => rfl)) (nomark _))
        (pe_tup (pa_cons (pe_ix ix_tup (pv 1) pe_int (fun _ _ => rfl)) (pa_cons (pe_ix ix_tup (pv 2) pe_int (fun _ _ => rfl)) pa_nil))) pe_non))) pss_nil)
      (pss_one (ps_ret (pe_ifExp (pt_cmpR (op_eqD hu64) (pv 1) (pv 2) (nomark _)) (pv 1) pe_non))), ?_⟩
    obtain ⟨wd, e, o, ⟨a, b⟩, ⟨c, d⟩, rfl, he, ho, w1, w2, w3, w4, kN, kS⟩ := h
    refine ⟨_, rfl, rfl, _, rfl, ite2 (fun hc => ?_) (fun hc => ?_)⟩
    · have ew : wd = ("then" : Str) := V.str.inj (of_decide_eq_true hc)
      refine ⟨_, rfl, e, _, 1, _, rfl, rfl, he, rfl, _, rfl, o, _, 0, _, rfl, rfl, ho, rfl, rfl, _, rfl, ite2 (fun h1 => ?_) (fun h1 => ?_)⟩
      · have eb : b = c := V.str.inj (of_decide_eq_true h1)
        refine ⟨_, rfl, e, _, 0, _, rfl, rfl, he, rfl, _, rfl, o, _, 1, _, rfl, rfl, ho, rfl, szl (by show 2 ≤ 1000; decide), fun T hT => kS (a, d) ?_ T _ (same_upd hT) (SqT.of upd_same)⟩
        unfold twoE
        rw [if_pos ew, if_pos eb]
      · have eb : b ≠ c := fun q => h1 (by show decide (V.str b = V.str c) = true; rw [q]; exact decide_eq_true rfl)
        refine kN ?_ _ (Same.refl _)
        unfold twoE
        rw [if_pos ew, if_neg eb]
    · have ew : wd ≠ ("then" : Str) := fun q => hc (by rw [q]; exact decide_eq_true rfl)
      refine ⟨_, rfl, _, rfl, eq_ends w1 w2 w3 w4 he ho ⟨_, rfl, ite2 (fun h1 => ?_) (fun h1 => ?_)⟩⟩
      · have eq : ((a, b) : Str × Str) = (c, d) := by
          have z : a = c ∧ b = d := of_decide_eq_true h1
          rw [z.1, z.2]
        refine ⟨_, rfl, kS (a, b) ?_ e _ (Same.refl _) he⟩
        unfold twoE
        rw [if_neg ew, if_pos eq]
      · have eq : ((a, b) : Str × Str) ≠ (c, d) := fun q => h1 (by
          injection q with q1 q2
          exact decide_eq_true ⟨q1, q2⟩)
        refine kN ?_ _ (Same.refl _)
        unfold twoE
        rw [if_neg ew, if_neg eq]
theorem ok_ea (F : FnP K "ends_above" sEndsAbove f fd) (Y : Fx w K mg) : FnOk P w K mg base CX0 5 f fd ["frame", "part", "below"] (spEA K) := by
  obtain ⟨d1, F1⟩ := Y.dEndsOfTwo
  obtain ⟨d2, F2⟩ := Y.dEndsOfOne
  obtain ⟨d3, F3⟩ := Y.dEndsOfLeaf
  have b1 := FunD.bindsN (ps := ["word", "ends", "others"]) F1 fun _ _ _ _ _ _ us hl => match us, hl with | [_, _, _], _ => rfl
  have b2 := FunD.bindsN (ps := ["word", "ends"]) F2 fun _ _ _ _ _ _ us hl => match us, hl with | [_, _], _ => rfl
  have b3 := FunD.bindsN (ps := ["frame", "part"]) F3 fun _ _ _ _ _ _ us hl => match us, hl with | [_, _], _ => rfl
  have G1 : FnOk P w K mg base CX0 1 _ d1 ["word", "ends", "others"] (spE2 K) := ok_e2 F1 Y
  have G2 : FnOk P w K mg base CX0 1 _ d2 ["word", "ends"] (spEO K) := ok_eo F2 Y
  have G3 : FnOk P w K mg base CX0 4 _ d3 ["frame", "part"] (spEL K) := ok_el F3 Y
  refine okD F scEA (fun vs H Q E h => ?_) (fun cdv A outer s H vs Q E hr h => ?_)
  · obtain ⟨x, a, L, xs, ls, t, es, rfl, _⟩ := h
    rfl
  · have nd := scEA.nd
    have hr1 : Room 1 _ := hr.mono (by decide)
    refine ⟨_, pss_cons (ps_if (pt_cmpR op_eq (pe_callB call_len_seq (by rfl) Y.bLen PySem.boot_len (pa_cons (pv 2) pa_nil)) pe_int (nomark _)) (pss_one (ps_ret (pe_call G1 hr1 (by rfl) Y.gEndsOfTwo F1.kp b1 .nil pass0 (pa_cons (pe_ix ix_tup (pv 1) pe_int (fun _ _ => rfl)) (pa_cons (pe_ix ix_list (pv 2) pe_int (fun _ _ => rfl)) (pa_cons (pe_ix ix_list (pv 2) pe_int (fun _ _ => rfl)) pa_nil)))))) pss_nil)
      (pss_cons (ps_if (pt_cmpR op_eq (pe_callB call_len_seq (by rfl) Y.bLen PySem.boot_len (pa_cons (pv 2) pa_nil)) pe_int (nomark _)) (pss_one (ps_ret (pe_call G2 hr1 (by rfl) Y.gEndsOfOne F2.kp b2 .nil pass0 (pa_cons (pe_ix ix_tup (pv 1) pe_int (fun _ _ => rfl)) (pa_cons (pe_ix ix_list (pv 2) pe_int (fun _ _ => rfl)) pa_nil))))) pss_nil)
      (pss_one (ps_ret (pe_call G3 hr (by rfl) Y.gEndsOfLeaf F3.kp b3 .nil pass0 (pa_cons (pv 0) (pa_cons (pv 1) pa_nil)))))), ?_⟩
    obtain ⟨x, a, L, xs, ls, t, es, rfl, hF, ok, ha, fm, hL, hE, kN, kS⟩ := h
    have le := hE.len
    rw [List.length_map] at le
    refine ⟨_, rfl, L, _, rfl, .inl hL, rfl, _, rfl, ite2 (fun hc => ?_) (fun hc => ?_)⟩
    · have l2 : es.length = 2 := by
        have z := V.int.inj (of_decide_eq_true hc)
        rw [List.length_map] at z
        omega
      cases t with
      | leaf wd ss => rw [l2] at le; cases le
      | one wd t => rw [l2] at le; cases le
      | two wd s t =>
      obtain ⟨b, c, h1, h2, h3⟩ := ha
      obtain ⟨ok2, f1, f2⟩ := fm
      cases hE with
      | @cons e _ es _ he1 hE =>
      cases hE with
      | @cons o _ es _ he2 hE =>
      cases hE
      have i1 := eL_in ok f1
      have i2 := eL_in ok f2
      refine ⟨_, rfl, a, _, 0, _, rfl, rfl, h1, rfl, _, rfl, L, _, 0, _, rfl, rfl, hL, rfl, _, rfl, L, _, 1, _, rfl, rfl, hL, rfl, wd, e, o, _, _, rfl, he1, he2, ok.nx.w _ i1.1, ok.nx.w _ i1.2, ok.nx.w _ i2.1, ok.nx.w _ i2.2, fun en H' s' => kN ?_ H' s', fun r er T H' s' hT => ?_⟩
      · rw [fit_two]
        unfold twoE at en
        by_cases cw : wd = ("then" : Str)
        · rw [if_pos cw] at en ⊢
          by_cases ce : (eL ls s).2 = (eL ls t).1
          · rw [if_pos ce] at en; cases en
          · exact decide_eq_false ce
        · rw [if_neg cw] at en ⊢
          by_cases ce : eL ls s = eL ls t
          · rw [if_pos ce] at en; cases en
          · exact decide_eq_false ce
      · unfold twoE at er
        by_cases cw : wd = ("then" : Str)
        · rw [if_pos cw] at er
          by_cases ce : (eL ls s).2 = (eL ls t).1
          · rw [if_pos ce] at er
            cases er
            refine kS (by rw [fit_two, if_pos cw]; exact decide_eq_true ce) T H' s' ?_
            rw [eL_two, if_pos cw]
            exact hT
          · rw [if_neg ce] at er; cases er
        · rw [if_neg cw] at er
          by_cases ce : eL ls s = eL ls t
          · rw [if_pos ce] at er
            cases er
            refine kS (by rw [fit_two, if_neg cw]; exact decide_eq_true ce) T H' s' ?_
            rw [eL_two, if_neg cw]
            exact hT
          · rw [if_neg ce] at er; cases er
    · have l2 : es.length ≠ 2 := fun q => hc (by
        show decide (V.int ((es.map V.ref).length : Int) = V.int 2) = true
        rw [List.length_map, q]
        rfl)
      refine ⟨_, rfl, L, _, rfl, .inl hL, rfl, _, rfl, ite2 (fun hd => ?_) (fun hd => ?_)⟩
      · have l1 : es.length = 1 := by
          have z := V.int.inj (of_decide_eq_true hd)
          rw [List.length_map] at z
          omega
        cases t with
        | leaf wd ss => rw [l1] at le; cases le
        | two wd s t => rw [l1] at le; cases le
        | one wd t =>
        obtain ⟨b, h1, h2⟩ := ha
        obtain ⟨ok2, f1⟩ := fm
        cases hE with
        | @cons e _ es _ he1 hE =>
        cases hE
        have key : oneE wd (eL ls t) = if fitT ls (.one wd t) = true then some (eL ls (.one wd t)) else none := by
          rw [fit_one, eL_one]
          unfold oneE
          by_cases cw : wd = ("turned" : Str)
          · rw [if_pos cw, if_pos cw, cw]
            rw [show decide (("turned" : Str) = ("closed" : Str) ∨ ("turned" : Str) = ("walked" : Str)) = false by decide +kernel]
            rfl
          · rw [if_neg cw, if_neg cw]
            by_cases c1 : wd = ("closed" : Str) ∨ wd = ("walked" : Str)
            · by_cases c2 : (eL ls t).1 ≠ (eL ls t).2
              · rw [if_pos ⟨c1, c2⟩, decide_eq_true c1, decide_eq_true c2]; rfl
              · rw [if_neg (fun z => c2 z.2), decide_eq_true c1, decide_eq_false c2]; rfl
            · rw [if_neg (fun z => c1 z.1), decide_eq_false c1]; rfl
        refine ⟨_, rfl, a, _, 0, _, rfl, rfl, h1, rfl, _, rfl, L, _, 0, _, rfl, rfl, hL, rfl, wd, e, _, rfl, he1, fun en H' s' => ?_, fun r er T H' s' hT => ?_⟩
        · rw [key] at en
          cases cf : fitT ls (.one wd t) with
          | false => exact kN cf H' s'
          | true => rw [cf, if_pos rfl] at en; cases en
        · rw [key] at er
          cases cf : fitT ls (.one wd t) with
          | false => rw [cf, if_neg Bool.false_ne_true] at er; cases er
          | true =>
            rw [cf, if_pos rfl] at er
            cases er
            exact kS cf T H' s' hT
      · have l1 : es.length ≠ 1 := fun q => hd (by
          show decide (V.int ((es.map V.ref).length : Int) = V.int 1) = true
          rw [List.length_map, q]
          rfl)
        cases t with
        | one wd t => exact absurd le l1
        | two wd s t => exact absurd le l2
        | leaf wd ss => exact ⟨_, rfl, _, rfl, x, a, xs, ls, wd, ss, rfl, hF, ok, ha, fm, fun T H' s' hT => kS rfl T H' s' hT⟩
end
end K37

namespace K37
open PySem PySem.Spec PyProof.Rows L2 Ow Xv
/-! ### what the order of the ends gives -/
def subT : Tm → List Nat → Option Tm
  | t, [] => some t
  | .one _ t, 0 :: r => subT t r
  | .two _ s _, 0 :: r => subT s r
  | .two _ _ t, 1 :: r => subT t r
  | _, _ => none
theorem post_sub : ∀ (t : Tm) (p q : List Nat) (u : Tm), (q, u) ∈ post p t → ∃ r, q = p ++ r ∧ subT t r = some u
  | .leaf w ss, p, q, u, h => by
    have z := List.mem_singleton.mp h
    cases z
    exact ⟨[], by simp, by simp [subT]⟩
  | .one w t, p, q, u, h => by
    rcases List.mem_append.mp h with z | z
    · obtain ⟨r, e1, e2⟩ := post_sub t (p ++ [0]) q u z
      exact ⟨0 :: r, by rw [e1, List.append_assoc]; rfl, by simpa [subT] using e2⟩
    · have z := List.mem_singleton.mp z
      cases z
      exact ⟨[], by simp, by simp [subT]⟩
  | .two w s t, p, q, u, h => by
    rcases List.mem_append.mp h with z | z
    · obtain ⟨r, e1, e2⟩ := post_sub s (p ++ [0]) q u z
      exact ⟨0 :: r, by rw [e1, List.append_assoc]; rfl, by simpa [subT] using e2⟩
    · rcases List.mem_append.mp z with z | z
      · obtain ⟨r, e1, e2⟩ := post_sub t (p ++ [1]) q u z
        exact ⟨1 :: r, by rw [e1, List.append_assoc]; rfl, by simpa [subT] using e2⟩
      · have z := List.mem_singleton.mp z
        cases z
        exact ⟨[], by simp, by simp [subT]⟩
theorem post_inj {t : Tm} {q : List Nat} {u u' : Tm} (h : (q, u) ∈ post [] t) (h' : (q, u') ∈ post [] t) : u = u' := by
  obtain ⟨r, e1, e2⟩ := post_sub t [] q u h
  obtain ⟨r', e1', e2'⟩ := post_sub t [] q u' h'
  have : r = r' := by rw [List.nil_append] at e1 e1'; rw [← e1, ← e1']
  rw [this, e2'] at e2
  exact (Option.some.inj e2).symm
theorem post_root : ∀ (t : Tm) (p : List Nat), (p, t) ∈ post p t
  | .leaf w ss, p => List.mem_singleton.mpr rfl
  | .one w t, p => List.mem_append_right _ (List.mem_singleton.mpr rfl)
  | .two w s t, p => List.mem_append_right _ (List.mem_append_right _ (List.mem_singleton.mpr rfl))
theorem take_app_mem {α : Type} {l m : List α} {i : Nat} {x : α} (h : x ∈ l.take i) : x ∈ (l ++ m).take i := by
  rw [List.take_append]
  exact List.mem_append_left _ h
theorem take_app_mem2 {α : Type} {l m : List α} {i : Nat} {x : α} (h : x ∈ m.take i) : x ∈ (l ++ m).take (l.length + i) := by
  rw [List.take_append]
  refine List.mem_append_right _ ?_
  rw [Nat.add_sub_cancel_left]
  exact h
theorem take_app_all {α : Type} {l m : List α} {i : Nat} {x : α} (h : x ∈ l) : x ∈ (l ++ m).take (l.length + i) := by
  rw [List.take_append]
  refine List.mem_append_left _ ?_
  rw [List.take_of_length_le (by omega)]
  exact h
/-- each part's own parts stand before it -/
theorem post_before : ∀ (t : Tm) (p : List Nat) (i : Nat) (q : List Nat) (u : Tm), (post p t)[i]? = some (q, u) → ∀ (j : Nat) (k : Tm), u.kids[j]? = some k → (q ++ [j], k) ∈ (post p t).take i
  | .leaf w ss, p, i, q, u, h, j, k, hk => by
    have m := List.mem_of_getElem? h
    have z := List.mem_singleton.mp m
    cases z
    cases hk
  | .one w t, p, i, q, u, h, j, k, hk => by
    unfold post at h ⊢
    by_cases l : i < (post (p ++ [0]) t).length
    · rw [List.getElem?_append_left l] at h
      exact take_app_mem (post_before t (p ++ [0]) i q u h j k hk)
    · rw [List.getElem?_append_right (by omega)] at h
      have z := List.mem_singleton.mp (List.mem_of_getElem? h)
      cases z
      have e : i = (post (p ++ [0]) t).length + (i - (post (p ++ [0]) t).length) := by omega
      rw [e]
      refine take_app_all ?_
      cases j with
      | zero =>
        have : t = k := by simpa [Tm.kids] using hk
        rw [← this]
        exact post_root t _
      | succ j => simp [Tm.kids] at hk
  | .two w s t, p, i, q, u, h, j, k, hk => by
    unfold post at h ⊢
    by_cases l : i < (post (p ++ [0]) s).length
    · rw [List.getElem?_append_left l] at h
      exact take_app_mem (post_before s (p ++ [0]) i q u h j k hk)
    · rw [List.getElem?_append_right (by omega)] at h
      obtain ⟨i', ei⟩ : ∃ i', i = (post (p ++ [0]) s).length + i' := ⟨i - (post (p ++ [0]) s).length, by omega⟩
      subst ei
      rw [Nat.add_sub_cancel_left] at h
      by_cases l2 : i' < (post (p ++ [1]) t).length
      · rw [List.getElem?_append_left l2] at h
        exact take_app_mem2 (take_app_mem (post_before t (p ++ [1]) i' q u h j k hk))
      · rw [List.getElem?_append_right (by omega)] at h
        have z := List.mem_singleton.mp (List.mem_of_getElem? h)
        cases z
        match j, hk with
        | 0, hk =>
          have : s = k := by simpa [Tm.kids] using hk
          rw [← this]
          exact take_app_all (post_root s _)
        | 1, hk =>
          have : t = k := by simpa [Tm.kids] using hk
          rw [← this]
          refine take_app_mem2 ?_
          have e : i' = (post (p ++ [1]) t).length + (i' - (post (p ++ [1]) t).length) := by omega
          rw [e]
          exact take_app_all (post_root t _)
        | j + 2, hk => simp [Tm.kids] at hk
theorem find_at {α : Type} {f : α → Bool} : ∀ {l : List α} {i : Nat} {a : α}, l[i]? = some a → f a = true → (∀ b ∈ l.take i, f b = false) → l.find? f = some a
  | x :: l, 0, a, h, fa, _ => by
    obtain rfl : x = a := by simpa using h
    rw [List.find?_cons, fa]
  | x :: l, i + 1, a, h, fa, hb => by
    have fx := hb x (by rw [List.take_succ_cons]; exact List.mem_cons_self)
    rw [List.find?_cons, fx]
    exact find_at (i := i) (by simpa using h) fa fun b m => hb b (by rw [List.take_succ_cons]; exact List.mem_cons_of_mem _ m)
theorem form_dat {xs ns : List Str} : ∀ {t : Tm}, Fmd xs ns t → formD xs ns (dat t) = true ∧ kidsD (dat t) = t.kids.map dat
  | .leaf w ss, h => by
    rcases h with ⟨rfl, a, rfl, m⟩ | ⟨rfl, a, rfl, m⟩ | ⟨rfl, a, rfl, m⟩ | ⟨rfl, a, b, rfl, m, n⟩ | ⟨rfl, a, b, rfl, m, n⟩
    · refine ⟨?_, ?_⟩
      · show formW xs ns "letter" [.str a] = true
        unfold formW
        rw [if_pos rfl]
        simp [inT, m]
      · show (match shp "letter" with
          | some (p, _) => [PyData.str a].take p
          | none => []) = _
        rw [show shp "letter" = some (0, 0) by decide +kernel]
        rfl
    · refine ⟨?_, ?_⟩
      · show formW xs ns "same" [.str a] = true
        unfold formW
        rw [if_neg (by decide +kernel), show shp "same" = some (0, 1) by decide +kernel]
        simp [inT, m]
      · show (match shp "same" with
          | some (p, _) => [PyData.str a].take p
          | none => []) = _
        rw [show shp "same" = some (0, 1) by decide +kernel]
        rfl
    · refine ⟨?_, ?_⟩
      · show formW xs ns "other" [.str a] = true
        unfold formW
        rw [if_neg (by decide +kernel), show shp "other" = some (0, 1) by decide +kernel]
        simp [inT, m]
      · show (match shp "other" with
          | some (p, _) => [PyData.str a].take p
          | none => []) = _
        rw [show shp "other" = some (0, 1) by decide +kernel]
        rfl
    · refine ⟨?_, ?_⟩
      · show formW xs ns "none" [.str a, .str b] = true
        unfold formW
        rw [if_neg (by decide +kernel), show shp "none" = some (0, 2) by decide +kernel]
        simp [inT, m, n]
      · show (match shp "none" with
          | some (p, _) => [PyData.str a, PyData.str b].take p
          | none => []) = _
        rw [show shp "none" = some (0, 2) by decide +kernel]
        rfl
    · refine ⟨?_, ?_⟩
      · show formW xs ns "all" [.str a, .str b] = true
        unfold formW
        rw [if_neg (by decide +kernel), show shp "all" = some (0, 2) by decide +kernel]
        simp [inT, m, n]
      · show (match shp "all" with
          | some (p, _) => [PyData.str a, PyData.str b].take p
          | none => []) = _
        rw [show shp "all" = some (0, 2) by decide +kernel]
        rfl
  | .one w t, h => by
    have hs := oneOk_shp h.1
    have n : w ≠ ("letter" : Str) := fun q => by rw [q] at hs; exact absurd hs (by decide +kernel)
    refine ⟨?_, ?_⟩
    · show formW xs ns w [dat t] = true
      unfold formW
      rw [if_neg n, hs]
      rfl
    · show (match shp w with
        | some (p, _) => [dat t].take p
        | none => []) = _
      rw [hs]
      rfl
  | .two w s t, h => by
    have hs := twoOk_shp h.1
    have n : w ≠ ("letter" : Str) := fun q => by rw [q] at hs; exact absurd hs (by decide +kernel)
    refine ⟨?_, ?_⟩
    · show formW xs ns w [dat s, dat t] = true
      unfold formW
      rw [if_neg n, hs]
      rfl
    · show (match shp w with
        | some (p, _) => [dat s, dat t].take p
        | none => []) = _
      rw [hs]
      rfl
theorem pre_dat {xs ns : List Str} : ∀ {t : Tm} (p : List Nat), Fmd xs ns t → (preD xs ns p (dat t)).length = t.sz
  | .leaf w ss, p, h => by
    obtain ⟨a, b⟩ := form_dat h
    rw [preD_eq, if_pos a, b]
    rfl
  | .one w t, p, h => by
    obtain ⟨a, b⟩ := form_dat h
    rw [preD_eq, if_pos a, b]
    have e := pre_dat (p ++ [0]) h.2
    simp only [Tm.kids, List.map_cons, List.map_nil, kp, List.flatMap_cons, List.flatMap_nil, List.append_nil, List.length_cons, e, Tm.sz]
    omega
  | .two w s t, p, h => by
    obtain ⟨a, b⟩ := form_dat h
    rw [preD_eq, if_pos a, b]
    have e := pre_dat (p ++ [0]) h.2.1
    have e2 := pre_dat (p ++ [1]) h.2.2
    simp only [Tm.kids, List.map_cons, List.map_nil, kp, List.flatMap_cons, List.flatMap_nil, List.append_nil, List.length_cons, List.length_append, Nat.zero_add, e, e2, Tm.sz]
    omega
end K37

namespace K37
open PySem PySem.Spec PyProof.Rows L2 Ow Xv
/-! ### the ends of a term -/
section
variable {K : PySem.W.Frag} {H : Hp} {D : Addr} {l : List (List Key × V)}
theorem sqt_del {t : Addr} {xs : List V} (e : H D = some (.dT l)) (h : SqT K H t xs) : SqT K (del H D) t xs := by
  have one : ∀ {u : HO}, H t = some u → (∀ l, u ≠ .dT l) → del H D t = some u := fun {u} z n => (del_ne (fun q => by
    subst q
    rw [e] at z
    cases z
    exact n l rfl)).trans z
  exact h.elim (fun h => .inl (h.elim (fun h => .inl (one h fun _ z => nomatch z)) fun ⟨o, h⟩ => .inr ⟨o, one h fun _ z => nomatch z⟩)) fun h => .inr h
theorem sqt_putT {t : Addr} {xs : List V} {o : HO} (e : H D = some (.dT l)) (h : SqT K H t xs) : SqT K (upd H D o) t xs := by
  have one : ∀ {u : HO}, H t = some u → (∀ l, u ≠ .dT l) → upd H D o t = some u := fun {u} z n => (upd_ne (fun q => by
    subst q
    rw [e] at z
    cases z
    exact n l rfl)).trans z
  exact h.elim (fun h => .inl (h.elim (fun h => .inl (one h fun _ z => nomatch z)) fun ⟨o, h⟩ => .inr ⟨o, one h fun _ z => nomatch z⟩)) fun h => .inr h
theorem TmAt.del (e : H D = some (.dT l)) : ∀ {t : Tm} {a : Addr}, TmAt K H a t → TmAt K (del H D) a t
  | .leaf _ _, _, h => sqt_del e h
  | .one _ _, _, ⟨b, h, g⟩ => ⟨b, sqt_del e h, g.del e⟩
  | .two _ _ _, _, ⟨b, c, h, g, g2⟩ => ⟨b, c, sqt_del e h, g.del e, g2.del e⟩
theorem Prs.del {α : Type} (e : H D = some (.dT l)) : ∀ {as : List Addr} {ts : List (PaV α)}, Prs K H as ts → Prs K (del H D) as ts
  | _, _, .nil => .nil
  | _, _, .cons ⟨q, a, b⟩ g => .cons ⟨q, sqt_del e a, (del_ne fun z => by subst z; rw [e] at b; cases b).trans b⟩ (g.del e)
theorem AtT.del {xs ns : List Str} {q : V × Tm} (e : H D = some (.dT l)) (h : AtT K H xs ns q) : AtT K (del H D) xs ns q := let ⟨⟨b, e1, g⟩, f⟩ := h; ⟨⟨b, e1, g.del e⟩, f⟩
theorem del_sub : Same (del H D) H := fun b o e => by
  by_cases z : b = D
  · rw [z, del_same] at e; cases e
  · rwa [del_ne z] at e
theorem same_del {H0 : Hp} (h : H0 D = none) (s : Same H0 H) : Same H0 (del H D) := fun b o e => (del_ne (fun z => by subst z; rw [h] at e; cases e)).trans (s b o e)
end
def keyP (p : List Nat) : List Key := p.map fun n : Nat => (Sum.inl (n : Int) : Key)
theorem keyP_V (p : List Nat) : (keyP p).map kV = paV p := by
  unfold keyP paV
  rw [List.map_map]
  rfl
theorem keyP_inj {p q : List Nat} (h : keyP p = keyP q) : p = q := by
  have : ∀ {p q : List Nat}, keyP p = keyP q → p = q := fun {p} => by
    induction p with
    | nil => intro q h; cases q with
      | nil => rfl
      | cons b q => cases h
    | cons a p ih =>
      intro q h
      cases q with
      | nil => cases h
      | cons b q =>
        have h' : (Sum.inl (a : Int) : Key) :: keyP p = (Sum.inl (b : Int) : Key) :: keyP q := h
        injection h' with h1 h2
        injection h1 with h1
        rw [ih h2, Int.ofNat.inj h1]
  exact this h
abbrev NEF : List Str := ["frame", "term", "found", "path", "part", "ends", "below", "_"]
theorem scEF : FnScope NEF ["frame", "term"] (defScope sEndsOf) := ⟨rfl, rfl, rfl, by decide +kernel, rfl, by decide +kernel, by decide +kernel⟩
/-- what is told of a raise of BadTerm -/
def RzT (K : PySem.W.Frag) (H : Hp) (E : XK) (p : List Nat) : Prop := ∀ (q dx : Addr) (H' : Hp), Same H H' → SqT K H' q (paV p) → H dx = none → H' dx = some (.xd [("path", .ref q)]) → E (.ref (CBadTerm K)) (some dx) H'
def spEF (K : PySem.W.Frag) : Sp := fun vs H Q E => ∃ (x : Addr) (v : V) (d : PyData) (xs : List Str) (ls : List Lt), vs = [.ref x, v] ∧ FrmA K H x xs ls ∧ FrOk xs ls ∧ Va K H v d ∧ (preD xs (ls.map (·.1)) [] d).length ≤ 400 ∧
  (∀ p, fl xs (ls.map (·.1)) d = some p → RzT K H E p) ∧
  ∀ t, d = dat t → Fmd xs (ls.map (·.1)) t → (∀ p, bT ls t = some p → RzT K H E p) ∧ (bT ls t = none → ∀ (T : Addr) (H' : Hp), Same H H' → SqT K H' T (prV (eL ls t)) → Q (.ref T) H')
section
variable {P : Program} {w : World} {K : PySem.W.Frag} {mg : Str → Option Value} {base : Heap} {f : Addr} {fd : FuncData}
theorem ok_ef (F : FnP K "ends_of" sEndsOf f fd) (Y : Fx w K mg) : FnOk P w K mg base (L2N.CX P w) 6 f fd ["frame", "term"] (spEF K) := by
  obtain ⟨d1, F1⟩ := Y.dPartsChecked
  obtain ⟨d2, F2⟩ := Y.dPartsInnerFirst
  obtain ⟨d3, F3⟩ := Y.dBelow
  obtain ⟨d4, F4⟩ := Y.dEndsAbove
  have b1 := FunD.bindsN (ps := ["frame", "value"]) F1 fun _ _ _ _ _ _ us hl => match us, hl with | [_, _], _ => rfl
  have b2 := FunD.bindsN (ps := ["term"]) F2 fun _ _ _ _ _ _ us hl => match us, hl with | [_], _ => rfl
  have b3 := FunD.bindsN (ps := ["path", "part"]) F3 fun _ _ _ _ _ _ us hl => match us, hl with | [_, _], _ => rfl
  have b4 := FunD.bindsN (ps := ["frame", "part", "below"]) F4 fun _ _ _ _ _ _ us hl => match us, hl with | [_, _, _], _ => rfl
  have G1 : FnOk P w K mg base (L2N.CX P w) 3 _ d1 ["frame", "value"] (spPCv K) := ok_pcv F1 Y
  have G2 : FnOk P w K mg base CX0 3 _ d2 ["term"] (spPI K) := ok_pi F2 Y
  have G3 : FnOk P w K mg base CX0 2 _ d3 ["path", "part"] (spBe Tm K) := ok_be F3 Y
  have G4 : FnOk P w K mg base CX0 5 _ d4 ["frame", "part", "below"] (spEA K) := ok_ea F4 Y
  refine F.ok scEF (fun vs H Q E h => ?_) (fun cdv A outer s H vs Q E hr h => ?_)
  · obtain ⟨x, v, d, xs, ls, rfl, _⟩ := h
    rfl
  · have nd := scEF.nd
    have hu := hu_of hr
    have hr2 : Room 2 _ := hr.mono (by decide)
    have hr3 : Room 3 _ := hr.mono (by decide)
    refine ⟨_, pss_cons (ps_expr (pe_callS G1 hr3 (by rfl) Y.gPartsChecked F1.kp b1 (fun σ => L2N.passAt (L2N.takes_of rfl rfl rfl rfl) σ) (pa_cons (pv 0) (pa_cons (pv 1) pa_nil))))
      (pss_cons (ps_set (i := 2) nd rfl (Or.inr rfl) pe_dnewT)
      (pss_cons (ps_for (passes_of rfl) rfl (pi_list (pe_call G2 hr3 (by rfl) Y.gPartsInnerFirst F2.kp b2 .nil pass0 (pa_cons (pv 1) pa_nil))) (pg_tup rfl (pgs_cons (pg_name (i := 3) nd rfl (Or.inl rfl)) (pgs_cons (pg_name (i := 4) nd rfl (Or.inl rfl)) pgs_nil)))
        (pss_cons (ps_set (i := 5) nd rfl (Or.inl rfl) (pe_call G4 hr (by rfl) Y.gEndsAbove F4.kp b4 .nil pass0 (pa_cons (pv 0) (pa_cons (pv 4) (pa_cons
          (pe_lc (own := [("below", 6), ("_", 7)]) (g := gTup K 2 (gCons (gName 6) (gCons (gName 7) gNil))) (tt := tYes) (te := tDGet (tVar 2) (tVar 6)) rfl nd
            (pi_list (pe_call G3 hr2 (by rfl) Y.gBelow F3.kp b3 .nil pass0 (pa_cons (pv 3) (pa_cons (pv 4) pa_nil)))) (blkOk_by (N := NEF) (sc := defScope sEndsOf) (by decide +kernel))
            (fun _ _ _ _ _ => pg_tup rfl (pgs_cons (pg_name (i := 6) nd rfl (Or.inl rfl)) (pgs_cons (pg_name (i := 7) nd rfl (Or.inl rfl)) pgs_nil))) (fun _ _ _ _ _ => pts_nil)
            (fun _ _ _ _ _ => pe_dget hu (pv 2) (pv 6) nosl)) pa_nil)))))
        (pss_cons (ps_if (pt_cmp (pc_isN (pv 5))) (pss_one (L2N.ps_raise rfl (L2N.takes_of rfl rfl rfl rfl) (pmk_raN (raBT Y) hr2 (by rfl) Y.gBadTerm (pa_cons (pv 3) pa_nil)))) pss_nil)
        (pss_one (ps_dput hu (pv 2) (pv 3) (pv 5) rfl)))))
      (pss_one (ps_ret (pe_dget hu (pv 2) (pe_tup pa_nil) nosl))))), ?_⟩
    obtain ⟨x, v, d, xs, ls, rfl, hF, ok, hv, hN, kE, kT⟩ := h
    refine ⟨_, rfl, _, rfl, x, v, d, xs, ls, rfl, hF, hv, hN, kE, fun e L1 H1 s1 => ?_⟩
    obtain ⟨t, rfl, fm⟩ := fm_of _ d (Nat.lt_succ_self _) e
    obtain ⟨kB, kS⟩ := kT t rfl fm
    obtain ⟨ua, rfl, htm⟩ := va_tm hv
    have hsz : t.sz ≤ 400 := by rw [← pre_dat [] fm]; exact hN
    intro D hD
    have sD := same_upd (o := .dT []) hD
    have eD0 : upd H1 D (.dT []) D = some (.dT []) := upd_same
    refine ⟨_, rfl, ua, t, xs, ls.map (·.1), rfl, htm.same (s1.trans sD), fm, hsz, fun L rs us H2 s2 eLs hP ep hA => ?_⟩
    have eD := s2 _ _ eD0
    have hHD : H D = none := none_of s1 hD
    obtain ⟨B, eB⟩ : ∃ B, B = del H2 D := ⟨_, rfl⟩
    have bD : B D = none := by rw [eB]; exact del_same
    have sB : Same H B := by rw [eB]; exact same_del hHD (s1.trans (sD.trans s2))
    have bP : Prs K B rs us := by rw [eB]; exact hP.del eD
    have bA : ∀ u ∈ us, AtT K B xs (ls.map (·.1)) u.2 ∧ u.1.length ≤ 400 := fun u hu => ⟨by rw [eB]; exact (hA u hu).1.del eD, (hA u hu).2⟩
    have bL : B L = some (.lst (rs.map V.ref)) := by rw [eB]; exact (del_ne (fun z => by rw [z, eD] at eLs; cases eLs)).trans eLs
    have sB2 : Same B H2 := by rw [eB]; exact del_sub
    have lr := bP.len
    have lus : us.length = t.sz := by
      have z := congrArg List.length ep
      rw [List.length_map, post_len] at z
      exact z
    refine ⟨L, rfl, ⟨_, SqL.of eLs⟩, for_list (K := K) (a := L) (xs := rs.map V.ref) (fun i σ G => (∃ v3 v4 v5, σ = [some (.ref x), some (.ref ua), some (.ref D), v3, v4, v5, none, none]) ∧ Same B G ∧ ∃ kvs, G D = some (.dT kvs) ∧ kvs.length ≤ i ∧
        ∀ u ∈ us.take i, fitT ls u.2.2 = true ∧ ∃ T, valV kvs (keyP u.1) = some (.ref T) ∧ SqT K G T (prV (eL ls u.2.2)))
      ⟨⟨_, _, _, rfl⟩, sB2, [], eD, Nat.le_refl _, fun u hu => absurd hu List.not_mem_nil⟩ (fun i σ G _ p => SqL.of (p.2.1 _ _ bL)) ?_ ?_⟩
    · rintro i v σ G hi ⟨⟨v3, v4, v5, rfl⟩, sm, kvs, eK, lk, hall⟩
      obtain ⟨r, er, rfl⟩ := ref_at hi
      obtain ⟨⟨pu, uv, u⟩, eu, q, h1, h2⟩ := bP.get er
      replace h1 : SqT K B r [.ref q, uv] := h1
      replace h2 : B q = some (.tup (paV pu)) := h2
      obtain ⟨hAu, lpu⟩ := bA _ (List.mem_of_getElem? eu)
      replace lpu : pu.length ≤ 400 := lpu
      obtain ⟨⟨b, eb, htu⟩, fu⟩ := hAu
      replace eb : uv = .ref b := eb
      subst eb
      replace htu : TmAt K B b u := htu
      replace fu : Fmd xs (ls.map (·.1)) u := fu
      have epi : (post [] t)[i]? = some (pu, u) := by
        rw [← ep, List.getElem?_map, eu]
        rfl
      have li := (List.getElem?_eq_some_iff.mp eu).1
      obtain ⟨xsv, m, sn, kids, hq, hs, lm, ek1, ek2, hkid⟩ := tm_parts (htu.same sm) fu
      refine ⟨r, _, rfl, sqt_same sm h1, rfl, _, _, rfl, _, _, rfl, rfl, ?_⟩
      dsimp only
      change tSeq _ _ _ [some (.ref x), some (.ref ua), some (.ref D), some (.ref q), some (.ref b), v5, none, none] G
      refine ⟨_, rfl, _, rfl, _, rfl, _, rfl, q, b, pu, u.hd, xsv, m, sn, kids, rfl, SqT.of (sm _ _ h2), by omega, hq, hs, lm, ek1, fun L2 rs2 G2 s2 hL2 eL2 hP2 => ⟨L2, rfl, ⟨_, SqL.of eL2⟩, fun D2 hD2 => ?_⟩⟩
      have eK2 := s2 _ _ eK
      have lkid : kids.length = u.kids.length := by rw [← ek2, List.length_map]
      have lk2 : u.kids.length ≤ 2 := by cases u <;> simp [Tm.kids]
      refine lc_list (K := K) (a := L2) (xs := rs2.map V.ref) (fun j G' => ∃ es : List Addr, G' D2 = some (.lst (es.map V.ref)) ∧ Ens K G' es ((u.kids.take j).map (eL ls)) ∧ Same G2 G') ⟨[], upd_same, .nil, same_upd hD2⟩ (fun j G' _ p => by obtain ⟨_, _, _, p⟩ := p; exact p.seq (SqL.of eL2)) ?_ ?_
      · rintro j v G' hj ⟨es, e2, hE, sj⟩
        obtain ⟨r2, er2, rfl⟩ := ref_at hj
        obtain ⟨kx, ekx, q2, g1, g2⟩ := hP2.get er2
        have lj := (List.getElem?_eq_some_iff.mp ekx).1
        rw [kp_len] at lj
        obtain ⟨kk, ekk⟩ : ∃ kk, kids[j]? = some kk := ⟨kids[j], List.getElem?_eq_getElem lj⟩
        have z := kp_at (p := pu) (i := 0) ekk
        rw [Nat.zero_add, ekx] at z
        cases z
        have euk : u.kids[j]? = some kk.2 := by rw [← ek2, List.getElem?_map, ekk]; rfl
        have mem := post_before t [] i pu u epi j kk.2 euk
        rw [← ep, ← List.map_take] at mem
        obtain ⟨y, hy, ey⟩ := List.mem_map.mp mem
        have ey1 : y.1 = pu ++ [j] := congrArg Prod.fst ey
        have ey2 : (sndT y).2 = kk.2 := congrArg Prod.snd ey
        replace ey2 : y.2.2 = kk.2 := ey2
        obtain ⟨_, T, eT, hT⟩ := hall y hy
        rw [ey1] at eT
        rw [ey2] at hT
        have dg : DGet G' D (.ref q2) (some (.ref T)) := by
          rw [← eT]
          exact DGet.t (sj _ _ eK2) (by rw [keyP_V]; exact sj _ _ g2)
        refine ⟨r2, _, rfl, sqt_same sj g1, rfl, _, _, rfl, _, _, rfl, rfl, rfl, _, rfl, _, rfl, D, .ref T, rfl, dg, ?_⟩
        refine ⟨_, e2, ?_, es ++ [T], by rw [upd_same, List.map_append]; rfl, ?_, same_put hD2 sj⟩
        · have ll := hE.len
          rw [List.length_map, List.length_take] at ll
          rw [List.length_map]
          exact small1000 (by omega)
        · rw [List.take_add_one, euk, List.map_append]
          exact (hE.app (.cons (sqt_same (s2.trans sj) hT) .nil)).put e2
      rintro G3 ⟨es, e2, hE, s3⟩
      rw [List.length_map, hP2.len, kp_len, List.take_of_length_le (by omega)] at hE
      have sG3 := s2.trans s3
      have sm3 := sm.trans sG3
      have eK3 := sG3 _ _ eK
      refine ⟨x, b, D2, xs, ls, u, es, rfl, hF.same (sB.trans sm3), ok, htu.same sm3, fu, SqL.of e2, hE, fun hfit H' s' => ?_, fun hfit T H' s' hT => ?_⟩
      · have sm4 := sm3.trans s'
        refine ⟨_, rfl, _, rfl, iteT ?_⟩
        have efind : (post [] t).find? (misE ls) = some (pu, u) := by
          refine find_at epi (by unfold misE; rw [hfit]; rfl) fun y hy => ?_
          rw [← ep, ← List.map_take] at hy
          obtain ⟨z, hz, rfl⟩ := List.mem_map.mp hy
          unfold misE
          rw [show fitT ls (sndT z).2 = true from (hall z hz).1]
          rfl
        have eb : bT ls t = some pu := by rw [← post_first, efind]; rfl
        refine ⟨_, rfl, (by show 1 ≤ 1000; decide), fun a ha => mkO_tup (SqT.of (sm4 _ _ h2)) (fun dx H' s' hd e => kB pu eb q dx H' (sB.trans (sm4.trans s')) (SqT.of (s' _ _ (sm4 _ _ h2))) (none_of (sB.trans sm4) hd) e) a ha⟩
      · have sm4 := sm3.trans s'
        have eK4 := s' _ _ eK3
        refine ⟨_, rfl, _, rfl, iteF ?_⟩
        refine ⟨_, rfl, _, rfl, _, rfl, D, _, rfl, DPut.t (k := keyP pu) eK4 (by rw [keyP_V]; exact sm4 _ _ h2) (small1000 (by omega)), ?_⟩
        refine ⟨⟨_, _, _, rfl⟩, same_put bD sm4, putK kvs (keyP pu) (.ref T), upd_same, ?_, fun y hy => ?_⟩
        · exact Nat.le_trans (length_putK _ _ _) (by omega)
        · rw [List.take_add_one, eu] at hy
          rcases List.mem_append.mp hy with hy | hy
          · obtain ⟨hy1, T', eT', hT'⟩ := hall y hy
            refine ⟨hy1, ?_⟩
            by_cases c : keyP y.1 = keyP pu
            · refine ⟨T, by rw [valV_put, if_pos c], ?_⟩
              have ey : y.1 = pu := keyP_inj c
              have m1 : (pu, y.2.2) ∈ post [] t := by
                rw [← ep]
                exact List.mem_map.mpr ⟨y, List.mem_of_mem_take hy, by unfold sndT; rw [ey]⟩
              have e3 : y.2.2 = u := post_inj m1 (List.mem_of_getElem? epi)
              rw [e3]
              exact sqt_putT eK4 hT
            · refine ⟨T', by rw [valV_put, if_neg c]; exact eT', ?_⟩
              exact sqt_putT eK4 (sqt_same (sG3.trans s') hT')
          · have hy' : y = (pu, V.ref b, u) := by simpa using hy
            subst hy'
            exact ⟨hfit, T, by rw [valV_put, if_pos rfl], sqt_putT eK4 hT⟩
    · rintro σ G ⟨⟨v3, v4, v5, rfl⟩, sm, kvs, eK, lk, hall⟩
      rw [List.length_map, lr, List.take_length] at hall
      have eb : bT ls t = none := by
        rw [← post_first]
        have : (post [] t).find? (misE ls) = none := by
          rw [List.find?_eq_none]
          intro y hy
          rw [← ep] at hy
          obtain ⟨z, hz, rfl⟩ := List.mem_map.mp hy
          unfold misE
          rw [show fitT ls (sndT z).2 = true from (hall z hz).1]
          simp
        rw [this]
        rfl
      have mr := post_root t []
      rw [← ep] at mr
      obtain ⟨y, hy, ey⟩ := List.mem_map.mp mr
      have ey1 : y.1 = [] := congrArg Prod.fst ey
      have ey2 : (sndT y).2 = t := congrArg Prod.snd ey
      replace ey2 : y.2.2 = t := ey2
      obtain ⟨_, T, eT, hT⟩ := hall y hy
      rw [ey1] at eT
      rw [ey2] at hT
      refine ⟨_, rfl, szl (by show 0 ≤ 1000; decide), fun T0 hT0 => ?_⟩
      have sT0 := same_upd (o := .tup []) hT0
      refine ⟨D, .ref T, rfl, ?_, kS eb T _ (sB.trans (sm.trans sT0)) (sqt_same sT0 hT)⟩
      rw [← eT]
      exact DGet.t (k := keyP []) (sT0 _ _ eK) upd_same
end
end K37

namespace K37
open PySem PySem.Spec PyProof.Rows L2 Ow Xv
/-! ### the law's own ends -/
abbrev NLE : List Str := ["_law_frame_here", "_law_term_here", "_law_word_here", "_law_first"]
abbrev PLE : List Str := ["_law_frame_here", "_law_term_here"]
theorem scLE : FnScope NLE PLE (defScope sLawEnds) := ⟨rfl, rfl, rfl, by decide +kernel, rfl, by decide +kernel, by decide +kernel⟩
def spLE (K : PySem.W.Frag) (N : Nat) : Sp := fun vs H Q _ => ∃ (e a : Addr) (xs : List Str) (ls : List Lt) (t : Tm), vs = [.ref e, .ref a] ∧ FrAt K H e xs ls ∧ TmAt K H a t ∧ Fmd xs (ls.map (·.1)) t ∧ t.sz ≤ N ∧ ∀ (T : Addr) (H' : Hp), Same H H' → SqT K H' T (prV (eL ls t)) → Q (.ref T) H'
theorem mem2_of {z a b : Str} (h : decide (z ∈ [a, b]) = true) : z = a ∨ z = b := by
  have := of_decide_eq_true h
  simpa using this
section
variable {P : Program} {w : World} {K : PySem.W.Frag} {mg : Str → Option Value} {base : Heap} {f : Addr} {fd : FuncData}
theorem le_step {N k : Nat} (F : FnP K "_law_ends" sLawEnds (He.ga K "_law_ends") fd) (Y : Fx w K mg) (G0 : FnOk P w K mg base CX0 k (He.ga K "_law_ends") fd PLE (spLE K N)) (hk : 1 ≤ k) :
    FnOk P w K mg base CX0 (k + 1) (He.ga K "_law_ends") fd PLE (spLE K (N + 1)) := by
  have b0 := FunD.bindsN (ps := PLE) F fun _ _ _ _ _ _ us hl => match us, hl with | [_, _], _ => rfl
  refine okD F scLE (fun vs H Q E h => ?_) (fun cdv A outer s H vs Q E hr h => ?_)
  · obtain ⟨e, a, xs, ls, t, rfl, _⟩ := h
    rfl
  · have nd := scLE.nd
    have hu := hu_of hr
    refine ⟨_, pss_cons (ps_set (i := 2) nd rfl (Or.inl rfl) (pe_ix ix_tup (pv 1) pe_int (fun _ _ => rfl)))
      (pss_cons (ps_if (pt_cmpR op_eq (pv 2) pe_str (nomark _)) (pss_one (ps_ret (pe_dget hu (pe_dget hu (pv 0) pe_str nosl) (pe_ix ix_tup (pv 1) pe_int (fun _ _ => rfl)) nosl))) pss_nil)
      (pss_cons (ps_if (pt_cmpR op_in_seq (pv 2) (pe_lst (pa_cons pe_str (pa_cons pe_str pa_nil))) (by rfl)) (pss_one (ps_ret (pe_tup (pa_cons (pe_ix ix_tup (pv 1) pe_int (fun _ _ => rfl)) (pa_cons (pe_ix ix_tup (pv 1) pe_int (fun _ _ => rfl)) pa_nil))))) pss_nil)
      (pss_cons (ps_if (pt_cmpR op_in_seq (pv 2) (pe_lst (pa_cons pe_str (pa_cons pe_str pa_nil))) (by rfl)) (pss_one (ps_ret (pe_tup (pa_cons (pe_ix ix_tup (pv 1) pe_int (fun _ _ => rfl)) (pa_cons (pe_ix ix_tup (pv 1) pe_int (fun _ _ => rfl)) pa_nil))))) pss_nil)
      (pss_cons (ps_set (i := 3) nd rfl (Or.inl rfl) (pe_call G0 hr (by rfl) Y.gLawEnds F.kp b0 .nil pass0 (pa_cons (pv 0) (pa_cons (pe_ix ix_tup (pv 1) pe_int (fun _ _ => rfl)) pa_nil))))
      (pss_cons (ps_if (pt_cmpR op_eq (pv 2) pe_str (nomark _)) (pss_one (ps_ret (pe_rev (pv 3) (pe_un un_neg pe_int)))) pss_nil)
      (pss_cons (ps_if (pt_cmpR op_eq (pv 2) pe_str (nomark _)) (pss_one (ps_ret (pe_tup (pa_cons (pe_ix ix_tup (pv 3) pe_int (fun _ _ => rfl)) (pa_cons (pe_ix ix_tup (pe_call G0 hr (by rfl) Y.gLawEnds F.kp b0 .nil pass0 (pa_cons (pv 0) (pa_cons (pe_ix ix_tup (pv 1) pe_int (fun _ _ => rfl)) pa_nil))) pe_int (fun _ _ => rfl)) pa_nil))))) pss_nil)
      (pss_one (ps_ret (pv 3))))))))), ?_⟩
    obtain ⟨e, a, xs, ls, t, rfl, fr, ha, fm, hN, k⟩ := h
    obtain ⟨s0, m0, o0, _, gm, _, _, lm, _⟩ := fr.fr
    have ok := fr.ok
    obtain ⟨us, hv, hk2⟩ := ha.view
    refine ⟨_, rfl, a, _, 0, _, rfl, rfl, hv, atI_0 _ _, ?_⟩
    obtain ⟨wd, ewd⟩ : ∃ wd, wd = t.hd := ⟨_, rfl⟩
    rw [← ewd]
    refine ⟨_, rfl, rfl, _, rfl, ite2 (fun hc => ?_) (fun hc => ?_)⟩
    · have ew : wd = ("letter" : Str) := V.str.inj (of_decide_eq_true hc)
      rw [ewd] at ew
      cases t with
      | one w t => exact absurd (show w = "letter" from ew) (fun q => by subst q; exact absurd fm.1 (by unfold OneOk; decide +kernel))
      | two w s t => exact absurd (show w = "letter" from ew) (fun q => by subst q; exact absurd fm.1 (by unfold TwoOk; decide +kernel))
      | leaf w ss =>
        replace ew : w = "letter" := ew
        obtain ⟨n, rfl, hn⟩ : ∃ n, ss = [n] ∧ n ∈ ls.map (·.1) := by
          rcases fm with ⟨_, n, e, m⟩ | ⟨e, _⟩ | ⟨e, _⟩ | ⟨e, _⟩ | ⟨e, _⟩
          · exact ⟨n, e, m⟩
          all_goals exact absurd (ew.symm.trans e) (by decide +kernel)
        obtain ⟨h1, h2, _⟩ := end_in ok hn
        obtain ⟨i, li, ei⟩ := List.getElem_of_mem h1
        obtain ⟨T, dg, hT⟩ := lm.get ok.nl.nd (show ls[i]? = some (endOf ls n) by rw [List.getElem?_eq_getElem li, ei])
        rw [h2] at dg
        refine ⟨_, rfl, e, .ref m0, rfl, gm, _, rfl, a, _, 1, _, rfl, rfl, ha, rfl, m0, .ref T, rfl, dg, k T _ (Same.refl _) ?_⟩
        rw [eL_leaf, if_pos ew]
        exact hT
    · have ew : wd ≠ ("letter" : Str) := fun q => hc (by rw [q]; exact decide_eq_true rfl)
      refine ⟨_, rfl, szl (by show 2 ≤ 1000; decide), fun l0 hl0 => ?_⟩
      have s1 := same_upd (o := .lst [V.str "same", V.str "other"]) hl0
      refine ⟨l0, _, rfl, .inl (SqL.of upd_same), rfl, rfl, ?_⟩
      rw [if_neg Bool.false_ne_true, show inV (V.str wd) [V.str "same", V.str "other"] = decide (wd ∈ (["same", "other"] : List Str)) from inV_strs wd ["same", "other"]]
      refine ⟨_, rfl, ite2 (fun hc2 => ?_) (fun hc2 => ?_)⟩
      · have cw := mem2_of hc2
        rw [ewd] at cw
        cases t with
        | one w t => exact absurd (show w = "same" ∨ w = "other" from cw) (fun q => by rcases q with q | q <;> subst q <;> exact absurd fm.1 (by unfold OneOk; decide +kernel))
        | two w s t => exact absurd (show w = "same" ∨ w = "other" from cw) (fun q => by rcases q with q | q <;> subst q <;> exact absurd fm.1 (by unfold TwoOk; decide +kernel))
        | leaf w ss =>
          replace cw : w = "same" ∨ w = "other" := cw
          obtain ⟨n, rfl⟩ : ∃ n, ss = [n] := by
            rcases fm with ⟨e, _⟩ | ⟨_, n, e, _⟩ | ⟨_, n, e, _⟩ | ⟨e, _⟩ | ⟨e, _⟩
            · exact absurd e (by rw [ewd] at ew; exact ew)
            · exact ⟨n, e⟩
            · exact ⟨n, e⟩
            all_goals (rcases cw with q | q <;> rw [q] at e <;> exact absurd e (by decide +kernel))
          refine ⟨_, rfl, a, _, 1, _, rfl, rfl, sqt_same s1 ha, rfl, _, rfl, a, _, 1, _, rfl, rfl, sqt_same s1 ha, rfl, szl (by show 2 ≤ 1000; decide), fun T hT => k T _ (s1.trans (same_upd hT)) ?_⟩
          rw [eL_leaf, if_neg (by rw [ewd] at ew; exact ew)]
          exact SqT.of upd_same
      · refine ⟨_, rfl, szl (by show 2 ≤ 1000; decide), fun l1 hl1 => ?_⟩
        have s2 := s1.trans (same_upd (o := .lst [V.str "none", V.str "all"]) hl1)
        refine ⟨l1, _, rfl, .inl (SqL.of upd_same), rfl, rfl, ?_⟩
        rw [if_neg Bool.false_ne_true, show inV (V.str wd) [V.str "none", V.str "all"] = decide (wd ∈ (["none", "all"] : List Str)) from inV_strs wd ["none", "all"]]
        refine ⟨_, rfl, ite2 (fun hc3 => ?_) (fun hc3 => ?_)⟩
        · have cw := mem2_of hc3
          rw [ewd] at cw
          cases t with
          | one w t => exact absurd (show w = "none" ∨ w = "all" from cw) (fun q => by rcases q with q | q <;> subst q <;> exact absurd fm.1 (by unfold OneOk; decide +kernel))
          | two w s t => exact absurd (show w = "none" ∨ w = "all" from cw) (fun q => by rcases q with q | q <;> subst q <;> exact absurd fm.1 (by unfold TwoOk; decide +kernel))
          | leaf w ss =>
            replace cw : w = "none" ∨ w = "all" := cw
            obtain ⟨y, z, rfl⟩ : ∃ y z, ss = [y, z] := by
              rcases fm with ⟨e, _⟩ | ⟨e, _⟩ | ⟨e, _⟩ | ⟨_, y, z, e, _⟩ | ⟨_, y, z, e, _⟩
              · exact absurd e (by rw [ewd] at ew; exact ew)
              · rcases cw with q | q <;> rw [q] at e <;> exact absurd e (by decide +kernel)
              · rcases cw with q | q <;> rw [q] at e <;> exact absurd e (by decide +kernel)
              · exact ⟨y, z, e⟩
              · exact ⟨y, z, e⟩
            refine ⟨_, rfl, a, _, 1, _, rfl, rfl, sqt_same s2 ha, rfl, _, rfl, a, _, 2, _, rfl, rfl, sqt_same s2 ha, rfl, szl (by show 2 ≤ 1000; decide), fun T hT => k T _ (s2.trans (same_upd hT)) ?_⟩
            rw [eL_leaf, if_neg (by rw [ewd] at ew; exact ew)]
            exact SqT.of upd_same
        · cases t with
          | leaf w ss =>
            exfalso
            replace ewd : wd = w := ewd
            rcases fm with ⟨e, _⟩ | ⟨e, _⟩ | ⟨e, _⟩ | ⟨e, _⟩ | ⟨e, _⟩
            · exact ew (ewd.trans e)
            · exact hc2 (by rw [ewd, e]; decide +kernel)
            · exact hc2 (by rw [ewd, e]; decide +kernel)
            · exact hc3 (by rw [ewd, e]; decide +kernel)
            · exact hc3 (by rw [ewd, e]; decide +kernel)
          | one w t =>
            replace ewd : wd = w := ewd
            obtain ⟨b, h1, h2⟩ := ha
            have hs : 1 + t.sz ≤ N + 1 := hN
            refine ⟨_, rfl, _, rfl, a, _, 1, _, rfl, rfl, sqt_same s2 h1, rfl, e, b, xs, ls, t, rfl, fr.same s2, h2.same s2, fm.2, by omega, fun T H3 s3 hT => ?_⟩
            rw [eL_one, ← ewd] at k
            refine ⟨_, rfl, rfl, _, rfl, ite2 (fun h4 => ?_) (fun h4 => ?_)⟩
            · rw [if_pos (V.str.inj (of_decide_eq_true h4))] at k
              exact ⟨_, rfl, _, rfl, rfl, T, _, rfl, .inr ⟨hT, fun p hp => k p _ (s2.trans (s3.trans (same_upd hp))) (SqT.of upd_same)⟩⟩
            · rw [if_neg (fun q => h4 (by rw [q]; exact decide_eq_true rfl))] at k
              refine ⟨_, rfl, rfl, _, rfl, ite2 (fun h5 => ?_) (fun h5 => ?_)⟩
              · exfalso
                have q : w = "then" := ewd.symm.trans (V.str.inj (of_decide_eq_true h5))
                have f1 := fm.1
                rw [q] at f1
                exact absurd f1 (by unfold OneOk; decide +kernel)
              · exact ⟨_, rfl, k T _ (s2.trans s3) hT⟩
          | two w s t =>
            replace ewd : wd = w := ewd
            obtain ⟨b, c, h1, h2, h3⟩ := ha
            have hs : 1 + s.sz + t.sz ≤ N + 1 := hN
            refine ⟨_, rfl, _, rfl, a, _, 1, _, rfl, rfl, sqt_same s2 h1, rfl, e, b, xs, ls, s, rfl, fr.same s2, h2.same s2, fm.2.1, by omega, fun T H3 s3 hT => ?_⟩
            rw [eL_two, ← ewd] at k
            refine ⟨_, rfl, rfl, _, rfl, ite2 (fun h4 => ?_) (fun h4 => ?_)⟩
            · exfalso
              have q : w = "turned" := ewd.symm.trans (V.str.inj (of_decide_eq_true h4))
              have f1 := fm.1
              rw [q] at f1
              exact absurd f1 (by unfold TwoOk; decide +kernel)
            · refine ⟨_, rfl, rfl, _, rfl, ite2 (fun h5 => ?_) (fun h5 => ?_)⟩
              · rw [if_pos (V.str.inj (of_decide_eq_true h5))] at k
                have s4 := s2.trans s3
                refine ⟨_, rfl, T, _, 0, _, rfl, rfl, hT, rfl, _, rfl, _, rfl, a, _, 2, _, rfl, rfl, sqt_same s4 h1, rfl, e, c, xs, ls, t, rfl, fr.same s4, h3.same s4, fm.2.2, by omega, fun T2 H5 s5 hT2 => ?_⟩
                exact ⟨T2, _, 1, _, rfl, rfl, hT2, rfl, szl (by show 2 ≤ 1000; decide), fun T3 hT3 => k T3 _ (s4.trans (s5.trans (same_upd hT3))) (SqT.of upd_same)⟩
              · rw [if_neg (fun q => h5 (by rw [q]; exact decide_eq_true rfl))] at k
                exact ⟨_, rfl, k T _ (s2.trans s3) hT⟩
theorem le_none : FnOk P w K mg base CX0 1 (He.ga K "_law_ends") fd PLE (spLE K 0) := by
  have no : ∀ t : Tm, ¬ t.sz ≤ 0 := fun t => by cases t <;> simp only [Tm.sz] <;> omega
  refine ⟨fun vs H Q E h => ?_, fun A outer s H args us vs Q E hr e0 bt r h => ?_⟩
  · obtain ⟨_, _, _, _, t, _, _, _, _, h2, _⟩ := h
    exact absurd h2 (no t)
  · obtain ⟨_, _, _, _, t, _, _, _, _, h2, _⟩ := h
    exact absurd h2 (no t)
theorem ok_le (F : FnP K "_law_ends" sLawEnds (He.ga K "_law_ends") fd) (Y : Fx w K mg) : ∀ N, FnOk P w K mg base CX0 (1 + N) (He.ga K "_law_ends") fd PLE (spLE K N)
  | 0 => le_none
  | N + 1 => le_step F Y (ok_le F Y N) (Nat.le_add_right 1 N)
end
end K37

namespace K37
open PySem PySem.Spec PyProof.Rows L2 Ow Xv
structure FnG (P : Program) (w : World) (K : PySem.W.Frag) (mg : Str → Option Value) (base : Heap) (k : Nat) (f : Addr) (fd : FuncData) (ps : List Str) (sp : Sp) : Prop where
  len : ∀ vs H Q E, sp vs H Q E → vs.length = ps.length
  run : ∀ (A : Around) (outer : List Env) (s : Shared) (H : Hp) (args : Args) (us : List Value) (vs : List V) (Q : VK) (E : XK), A.guards = some [] → Room k A → Env0 P w K mg base A outer s H → BindsTo s fd args (ps.zip us) → Vals vs us → sp vs H Q E →
    codeAny (model P w) A (.call (.ref f) args) (CR CX0 outer P w H s Q E) s
section
variable {P : Program} {w : World} {K : PySem.W.Frag} {mg : Str → Option Value} {base : Heap}
theorem okG {x qual : Str} {params : Arguments} {body : List Stmt} {scope : Scope} {dvs : List V} {kws : List (Str × V)} {f : Addr} {fd : FuncData} {N ps : List Str} {k : Nat} {sp : Sp} (F : FunD K x qual params body scope dvs kws f fd) (S : FnScope N ps scope) (len : ∀ vs H Q E, sp vs H Q E → vs.length = ps.length)
    (hb : ∀ (cdv : Value) (A : Around) (outer : List Env) (s : Shared) (H : Hp) (vs : List V) (Q : VK) (E : XK), A.guards = some [] → Room k (A.deeper (envOfC qual scope s.heap.objs.size f cdv)) → sp vs H Q E →
      ∃ t, PSs (cxOf CX0 P w K mg base N qual scope f cdv A outer s H E).nox body t ∧ t { nx := fun _ H' => Q .non H', rt := Q } (start N vs) H) : FnG P w K mg base (k + 1) f fd ps sp := by
  obtain ⟨oc, od, dV, kV, doc, pm, an, cdv, ct, osl, rfl, lk, hcd, _, _⟩ := F.ex
  refine ⟨len, fun A outer s H args us vs Q E hg hr e0 bt r hsp => ?_⟩
  have KX : K.In s.heap := e0.mod.kin.keeps fun b o e => (e0.bs b o e).1
  have kinds : ∀ y ∈ ps.zip us, scope.names.lookup y.1 = some .local ∨ (scope.names.lookup y.1 = some .cell ∧ ((cellsFrom (s.heap.objs.size + 1) scope.names []).lookup y.1).isSome = true) := fun y hy =>
    (S.par y.1 (List.of_mem_zip (show (y.1, y.2) ∈ ps.zip us from hy)).1).elim .inl fun q => .inr ⟨q, PySem.W.cellsFrom_some _ _ _ (.inl q)⟩
  refine codeAny_call_function hr.depth (KX _ _ lk) rfl S.co S.gen rfl (PySem.W.codeRec_of KX hcd) (bt _ _ _ _ (wpAny_newFunctionEnv_cells S.kind kinds fun env he s1 z => ?_))
  subst he
  refine ⟨(e0.mod.nolimit.keeps fun b o e => (e0.bs b o e).1).keeps z.toInCall.keep, codeAny_func ?_⟩
  obtain ⟨t, ht, hq⟩ := hb cdv A outer s H vs Q E hg (hr.deeper _) hsp
  refine wpAny_mono (ht.nox.run [] s1 (start N vs) H _ (inv_start S hr.hd e0 (len _ _ _ _ hsp) r z) hq) (fun fl s' hs => ?_) fun _ _ hs => hs
  cases fl with
  | ret u => exact let ⟨v, _, H', J, rv, q⟩ := hs; ⟨v, H', J.os, J.bare, J.base, J.hok, rv, q⟩
  | next => exact let ⟨_, H', J, q⟩ := hs; ⟨V.non, H', J.os, J.bare, J.base, J.hok, rfl, q⟩
  | brk => exact let ⟨_, _, _, q⟩ := hs; False.elim q
  | cont => exact let ⟨_, _, _, q⟩ := hs; False.elim q
end

theorem pe_callG {X : Cx} {k : Nat} {f : Addr} {fd : FuncData} {ps : List Str} {sp : Sp} {x : Str} {p pos : Pos} {e : Expr} {es : List Expr} {t : TA} (F : FnG X.prog X.w X.K X.mg X.base k f fd ps sp) (hgd : X.A.guards = some []) (hr : Room k X.A) (hg : Gl X x) (hm : X.mg x = some (.ref f)) (hk : PySem.W.keepIn X.K (.ref f) = true)
    (hb : Binds X.K fd ps []) (ha : PA X (e :: es) t) (hdb : (x == ("__debug__" : Str)) = false := by decide) (he : starEach (e :: es) X.env = (false, eval e X.env) :: starEach es X.env := by rfl) (hpl : (backTo pos (starEach es X.env)).any (·.1) = false := by rfl) :
    PE X (.Call (.Name x p) (e :: es) [] pos) (fun σ H Q => t σ H fun vs H1 => sp vs H1 Q E0) := by
  refine ⟨fun pins s σ H Q I h => wpAny_Call_Name_kw (ld_glob I hg hm ?_ hdb)⟩
  refine PySem.W.callWith_K (h₀ := X.base) I.ok.mod.kin hk (thn (ha.run pos pins s σ H _ I h) fun us s1 ⟨vs, H1, I1, r, q⟩ => ⟨I1.kIn, ?_⟩) he hpl
  have ln : us.length = ps.length := by rw [← r.length]; exact F.len _ _ _ _ q
  have bt := hb s1 us I1.kIn (by rw [List.append_nil]; exact ln)
  rw [List.append_nil] at bt
  refine wpAny_call (codeAny_mono (F.run X.A X.stack s1 H1 ⟨us, []⟩ us vs Q E0 hgd hr I1.env0 bt r q) fun res s' z => ?_)
  cases res with
  | error er => exact False.elim z
  | ok fl =>
    cases fl with
    | ret u => exact I1.after z
    | next => exact False.elim z
    | brk => exact False.elim z
    | cont => exact False.elim z

end K37

namespace K37
open PySem PySem.Spec PyProof.Rows L2 Ow Xv
/-! ### ways as data -/
theorem dp_tm {K : PySem.W.Frag} {H : Hp} : ∀ {t : Tm} {a : Addr}, TmAt K H a t → Dp K H (.ref a) (dat t)
  | .leaf w ss, a, h => .tup h (.cons (.str w) (dpa_strs ss))
  | .one w t, a, ⟨b, h, g⟩ => .tup h (.cons (.str w) (.cons (dp_tm g) .nil))
  | .two w s t, a, ⟨b, c, h, g, g2⟩ => .tup h (.cons (.str w) (.cons (dp_tm g) (.cons (dp_tm g2) .nil)))
/-- what is asked of data that is compared or shown -/
structure Fine (d : PyData) (n : Nat) : Prop where
  lay : d.canLay0 = true
  dep : d.depth ≤ n
  sho : d.showable = true
  lv : d.leavesShort 13 = true
  wt : d.weight ≤ 40 * n
theorem str_lv {x : Str} (h : PyData.strOk x = true) : (PyData.str x).leavesShort 13 = true := by
  have e : ∀ c ∈ x.cps.toList, c < 0x110000 := fun c hc => by
    unfold PyData.strOk at h
    rw [Array.all_eq_true] at h
    obtain ⟨i, hi, e⟩ := List.getElem_of_mem hc
    have z := h i (by simpa using hi)
    rw [← e]
    simpa using z
  simp only [PyData.leavesShort, List.all_eq_true, decide_eq_true_eq]
  intro c hc
  have := e c hc
  omega
theorem Rt.hdWd : ∀ {t : Tm}, Rt t → Wd t.hd
  | .leaf w ss, h => by
    show Wd w
    rcases h with ⟨rfl, _⟩ | ⟨rfl, _⟩ | ⟨rfl, _⟩ | ⟨rfl, _⟩ | ⟨rfl, _⟩ <;> exact wd_of (by decide +kernel)
  | .one w t, h => by
    show Wd w
    rcases h.1 with rfl | rfl | rfl | rfl <;> exact wd_of (by decide +kernel)
  | .two w s t, h => by
    show Wd w
    rcases h.1 with rfl | rfl | rfl <;> exact wd_of (by decide +kernel)
theorem Rt.ssWd : ∀ {t : Tm}, Rt t → ∀ x ∈ t.ss, Wd x
  | .leaf w ss, h => by
    intro x hx
    rcases h with ⟨rfl, a, rfl, ha⟩ | ⟨rfl, a, rfl, ha⟩ | ⟨rfl, a, rfl, ha⟩ | ⟨rfl, a, b, rfl, ha, hb⟩ | ⟨rfl, a, b, rfl, ha, hb⟩
    · rw [List.mem_singleton.mp hx]; exact ha
    · rw [List.mem_singleton.mp hx]; exact ha
    · rw [List.mem_singleton.mp hx]; exact ha
    · rcases List.mem_cons.mp hx with z | z
      · rw [z]; exact ha
      · rw [List.mem_singleton.mp z]; exact hb
    · rcases List.mem_cons.mp hx with z | z
      · rw [z]; exact ha
      · rw [List.mem_singleton.mp z]; exact hb
  | .one w t, h => fun x hx => absurd hx List.not_mem_nil
  | .two w s t, h => fun x hx => absurd hx List.not_mem_nil
theorem fine_strs {xs : List Str} (h : ∀ x ∈ xs, Wd x) : PyData.canLayAll0 (xs.map PyData.str) = true ∧ PyData.depthAll (xs.map PyData.str) = 0 ∧ PyData.showableAll (xs.map PyData.str) = true ∧ PyData.leavesShortAll 13 (xs.map PyData.str) = true ∧ PyData.weightAll (xs.map PyData.str) ≤ 13 * xs.length := by
  induction xs with
  | nil => exact ⟨by simp [PyData.canLayAll0], by simp [PyData.depthAll], by simp [PyData.showableAll], by simp [PyData.leavesShortAll], by simp [PyData.weightAll]⟩
  | cons x xs ih =>
    obtain ⟨a, b, c, d, e⟩ := ih fun y hy => h y (List.mem_cons_of_mem _ hy)
    have hx := h x List.mem_cons_self
    have l := str_lv hx.lay
    have z : x.cps.size ≤ 12 := hx.hi
    refine ⟨?_, ?_, ?_, ?_, ?_⟩
    · simp [PyData.canLayAll0, PyData.canLay0, hx.lay, a]
    · simp [PyData.depthAll, PyData.depth, b]
    · simp [PyData.showableAll, PyData.showable, c]
    · rw [List.map_cons]
      simp only [PyData.leavesShortAll, Bool.and_eq_true]
      exact ⟨l, d⟩
    · rw [List.map_cons]
      simp only [PyData.weightAll, PyData.weight, List.length_cons]
      omega
theorem fine_tm : ∀ {t : Tm}, Rt t → Fine (dat t) t.sz
  | .leaf w ss, h => by
    have hw : Wd w := Rt.hdWd h
    have hs := Rt.ssWd h
    obtain ⟨a, b, c, d, e⟩ := fine_strs (xs := w :: ss) fun x hx => by
      rcases List.mem_cons.mp hx with z | z
      · rw [z]; exact hw
      · exact hs x z
    have l := (Rt.pos h).2.1
    have l2 : ss.length ≤ 2 := by
      have z : (Tm.leaf w ss).ss.length + (Tm.leaf w ss).kids.length ≤ 2 := l
      exact z
    rw [List.length_cons] at e
    refine ⟨?_, ?_, ?_, ?_, ?_⟩
    · simpa only [dat, PyData.canLay0, List.map_cons] using a
    · simp only [dat, PyData.depth]
      rw [show PyData.depthAll (PyData.str w :: List.map PyData.str ss) = 0 from b]
      exact Nat.le_refl _
    · simpa only [dat, PyData.showable, List.map_cons] using c
    · simpa only [dat, PyData.leavesShort, List.map_cons] using d
    · simp only [dat, PyData.weight]
      have z : PyData.weightAll (PyData.str w :: List.map PyData.str ss) ≤ 13 * (ss.length + 1) := e
      show _ ≤ 40 * 1
      omega
  | .one w t, h => by
    have hw : Wd w := Rt.hdWd h
    obtain ⟨a, b, c, d, e⟩ := fine_tm h.2
    have z : w.cps.size ≤ 12 := hw.hi
    refine ⟨?_, ?_, ?_, ?_, ?_⟩
    · simp [dat, PyData.canLay0, PyData.canLayAll0, hw.lay, a]
    · simp only [dat, PyData.depth, PyData.depthAll, Tm.sz]
      omega
    · simp [dat, PyData.showable, PyData.showableAll, c]
    · have l := str_lv hw.lay
      simp only [dat, PyData.leavesShort, PyData.leavesShortAll, Bool.and_eq_true] at l ⊢
      exact ⟨l, d, trivial⟩
    · simp only [dat, PyData.weight, PyData.weightAll, Tm.sz]
      omega
  | .two w s t, h => by
    have hw : Wd w := Rt.hdWd h
    obtain ⟨a, b, c, d, e⟩ := fine_tm h.2.1
    obtain ⟨a2, b2, c2, d2, e2⟩ := fine_tm h.2.2
    have z : w.cps.size ≤ 12 := hw.hi
    refine ⟨?_, ?_, ?_, ?_, ?_⟩
    · simp [dat, PyData.canLay0, PyData.canLayAll0, hw.lay, a, a2]
    · simp only [dat, PyData.depth, PyData.depthAll, Tm.sz]
      omega
    · simp [dat, PyData.showable, PyData.showableAll, c, c2]
    · have l := str_lv hw.lay
      simp only [dat, PyData.leavesShort, PyData.leavesShortAll, Bool.and_eq_true] at l ⊢
      exact ⟨l, d, d2, trivial⟩
    · simp only [dat, PyData.weight, PyData.weightAll, Tm.sz]
      omega
theorem Fine.shp {d : PyData} {n : Nat} (h : Fine d n) (l : n ≤ 64) : SeqAt.shaped d = true := shp_of h.lay (Nat.le_trans h.dep l)
theorem Fine.len {d : PyData} {n : Nat} (h : Fine d n) (l : n ≤ 400) : d.shown.length ≤ sizeLine := by
  have z := PyData.shown_le 13 (by decide) d h.lv
  have w := h.wt
  have e : sizeLine = 16777216 := by decide
  rw [e]
  omega
end K37

namespace K37
open PySem PySem.Spec PyProof.Rows L2 L2H HotX Ow Xv
/-! ### ends_behind -/
abbrev NEB : List Str := ["path", "frame", "term", "wrong"]
abbrev PEB : List Str := ["path", "frame", "term"]
theorem scEB : FnScope NEB PEB (defScope sEndsBehind) := ⟨rfl, rfl, rfl, by decide +kernel, rfl, by decide +kernel, by decide +kernel⟩
/-- the ends, or BadTerm with this path ahead -/
def spEB (K : PySem.W.Frag) : Sp := fun vs H Q E => ∃ (q x : Addr) (v : V) (d : PyData) (p0 : List Nat) (xs : List Str) (ls : List Lt), vs = [.ref q, .ref x, v] ∧ SqT K H q (paV p0) ∧ p0.length ≤ 100 ∧ FrmA K H x xs ls ∧ FrOk xs ls ∧ Va K H v d ∧ (preD xs (ls.map (·.1)) [] d).length ≤ 400 ∧
  (∀ p, fl xs (ls.map (·.1)) d = some p → p.length ≤ 400 ∧ RzT K H E (p0 ++ p)) ∧
  ∀ t, d = dat t → Fmd xs (ls.map (·.1)) t → bT ls t = none ∧ ∀ (T : Addr) (H' : Hp), Same H H' → SqT K H' T (prV (eL ls t)) → Q (.ref T) H'
theorem paV_app (p q : List Nat) : paV p ++ paV q = paV (p ++ q) := by
  unfold paV
  rw [List.map_append]
section
variable {P : Program} {w : World} {K : PySem.W.Frag} {mg : Str → Option Value} {base : Heap} {f : Addr} {fd : FuncData}
theorem ok_eb (F : FnP K "ends_behind" sEndsBehind f fd) (Y : Fx w K mg) : FnOk P w K mg base (L2.CX P w) 7 f fd PEB (spEB K) := by
  obtain ⟨dE, FE⟩ := Y.dEndsOf
  have bE := FunD.bindsN (ps := ["frame", "term"]) FE fun _ _ _ _ _ _ us hl => match us, hl with | [_, _], _ => rfl
  have GE : FnOk P w K mg base (L2N.CX P w) 6 _ dE ["frame", "term"] (spEF K) := ok_ef FE Y
  obtain ⟨fI, fdI, iC, tI, FH, bI⟩ := raBTH (P := P) (base := base) Y
  refine F.ok scEB (fun vs H Q E h => ?_) (fun cdv A outer s H vs Q E hr h => ?_)
  · obtain ⟨q, x, v, d, p0, xs, ls, rfl, _⟩ := h
    rfl
  · have nd := scEB.nd
    have hr2 : Room 2 _ := hr.mono (by decide)
    refine ⟨_, pss_one (ps_try_asX (n := "wrong") (i := 3) (tb := fun W => tRet (tCallS (spEF K) (WE W) (tCons (tVar 1) (tCons (tVar 2) tNil)))) (ts := fun a cls0 d0 => fun _ σ H => tMkO (CBadTerm K) (spXP K (CBadTerm K) "path") [] (tCons (tOp (rCatA K) (tVar 0) (tXf a cls0 d0 (CBadTerm K) "path" (tVar 3))) tNil) σ H fun cls d H' => E cls d H') (Wout := fun cls d _ H => E cls d H) rfl rfl rfl nd rfl rfl ⟨rfl, by decide, .inl Y.gBadTerm⟩ (fun hd => passesAt_of rfl hd) (takes_of rfl rfl rfl rfl)
      (fun W pn xe tk _ => pss_one (ps_ret (pe_callS GE hr (by rfl) Y.gEndsOf FE.kp bE (fun σ => L2N.passAt tk σ) (pa_cons (pv 1) (pa_cons (pv 2) pa_nil)))))
      (fun a oe cls d pn xe hz hf tk hot => pss_one (ps_raiseHN hot tk (pmk5_excIH PySem.F.excBase_ValueError Y.xBT.q iC tI Y.xBT.ec.kp (raises_own Y.xBT.ec.be Y.xBT.ty) FH (roomH_mark hr2 _) hot bI pass0 (by rfl) Y.gBadTerm
        (pa_cons (pe_op op_catA (pv 0) (pe_xfP Y.xBT.xf Y.xBT.no List.mem_cons_self (L2N.Zn.zc hz) hf (pv 3))) pa_nil))))), ?_⟩
    obtain ⟨q, x, v, d, p0, xs, ls, rfl, hq, l0, hF, ok, hv, hn, kE, kT⟩ := h
    refine ⟨_, rfl, _, rfl, ?_⟩
    dsimp only [tNil, List.append_nil]
    refine ⟨x, v, d, xs, ls, rfl, hF, ok, hv, hn, fun p hp qa dx H1 s1 hqa hdx hx => ?_, fun t e fm => ⟨fun p hp => ?_, fun hb T H1 s1 hT => (kT t e fm).2 T H1 s1 hT⟩⟩
    · obtain ⟨lp, R⟩ := kE p hp
      refine ⟨true, of_decide_eq_true Y.x7, fun _ a ha => ?_, fun z => Bool.noConfusion z⟩
      refine ⟨_, rfl, _, rfl, rfl, rfl, dx, _, .ref qa, rfl, hx, rfl, ?_⟩
      refine cat_any (sqt_same s1 hq) hqa (by unfold paV; rw [List.length_map, List.length_map]; omega) fun T H2 s2 hT => ⟨by show 1 ≤ 1000; decide, ?_⟩
      refine mkO_tup hT fun d3 H3 s3 hd3 he3 => ?_
      exact R T d3 H3 (s1.trans (s2.trans s3)) (sqt_same s3 (by rw [← paV_app]; exact hT)) (none_of (s1.trans s2) hd3) he3
    · rw [(kT t e fm).1] at hp
      cases hp
end
end K37

namespace K37
open PySem PySem.Spec PyProof.Rows L2 Ow Xv
/-! ### what is used of other pieces -/
theorem fl_dat {xs ns : List Str} : ∀ {t : Tm}, Fmd xs ns t → fl xs ns (dat t) = none
  | .leaf w ss, h => by
    obtain ⟨a, b⟩ := form_dat h
    rw [fl_eq, if_pos a, b]
    rfl
  | .one w t, h => by
    obtain ⟨a, b⟩ := form_dat h
    rw [fl_eq, if_pos a, b]
    show flK _ 0 [dat t] = none
    unfold flK
    rw [fl_dat h.2]
    rfl
  | .two w s t, h => by
    obtain ⟨a, b⟩ := form_dat h
    rw [fl_eq, if_pos a, b]
    show flK _ 0 [dat s, dat t] = none
    unfold flK
    rw [fl_dat h.2.1]
    dsimp only
    unfold flK
    rw [fl_dat h.2.2]
    rfl
theorem strs_inj : ∀ {xs ys : List Str}, xs.map PyData.str = ys.map PyData.str → xs = ys
  | [], [], _ => rfl
  | [], _ :: _, h => by cases h
  | _ :: _, [], h => by cases h
  | x :: xs, y :: ys, h => by
    injection h with h1 h2
    injection h1 with h1
    rw [h1, strs_inj h2]
theorem dat_tup (t : Tm) : ∃ ds, dat t = .tuple ds := by cases t <;> exact ⟨_, rfl⟩
theorem dat_inj : ∀ {t u : Tm}, dat t = dat u → t = u
  | .leaf w ss, .leaf w' ss', h => by
    injection h with h
    injection h with h1 h2
    injection h1 with h1
    rw [h1, strs_inj h2]
  | .leaf w ss, .one w' u, h => by
    exfalso
    injection h with h
    injection h with h1 h2
    obtain ⟨ds, e⟩ := dat_tup u
    rw [e] at h2
    cases ss with
    | nil => cases h2
    | cons x ss => injection h2 with h3; cases h3
  | .leaf w ss, .two w' s u, h => by
    exfalso
    injection h with h
    injection h with h1 h2
    obtain ⟨ds, e⟩ := dat_tup s
    rw [e] at h2
    cases ss with
    | nil => cases h2
    | cons x ss => injection h2 with h3; cases h3
  | .one w' u, .leaf w ss, h => by
    exfalso
    injection h with h
    injection h with h1 h2
    obtain ⟨ds, e⟩ := dat_tup u
    rw [e] at h2
    cases ss with
    | nil => cases h2
    | cons x ss => injection h2 with h3; cases h3
  | .two w' s u, .leaf w ss, h => by
    exfalso
    injection h with h
    injection h with h1 h2
    obtain ⟨ds, e⟩ := dat_tup s
    rw [e] at h2
    cases ss with
    | nil => cases h2
    | cons x ss => injection h2 with h3; cases h3
  | .one w t, .one w' u, h => by
    injection h with h
    injection h with h1 h2
    injection h1 with h1
    injection h2 with h2
    rw [h1, dat_inj h2]
  | .one w t, .two w' s u, h => by
    injection h with h
    injection h with h1 h2
    injection h2 with h2 h3
    cases h3
  | .two w' s u, .one w t, h => by
    injection h with h
    injection h with h1 h2
    injection h2 with h2 h3
    cases h3
  | .two w s t, .two w' s' t', h => by
    injection h with h
    injection h with h1 h2
    injection h1 with h1
    injection h2 with h2 h3
    injection h3 with h3
    rw [h1, dat_inj h2, dat_inj h3]
/-! ### flat, kept, short -/
theorem noneOf_leaf {ws : List Str} {w : Str} {ss : List Str} : noneOf ws (.leaf w ss) = !decide (w ∈ ws) := by
  show (noneB ws (.leaf w ss) && true) = _
  rw [Bool.and_true]
  rfl
theorem noneOf_one {ws : List Str} {w : Str} {t : Tm} : noneOf ws (.one w t) = (!decide (w ∈ ws) && noneOf ws t) := rfl
theorem noneOf_two {ws : List Str} {w : Str} {s t : Tm} : noneOf ws (.two w s t) = (!decide (w ∈ ws) && (noneOf ws s && noneOf ws t)) := by
  show (noneB ws (.two w s t) && ((s.pre ++ t.pre).map (noneB ws)).all id) = _
  rw [List.map_append, List.all_append]
  rfl
theorem leafOk_ne {w : Str} {ss : List Str} (h : LeafOk w ss) : w = "letter" ∨ w = "same" ∨ w = "other" ∨ w = "none" ∨ w = "all" := by
  rcases h with ⟨e, _⟩ | ⟨e, _⟩ | ⟨e, _⟩ | ⟨e, _⟩ | ⟨e, _⟩
  · exact .inl e
  · exact .inr (.inl e)
  · exact .inr (.inr (.inl e))
  · exact .inr (.inr (.inr (.inl e)))
  · exact .inr (.inr (.inr (.inr e)))
theorem leaf_NF {w : Str} {ss : List Str} (h : LeafOk w ss) : decide (w ∈ NF) = false ∧ decide (w ∈ NSh) = false ∧ decide (w = "rest") = false := by
  rcases leafOk_ne h with rfl | rfl | rfl | rfl | rfl <;> exact ⟨by decide +kernel, by decide +kernel, by decide +kernel⟩
theorem none_fB : ∀ {t : Tm}, Rt t → noneOf NF t = fB t
  | .leaf w ss, h => by
    rw [noneOf_leaf, (leaf_NF h).1]
    rfl
  | .one w t, h => by
    rw [noneOf_one, none_fB h.2]
    show (_ && fB t) = (decide (w = "rest" ∨ w = "turned") && fB t)
    rcases h.1 with rfl | rfl | rfl | rfl
    · rw [show decide (("rest" : Str) ∈ NF) = false by decide +kernel, show decide (("rest" : Str) = "rest" ∨ ("rest" : Str) = "turned") = true by decide +kernel]; rfl
    · rw [show decide (("turned" : Str) ∈ NF) = false by decide +kernel, show decide (("turned" : Str) = "rest" ∨ ("turned" : Str) = "turned") = true by decide +kernel]; rfl
    · rw [show decide (("closed" : Str) ∈ NF) = true by decide +kernel, show decide (("closed" : Str) = "rest" ∨ ("closed" : Str) = "turned") = false by decide +kernel]; rfl
    · rw [show decide (("walked" : Str) ∈ NF) = true by decide +kernel, show decide (("walked" : Str) = "rest" ∨ ("walked" : Str) = "turned") = false by decide +kernel]; rfl
  | .two w s t, h => by
    rw [noneOf_two, none_fB h.2.1, none_fB h.2.2]
    show (_ && (fB s && fB t)) = (decide (w = "joined" ∨ w = "cut") && (fB s && fB t))
    rcases h.1 with rfl | rfl | rfl
    · rw [show decide (("joined" : Str) ∈ NF) = false by decide +kernel, show decide (("joined" : Str) = "joined" ∨ ("joined" : Str) = "cut") = true by decide +kernel]; rfl
    · rw [show decide (("cut" : Str) ∈ NF) = false by decide +kernel, show decide (("cut" : Str) = "joined" ∨ ("cut" : Str) = "cut") = true by decide +kernel]; rfl
    · rw [show decide (("then" : Str) ∈ NF) = true by decide +kernel, show decide (("then" : Str) = "joined" ∨ ("then" : Str) = "cut") = false by decide +kernel]; rfl
theorem rkO_app (a b : List Tm) : rkO (a ++ b) = rkO a ++ rkO b := by simp [rkO, List.filter_append, List.flatMap_append]
theorem kept_leaf {w : Str} {ss : List Str} (h : decide (w = "rest") = false) : keptB (.leaf w ss) = true := by
  have e : isRest (.leaf w ss) = false := h
  simp [keptB, Tm.pre, rkO, e]
theorem kept_one {w : Str} {t : Tm} : keptB (.one w t) = ((!decide (w = "rest") || noneOf NF t) && keptB t) := by
  unfold keptB
  rw [show (Tm.one w t).pre = [Tm.one w t] ++ t.pre from rfl, rkO_app, List.map_append, List.all_append]
  congr 1
  by_cases h : w = "rest"
  · have e : isRest (.one w t) = true := decide_eq_true h
    rw [decide_eq_true h]
    simp [rkO, e, Tm.kids]
  · have e : isRest (.one w t) = false := decide_eq_false h
    simp [rkO, e, h]
theorem kept_two {w : Str} {s t : Tm} (h : w ≠ "rest") : keptB (.two w s t) = (keptB s && keptB t) := by
  unfold keptB
  have e : isRest (.two w s t) = false := decide_eq_false h
  rw [show (Tm.two w s t).pre = [Tm.two w s t] ++ (s.pre ++ t.pre) from rfl, rkO_app, rkO_app, List.map_append, List.all_append, List.map_append, List.all_append, show rkO [Tm.two w s t] = [] by simp [rkO, e]]
  rfl
theorem two_ne_rest {w : Str} (h : TwoOk w) : w ≠ "rest" := by
  rcases h with rfl | rfl | rfl <;> decide +kernel
theorem flat_kept : ∀ {t : Tm}, Rt t → FlT t → keptB t = true ∧ noneOf NSh t = true
  | .leaf w ss, h, _ => ⟨kept_leaf (leaf_NF h).2.2, by rw [noneOf_leaf, (leaf_NF h).2.1]; rfl⟩
  | .one w t, h, f => by
    obtain ⟨a, b⟩ := flat_kept h.2 f.2
    refine ⟨?_, ?_⟩
    · rw [kept_one, a, none_fB h.2, (fB_iff t).mpr f.2]
      simp
    · rw [noneOf_one, b]
      rcases f.1 with rfl | rfl <;> decide +kernel
  | .two w s t, h, f => by
    obtain ⟨a, b⟩ := flat_kept h.2.1 f.2.1
    obtain ⟨a2, b2⟩ := flat_kept h.2.2 f.2.2
    refine ⟨?_, ?_⟩
    · rw [kept_two (two_ne_rest h.1), a, a2]; rfl
    · rw [noneOf_two, b, b2]
      rcases f.1 with rfl | rfl <;> decide +kernel
theorem short_kept {t : Tm} (s : Short t) : Rt t → keptB t = true ∧ noneOf NSh t = true := by
  induction s with
  | @leaf w ss => exact fun h => flat_kept h trivial
  | @rest t f => exact fun h => flat_kept h ⟨.inl rfl, f⟩
  | @turned t s ih =>
    intro h
    obtain ⟨a, b⟩ := ih h.2
    refine ⟨?_, ?_⟩
    · rw [kept_one, a, show decide (("turned" : Str) = "rest") = false by decide +kernel]; rfl
    · rw [noneOf_one, b]; decide +kernel
  | @joined s t _ _ i1 i2 =>
    intro h
    obtain ⟨a, b⟩ := i1 h.2.1
    obtain ⟨a2, b2⟩ := i2 h.2.2
    exact ⟨by rw [kept_two (two_ne_rest h.1), a, a2]; rfl, by rw [noneOf_two, b, b2]; decide +kernel⟩
  | @cut s t _ _ i1 i2 =>
    intro h
    obtain ⟨a, b⟩ := i1 h.2.1
    obtain ⟨a2, b2⟩ := i2 h.2.2
    exact ⟨by rw [kept_two (two_ne_rest h.1), a, a2]; rfl, by rw [noneOf_two, b, b2]; decide +kernel⟩
  | @then_ s t _ _ i1 i2 =>
    intro h
    obtain ⟨a, b⟩ := i1 h.2.1
    obtain ⟨a2, b2⟩ := i2 h.2.2
    exact ⟨by rw [kept_two (two_ne_rest h.1), a, a2]; rfl, by rw [noneOf_two, b, b2]; decide +kernel⟩
theorem Ty.fm0 {xs : List Str} {ls : List Lt} {t : Tm} {x y : Str} (h : Ty xs ls t x y) : Fmd xs (ls.map (·.1)) t := by
  induction h with
  | letter h => exact .inl ⟨rfl, _, rfl, List.mem_map_of_mem h⟩
  | same h => exact .inr (.inl ⟨rfl, _, rfl, h⟩)
  | other h => exact .inr (.inr (.inl ⟨rfl, _, rfl, h⟩))
  | none h g => exact .inr (.inr (.inr (.inl ⟨rfl, _, _, rfl, h, g⟩)))
  | all h g => exact .inr (.inr (.inr (.inr ⟨rfl, _, _, rfl, h, g⟩)))
  | rest _ ih => exact ⟨.inl rfl, ih⟩
  | turned _ ih => exact ⟨.inr (.inl rfl), ih⟩
  | closed _ ih => exact ⟨.inr (.inr (.inl rfl)), ih⟩
  | walked _ ih => exact ⟨.inr (.inr (.inr rfl)), ih⟩
  | joined _ _ i1 i2 => exact ⟨.inl rfl, i1, i2⟩
  | cut _ _ i1 i2 => exact ⟨.inr (.inl rfl), i1, i2⟩
  | then_ _ _ i1 i2 => exact ⟨.inr (.inr rfl), i1, i2⟩
/-- all but lists stay -/
def XT (H H' : Hp) : Prop := ∀ b o, H b = some o → (∀ l, o ≠ .lst l) → H' b = some o
theorem XT.of {H H' : Hp} (s : Same H H') : XT H H' := fun b o h _ => s b o h
theorem XT.put {H : Hp} {D : Addr} {l : List V} {o : HO} (e : H D = some (.lst l)) : XT H (upd H D o) := fun b u h n => (upd_ne fun z => by rw [z, e] at h; exact n l (Option.some.inj h).symm).trans h
theorem XT.trans {H H1 H2 : Hp} (a : XT H H1) (b : XT H1 H2) : XT H H2 := fun c o h n => b c o (a c o h n) n
theorem XT.sqt {K : PySem.W.Frag} {H H' : Hp} {a : Addr} {xs : List V} (x : XT H H') (h : SqT K H a xs) : SqT K H' a xs :=
  h.elim (fun h => .inl (h.elim (fun h => .inl (x _ _ h nofun)) fun ⟨o, h⟩ => .inr ⟨o, x _ _ h nofun⟩)) fun h => .inr h
theorem TmAt.xt {K : PySem.W.Frag} {H H' : Hp} (x : XT H H') : ∀ {t : Tm} {a : Addr}, TmAt K H a t → TmAt K H' a t
  | .leaf _ _, _, h => x.sqt h
  | .one _ _, _, ⟨b, h, g⟩ => ⟨b, x.sqt h, g.xt x⟩
  | .two _ _ _, _, ⟨b, c, h, g, g2⟩ => ⟨b, c, x.sqt h, g.xt x, g2.xt x⟩
/-- what stands at each of some places -/
inductive Rs {α : Type} (P : Hp → Addr → α → Prop) (H : Hp) : List Addr → List α → Prop
  | nil : Rs P H [] []
  | cons {a : Addr} {x : α} {as : List Addr} {xs : List α} (h : P H a x) (g : Rs P H as xs) : Rs P H (a :: as) (x :: xs)
def XP {α : Type} (P : Hp → Addr → α → Prop) : Prop := ∀ (H H' : Hp) (a : Addr) (x : α), XT H H' → P H a x → P H' a x
section
variable {α : Type} {P : Hp → Addr → α → Prop} {H H' : Hp}
theorem Rs.xt (hp : XP P) (s : XT H H') : ∀ {as : List Addr} {xs : List α}, Rs P H as xs → Rs P H' as xs
  | _, _, .nil => .nil
  | _, _, .cons h g => .cons (hp _ _ _ _ s h) (g.xt hp s)
theorem Rs.len : ∀ {as : List Addr} {xs : List α}, Rs P H as xs → as.length = xs.length
  | _, _, .nil => rfl
  | _, _, .cons _ g => congrArg Nat.succ g.len
theorem Rs.app : ∀ {as bs : List Addr} {xs ys : List α}, Rs P H as xs → Rs P H bs ys → Rs P H (as ++ bs) (xs ++ ys)
  | _, _, _, _, .nil, g => g
  | _, _, _, _, .cons h r, g => .cons h (r.app g)
theorem Rs.get : ∀ {as : List Addr} {xs : List α}, Rs P H as xs → ∀ {i : Nat} {a : Addr}, as[i]? = some a → ∃ x, xs[i]? = some x ∧ P H a x
  | _, _, .nil, i, a, e => by cases e
  | _, _, .cons h g, 0, a, e => ⟨_, rfl, (Option.some.inj e) ▸ h⟩
  | _, _, .cons h g, i + 1, a, e => g.get (i := i) e
theorem Rs.one {a : Addr} {x : α} (h : P H a x) : Rs P H [a] [x] := .cons h .nil
theorem Rs.getx : ∀ {as : List Addr} {xs : List α}, Rs P H as xs → ∀ {i : Nat} {x : α}, xs[i]? = some x → ∃ a, as[i]? = some a ∧ P H a x
  | _, _, .nil, i, a, e => by cases e
  | _, _, .cons h g, 0, a, e => ⟨_, rfl, (Option.some.inj e) ▸ h⟩
  | _, _, .cons h g, i + 1, a, e => g.getx (i := i) e
end
theorem ne_ends {K : PySem.W.Frag} {H : Hp} {a b : Addr} {p q : Str × Str} {Q : VK} (wp : Wd p.1) (wq : Wd p.2) (wx : Wd q.1) (wy : Wd q.2) (h1 : SqT K H a (prV p)) (h2 : SqT K H b (prV q)) (k : Q (.bl (!decide (p = q))) H) : rNeD K (.ref a) (.ref b) H Q := by
  refine ⟨.tuple [.str p.1, .str p.2], .tuple [.str q.1, .str q.2], .tup h1 (.cons (.str _) (.cons (.str _) .nil)), .tup h2 (.cons (.str _) (.cons (.str _) .nil)), shp_pair wp wq, shp_pair wx wy, ?_⟩
  rw [show PyData.eqv (.tuple [.str p.1, .str p.2]) (.tuple [.str q.1, .str q.2]) = decide ([p.1, p.2] = [q.1, q.2]) from eqv_strs [p.1, p.2] [q.1, q.2]]
  rw [show decide ([p.1, p.2] = [q.1, q.2]) = decide (p = q) by
    obtain ⟨a, b⟩ := p
    obtain ⟨c, d⟩ := q
    simp]
  exact k
end K37

namespace K37
open PySem PySem.Spec PyProof.Rows L2 Ow Xv
/-! ### a premise judged -/
inductive Er
  | term (p : List Nat)
  | kept (n : Nat)
  | flat (n : Nat)
  | ends (n : Nat)
def RzN (C : Addr) (H : Hp) (E : XK) (n : Nat) : Prop := ∀ (dx : Addr) (H' : Hp), Same H H' → H dx = none → H' dx = some (.xd [("number", .int (n : Int))]) → E (.ref C) (some dx) H'
def RzE (K : PySem.W.Frag) (H : Hp) (E : XK) : Er → Prop
  | .term p => RzT K H E p
  | .kept n => RzN (CNotKept K) H E n
  | .flat n => RzN (CNotFlat K) H E n
  | .ends n => RzN (CMixedEnds K) H E n
theorem RzT.same {K : PySem.W.Frag} {H H' : Hp} {E : XK} {p : List Nat} (s : Same H H') (h : RzT K H E p) : RzT K H' E p := fun q dx H2 s2 hq hd hx => h q dx H2 (s.trans s2) hq (none_of s hd) hx
theorem RzN.same {H H' : Hp} {C : Addr} {E : XK} {n : Nat} (s : Same H H') (h : RzN C H E n) : RzN C H' E n := fun dx H2 s2 hd hx => h dx H2 (s.trans s2) (none_of s hd) hx
theorem RzE.same {K : PySem.W.Frag} {H H' : Hp} {E : XK} (s : Same H H') : ∀ {e : Er}, RzE K H E e → RzE K H' E e
  | .term _, h => RzT.same s h
  | .kept _, h => RzN.same s h
  | .flat _, h => RzN.same s h
  | .ends _, h => RzN.same s h
/-- a side of a premise: a right term, or a value whose first wrong part has this path -/
inductive Sd
  | ok (t : Tm) (a b : Str)
  | bad (d : PyData) (p : List Nat)
def Sd.val : Sd → PyData
  | .ok t _ _ => dat t
  | .bad d _ => d
def SdOk (xs : List Str) (ls : List Lt) : Sd → Prop
  | .ok t a b => Ty xs ls t a b ∧ t.sz ≤ 60
  | .bad d p => fl xs (ls.map (·.1)) d = some p ∧ (preD xs (ls.map (·.1)) [] d).length ≤ 400 ∧ p.length ≤ 50
/-- what is due of a premise -/
def dueP (n : Nat) : Sd → Sd → Option Er
  | .bad _ p, _ => some (.term (n :: 0 :: p))
  | .ok _ _ _, .bad _ p => some (.term (n :: 1 :: p))
  | .ok s a b, .ok t c d => if keptB s = false then some (.kept n) else if noneOf NF t = false then some (.flat n) else if (a, b) ≠ (c, d) then some (.ends n) else none
theorem eb_sd {K : PySem.W.Frag} {H : Hp} {q x : Addr} {v : V} {p0 : List Nat} {xs : List Str} {ls : List Lt} {sd : Sd} {Q : VK} {E : XK} (hq : SqT K H q (paV p0)) (l0 : p0.length ≤ 100) (hF : FrmA K H x xs ls) (ok : FrOk xs ls) (hv : Va K H v sd.val) (o : SdOk xs ls sd)
    (kE : ∀ d p, sd = .bad d p → RzT K H E (p0 ++ p)) (k : ∀ t a b, sd = .ok t a b → ∀ (T : Addr) (H' : Hp), Same H H' → SqT K H' T (prV (a, b)) → Q (.ref T) H') : spEB K [.ref q, .ref x, v] H Q E := by
  cases sd with
  | ok t a b =>
    obtain ⟨hty, hsz⟩ := o
    have fm := Ty.fm0 hty
    obtain ⟨e1, e2⟩ := Ty.eL (fun q hq => find_nd ok.nl.nd hq) hty
    refine ⟨q, x, v, dat t, p0, xs, ls, rfl, hq, l0, hF, ok, hv, by rw [pre_dat [] fm]; omega, fun p hp => ?_, fun u eu fmu => ?_⟩
    · rw [fl_dat fm] at hp
      cases hp
    · rw [← dat_inj eu]
      exact ⟨e2, fun T H' s hT => k t a b rfl T H' s (by rw [e1] at hT; exact hT)⟩
  | bad d p =>
    obtain ⟨h1, h2, h3⟩ := o
    refine ⟨q, x, v, d, p0, xs, ls, rfl, hq, l0, hF, ok, hv, h2, fun p' hp => ?_, fun u eu fmu => ?_⟩
    · rw [h1] at hp
      cases hp
      exact ⟨by omega, kE d p rfl⟩
    · rw [eu, fl_dat fmu] at h1
      cases h1
theorem Ty.two {xs : List Str} {ls : List Lt} (ok : FrOk xs ls) {t : Tm} {x y : Str} (h : Ty xs ls t x y) : x ∈ xs ∧ y ∈ xs := by
  induction h with
  | letter h => exact ok.ends _ h
  | same h => exact ⟨h, h⟩
  | other h => exact ⟨h, h⟩
  | none h g => exact ⟨h, g⟩
  | all h g => exact ⟨h, g⟩
  | rest _ ih => exact ih
  | turned _ ih => exact ⟨ih.2, ih.1⟩
  | closed _ ih => exact ih
  | walked _ ih => exact ih
  | joined _ _ ih _ => exact ih
  | cut _ _ ih _ => exact ih
  | then_ _ _ i1 i2 => exact ⟨i1.1, i2.2⟩
theorem Ty.wd {xs : List Str} {ls : List Lt} (ok : FrOk xs ls) {t : Tm} {x y : Str} (h : Ty xs ls t x y) : Wd x ∧ Wd y := ⟨ok.nx.w _ (Ty.two ok h).1, ok.nx.w _ (Ty.two ok h).2⟩
abbrev NCP : List Str := ["frame", "number", "p", "q", "ends", "others"]
abbrev PCP : List Str := ["frame", "number", "p", "q"]
theorem scCP : FnScope NCP PCP (defScope sCheckPremise) := ⟨rfl, rfl, rfl, by decide +kernel, rfl, by decide +kernel, by decide +kernel⟩
def spCP (K : PySem.W.Frag) : Sp := fun vs H Q E => ∃ (x : Addr) (n : Nat) (v1 v2 : V) (xs : List Str) (ls : List Lt) (s1 s2 : Sd), vs = [.ref x, .int (n : Int), v1, v2] ∧ FrmA K H x xs ls ∧ FrOk xs ls ∧ Va K H v1 s1.val ∧ Va K H v2 s2.val ∧ SdOk xs ls s1 ∧ SdOk xs ls s2 ∧
  (∀ e, dueP n s1 s2 = some e → RzE K H E e) ∧ (dueP n s1 s2 = none → ∀ H', Same H H' → Q .non H')
section
variable {P : Program} {w : World} {K : PySem.W.Frag} {mg : Str → Option Value} {base : Heap} {f : Addr} {fd : FuncData}
theorem Fx.xNK (Y : Fx w K mg) : XC K (CNotKept K) "number" veB "ValueError.__new__" := xc_of Y.x12
theorem Fx.xNF (Y : Fx w K mg) : XC K (CNotFlat K) "number" veB "ValueError.__new__" := xc_of Y.x13
theorem Fx.xME (Y : Fx w K mg) : XC K (CMixedEnds K) "number" veB "ValueError.__new__" := xc_of Y.x14
theorem scXK1 : FnScope ["self", "number"] ["self", "number"] (defScope sNotKept_Init) := ⟨rfl, rfl, rfl, by decide +kernel, rfl, by decide +kernel, by decide +kernel⟩
theorem scXK2 : FnScope ["self", "number"] ["self", "number"] (defScope sNotFlat_Init) := ⟨rfl, rfl, rfl, by decide +kernel, rfl, by decide +kernel, by decide +kernel⟩
theorem scXK3 : FnScope ["self", "number"] ["self", "number"] (defScope sMixedEnds_Init) := ⟨rfl, rfl, rfl, by decide +kernel, rfl, by decide +kernel, by decide +kernel⟩
theorem raNK (Y : Fx w K mg) : RaC P w K mg base (CNotKept K) ["self", "number"] (spXI (CNotKept K) "number") := by
  obtain ⟨fd, F⟩ := Y.dNotKept_Init
  have b := FunD.bindsN (ps := ["self", "number"]) F fun _ _ _ _ _ _ us hl => match us, hl with | [_, _], _ => rfl
  refine ⟨⟨_, _, _, _, _, fd, PySem.F.excBase_ValueError, Y.xNK.q, Y.xNK.iC, Y.xNK.tI, ?_, b⟩, Y.xNK.ec.kp, Y.xNK.ec.be, Y.xNK.ty⟩
  refine okD F scXK1 (fun vs H Q E h => ?_) (fun cdv A outer s H vs Q E hr h => ?_)
  · obtain ⟨a, x, rfl, _⟩ := h
    rfl
  · refine ⟨_, pss_one (ps_st (C := CNotKept K) PySem.F.store_ValueError Y.xNK.ec Y.xNK.ov Y.xNK.tk (pv 0) (pv 1)), ?_⟩
    obtain ⟨a, x, rfl, ha, k⟩ := h
    exact ⟨_, rfl, _, rfl, a, rfl, .inl ⟨ha, fun dx h1 h2 => k dx h1 h2⟩⟩
theorem raNF (Y : Fx w K mg) : RaC P w K mg base (CNotFlat K) ["self", "number"] (spXI (CNotFlat K) "number") := by
  obtain ⟨fd, F⟩ := Y.dNotFlat_Init
  have b := FunD.bindsN (ps := ["self", "number"]) F fun _ _ _ _ _ _ us hl => match us, hl with | [_, _], _ => rfl
  refine ⟨⟨_, _, _, _, _, fd, PySem.F.excBase_ValueError, Y.xNF.q, Y.xNF.iC, Y.xNF.tI, ?_, b⟩, Y.xNF.ec.kp, Y.xNF.ec.be, Y.xNF.ty⟩
  refine okD F scXK2 (fun vs H Q E h => ?_) (fun cdv A outer s H vs Q E hr h => ?_)
  · obtain ⟨a, x, rfl, _⟩ := h
    rfl
  · refine ⟨_, pss_one (ps_st (C := CNotFlat K) PySem.F.store_ValueError Y.xNF.ec Y.xNF.ov Y.xNF.tk (pv 0) (pv 1)), ?_⟩
    obtain ⟨a, x, rfl, ha, k⟩ := h
    exact ⟨_, rfl, _, rfl, a, rfl, .inl ⟨ha, fun dx h1 h2 => k dx h1 h2⟩⟩
theorem raME (Y : Fx w K mg) : RaC P w K mg base (CMixedEnds K) ["self", "number"] (spXI (CMixedEnds K) "number") := by
  obtain ⟨fd, F⟩ := Y.dMixedEnds_Init
  have b := FunD.bindsN (ps := ["self", "number"]) F fun _ _ _ _ _ _ us hl => match us, hl with | [_, _], _ => rfl
  refine ⟨⟨_, _, _, _, _, fd, PySem.F.excBase_ValueError, Y.xME.q, Y.xME.iC, Y.xME.tI, ?_, b⟩, Y.xME.ec.kp, Y.xME.ec.be, Y.xME.ty⟩
  refine okD F scXK3 (fun vs H Q E h => ?_) (fun cdv A outer s H vs Q E hr h => ?_)
  · obtain ⟨a, x, rfl, _⟩ := h
    rfl
  · refine ⟨_, pss_one (ps_st (C := CMixedEnds K) PySem.F.store_ValueError Y.xME.ec Y.xME.ov Y.xME.tk (pv 0) (pv 1)), ?_⟩
    obtain ⟨a, x, rfl, ha, k⟩ := h
    exact ⟨_, rfl, _, rfl, a, rfl, .inl ⟨ha, fun dx h1 h2 => k dx h1 h2⟩⟩
theorem ok_cp (F : FnP K "_check_premise" sCheckPremise f fd) (Y : Fx w K mg) : FnOk P w K mg base (L2.CX P w) 8 f fd PCP (spCP K) := by
  obtain ⟨dB, FB⟩ := Y.dEndsBehind
  obtain ⟨dK, FK⟩ := Y.dIsKept
  obtain ⟨dF, FF⟩ := Y.dIsFlat
  have bB := FunD.bindsN (ps := PEB) FB fun _ _ _ _ _ _ us hl => match us, hl with | [_, _, _], _ => rfl
  have bK := FunD.bindsN (ps := ["term"]) FK fun _ _ _ _ _ _ us hl => match us, hl with | [_], _ => rfl
  have bF := FunD.bindsN (ps := ["term"]) FF fun _ _ _ _ _ _ us hl => match us, hl with | [_], _ => rfl
  have GB : FnOk P w K mg base (L2.CX P w) 7 _ dB PEB (spEB K) := ok_eb FB Y
  have GK : FnOk P w K mg base CX0 7 _ dK ["term"] (spBo K keptB) := ok_ik FK Y
  have GF : FnOk P w K mg base CX0 6 _ dF ["term"] (spBo K (noneOf NF)) := ok_if FF Y
  refine F.ok scCP (fun vs H Q E h => ?_) (fun cdv A outer s H vs Q E hr h => ?_)
  · obtain ⟨x, n, v1, v2, xs, ls, s1, s2, rfl, _⟩ := h
    rfl
  · have nd := scCP.nd
    have hu64 := hu64_of hr
    have hr2 : Room 2 _ := hr.mono (by decide)
    have hr6 : Room 6 _ := hr.mono (by decide)
    refine ⟨_, pss_cons (ps_set (i := 4) nd rfl (Or.inl rfl) (pe_callS GB hr (by rfl) Y.gEndsBehind FB.kp bB (fun σ => passAt (takes_of rfl rfl rfl rfl) σ) (pa_cons (pe_tup (pa_cons (pv 1) (pa_cons pe_int pa_nil))) (pa_cons (pv 0) (pa_cons (pv 2) pa_nil)))))
      (pss_cons (ps_set (i := 5) nd rfl (Or.inl rfl) (pe_callS GB hr (by rfl) Y.gEndsBehind FB.kp bB (fun σ => passAt (takes_of rfl rfl rfl rfl) σ) (pa_cons (pe_tup (pa_cons (pv 1) (pa_cons pe_int pa_nil))) (pa_cons (pv 0) (pa_cons (pv 3) pa_nil)))))
      (pss_cons (ps_if (pt_not (pt_val (pe_call GK hr (by rfl) Y.gIsKept FK.kp bK .nil pass0 (pa_cons (pv 2) pa_nil)))) (pss_one (ps_raise rfl (takes_of rfl rfl rfl rfl) (pmk_ra (raNK Y) hr2 (by rfl) Y.gNotKept (pa_cons (pv 1) pa_nil)))) pss_nil)
      (pss_cons (ps_if (pt_not (pt_val (pe_call GF hr6 (by rfl) Y.gIsFlat FF.kp bF .nil pass0 (pa_cons (pv 3) pa_nil)))) (pss_one (ps_raise rfl (takes_of rfl rfl rfl rfl) (pmk_ra (raNF Y) hr2 (by rfl) Y.gNotFlat (pa_cons (pv 1) pa_nil)))) pss_nil)
      (pss_one (ps_if (pt_cmpR (op_neD hu64) (pv 4) (pv 5) (nomark _)) (pss_one (ps_raise rfl (takes_of rfl rfl rfl rfl) (pmk_ra (raME Y) hr2 (by rfl) Y.gMixedEnds (pa_cons (pv 1) pa_nil)))) pss_nil))))), ?_⟩
    obtain ⟨x, n, v1, v2, xs, ls, s1, s2, rfl, hF, ok, hv1, hv2, o1, o2, kE, k⟩ := h
    refine ⟨_, rfl, szl (by show 2 ≤ 1000; decide), fun q1 hq1 => ⟨_, rfl, _, rfl, ?_⟩⟩
    have z1 := same_upd (o := .tup [V.int (n : Int), V.int 0]) hq1
    dsimp only [tNil, List.append_nil]
    refine eb_sd (p0 := [n, 0]) (SqT.of upd_same) (by show 2 ≤ 100; decide) (hF.same z1) ok (hv1.mono z1) o1 (fun d p e => ?_) fun t1 a1 b1 e1 T1 H1 y1 hT1 => ?_
    · exact (kE (.term (n :: 0 :: p)) (by rw [e]; cases s2 <;> rfl)).same z1
    subst e1
    obtain ⟨ty1, sz1⟩ := o1
    have w1 := z1.trans y1
    refine ⟨_, rfl, szl (by show 2 ≤ 1000; decide), fun q2 hq2 => ⟨_, rfl, _, rfl, ?_⟩⟩
    have z2 := same_upd (o := .tup [V.int (n : Int), V.int 1]) hq2
    have w2 := w1.trans z2
    dsimp only [tNil, List.append_nil]
    refine eb_sd (p0 := [n, 1]) (SqT.of upd_same) (by show 2 ≤ 100; decide) (hF.same w2) ok (hv2.mono w2) o2 (fun d p e => ?_) fun t2 a2 b2 e2 T2 H2 y2 hT2 => ?_
    · exact (kE (.term (n :: 1 :: p)) (by rw [e]; rfl)).same w2
    subst e2
    obtain ⟨ty2, sz2⟩ := o2
    have w3 := w2.trans y2
    obtain ⟨u1, rfl, hu1⟩ := va_tm hv1
    obtain ⟨u2, rfl, hu2⟩ := va_tm hv2
    -- kept
    refine ⟨_, rfl, u1, t1, rfl, hu1.same w3, Ty.rt ok ty1, by omega, fun H3 y3 => ⟨_, rfl, ?_⟩⟩
    have w4 := w3.trans y3
    cases ek : keptB t1 with
    | false =>
      have R := (kE (.kept n) (by show (if keptB t1 = false then _ else _) = _; rw [if_pos ek])).same w4
      exact iteT ⟨_, rfl, by show 1 ≤ 1000; decide, mkO_at fun d H4 y4 hd he => R d H4 y4 hd he⟩
    | true =>
    refine iteF ?_
    refine ⟨_, rfl, u2, t2, rfl, hu2.same w4, Ty.rt ok ty2, by omega, fun H4 y4 => ⟨_, rfl, ?_⟩⟩
    have w5 := w4.trans y4
    cases ef : noneOf NF t2 with
    | false =>
      have R := (kE (.flat n) (by show (if keptB t1 = false then _ else if noneOf NF t2 = false then _ else _) = _; rw [if_neg (by rw [ek]; decide), if_pos ef])).same w5
      exact iteT ⟨_, rfl, by show 1 ≤ 1000; decide, mkO_at fun d H5 y5 hd he => R d H5 y5 hd he⟩
    | true =>
    refine iteF ?_
    have wa := Ty.wd ok ty1
    have wb := Ty.wd ok ty2
    refine ⟨_, rfl, _, rfl, ne_ends wa.1 wa.2 wb.1 wb.2 (sqt_same (z2.trans (y2.trans (y3.trans y4))) hT1) (sqt_same (y3.trans y4) hT2) ⟨_, rfl, ?_⟩⟩
    by_cases ee : ((a1, b1) : Str × Str) = (a2, b2)
    · rw [decide_eq_true ee]
      exact iteF (k (by show (if keptB t1 = false then _ else if noneOf NF t2 = false then _ else if (a1, b1) ≠ (a2, b2) then _ else _) = _; rw [if_neg (by rw [ek]; decide), if_neg (by rw [ef]; decide), if_neg (by simpa using ee)]) _ w5)
    · rw [decide_eq_false ee]
      have R := (kE (.ends n) (by show (if keptB t1 = false then _ else if noneOf NF t2 = false then _ else if (a1, b1) ≠ (a2, b2) then _ else _) = _; rw [if_neg (by rw [ek]; decide), if_neg (by rw [ef]; decide), if_pos ee])).same w5
      exact iteT ⟨_, rfl, by show 1 ≤ 1000; decide, mkO_at fun d H5 y5 hd he => R d H5 y5 hd he⟩
end
end K37

namespace K37
open PySem PySem.Spec PyProof.Rows L2 Ow Xv
/-! ### books -/
def dueL : Nat → List (Sd × Sd) → Option Er
  | _, [] => none
  | k, r :: rs => match dueP k r.1 r.2 with
    | some e => some e
    | none => dueL (k + 1) rs
/-- at a stands the tuple of a premise -/
def PrAt (K : PySem.W.Frag) (H : Hp) (a : Addr) (r : Sd × Sd) : Prop := ∃ v1 v2, SqT K H a [v1, v2] ∧ Va K H v1 r.1.val ∧ Va K H v2 r.2.val
theorem PrAt.same {K : PySem.W.Frag} {H H' : Hp} (s : Same H H') {a : Addr} {r : Sd × Sd} (h : PrAt K H a r) : PrAt K H' a r := let ⟨v1, v2, x, y, z⟩ := h; ⟨v1, v2, sqt_same s x, y.mono s, z.mono s⟩
theorem Rs.mono {α : Type} {P : Hp → Addr → α → Prop} {H H' : Hp} (h : ∀ a x, P H a x → P H' a x) : ∀ {as : List Addr} {xs : List α}, Rs P H as xs → Rs P H' as xs
  | _, _, .nil => .nil
  | _, _, .cons a g => .cons (h _ _ a) (g.mono h)
theorem Rs.pr {K : PySem.W.Frag} {H H' : Hp} (s : Same H H') {as : List Addr} {rs : List (Sd × Sd)} (h : Rs (PrAt K) H as rs) : Rs (PrAt K) H' as rs := h.mono fun _ _ z => z.same s
section
variable {K : PySem.W.Frag} {x : Addr} {H H' : Hp}
mutual
theorem Keep.va (k : Keep x H H') (hx : ∃ u, H x = some u ∧ isIns u = true) : ∀ {v : V} {d : PyData}, Va K H v d → Va K H' v d
  | _, _, .non => .non
  | _, _, .bl b => .bl b
  | _, _, .int i => .int i
  | _, _, .str y => .str y
  | _, _, .lst h g => .lst (Keep.sql k hx h) (Keep.vas k hx g)
  | _, _, .tup h g => .tup (Keep.sqt k hx h) (Keep.vas k hx g)
  | _, _, .dic e => .dic (Keep.one k hx e rfl)
theorem Keep.vas (k : Keep x H H') (hx : ∃ u, H x = some u ∧ isIns u = true) : ∀ {vs : List V} {ds : List PyData}, VaAll K H vs ds → VaAll K H' vs ds
  | _, _, .nil => .nil
  | _, _, .cons h g => .cons (Keep.va k hx h) (Keep.vas k hx g)
end
theorem Keep.prs (k : Keep x H H') (hx : ∃ u, H x = some u ∧ isIns u = true) {as : List Addr} {rs : List (Sd × Sd)} (h : Rs (PrAt K) H as rs) : Rs (PrAt K) H' as rs := h.mono fun _ _ ⟨v1, v2, a, b, c⟩ => ⟨v1, v2, k.sqt hx a, k.va hx b, k.va hx c⟩
end
/-- the book of this frame and these premises -/
def BkAt (K : PySem.W.Frag) (H : Hp) (x fr : Addr) (rs : List (Sd × Sd)) : Prop := ∃ (dx T : Addr) (as : List Addr), H x = some (.ins (CBook K) dx [("_frame", .ref fr), ("_premises", .ref T)]) ∧ SqT K H T (as.map V.ref) ∧ Rs (PrAt K) H as rs
theorem BkAt.same {K : PySem.W.Frag} {H H' : Hp} {x fr : Addr} {rs : List (Sd × Sd)} (s : Same H H') (h : BkAt K H x fr rs) : BkAt K H' x fr rs := let ⟨dx, T, as, a, b, c⟩ := h; ⟨dx, T, as, s _ _ a, sqt_same s b, c.pr s⟩
def RowsOk (xs : List Str) (ls : List Lt) (rs : List (Sd × Sd)) : Prop := ∀ r ∈ rs, SdOk xs ls r.1 ∧ SdOk xs ls r.2
abbrev NBI : List Str := ["self", "frame", "premises", "number", "p", "q"]
theorem scBI : FnScope NBI ["self", "frame", "premises"] (defScope sBook_Init) := ⟨rfl, rfl, rfl, by decide +kernel, rfl, by decide +kernel, by decide +kernel⟩
def spBI (K : PySem.W.Frag) : Sp := fun vs H Q E => ∃ (x fr p dx : Addr) (xs : List Str) (ls : List Lt) (as : List Addr) (rs : List (Sd × Sd)), vs = [.ref x, .ref fr, .ref p] ∧ H x = some (.ins (CBook K) dx []) ∧ FrmA K H fr xs ls ∧ FrOk xs ls ∧ SqL K H p (as.map V.ref) ∧ Rs (PrAt K) H as rs ∧ RowsOk xs ls rs ∧ rs.length ≤ 50 ∧
  (∀ e, dueL 0 rs = some e → RzE K H E e) ∧ (dueL 0 rs = none → ∀ H', Keep x H H' → BkAt K H' x fr rs → Q .non H')
theorem dueL_at {rs : List (Sd × Sd)} : ∀ {k i : Nat} {r : Sd × Sd}, (∀ j r, j < i → rs[j]? = some r → dueP (k + j) r.1 r.2 = none) → rs[i]? = some r → ∀ {e : Er}, dueP (k + i) r.1 r.2 = some e → dueL k rs = some e := by
  induction rs with
  | nil => intro k i r _ h; cases h
  | cons a rs ih =>
    intro k i r hj hr e he
    cases i with
    | zero =>
      cases hr
      show (match dueP k a.1 a.2 with | some e => some e | none => dueL (k + 1) rs) = some e
      rw [show dueP k a.1 a.2 = some e from he]
    | succ i =>
      show (match dueP k a.1 a.2 with | some e => some e | none => dueL (k + 1) rs) = some e
      rw [show dueP k a.1 a.2 = none from hj 0 a (Nat.succ_pos _) rfl]
      refine ih (k := k + 1) (i := i) (fun j r hlt hg => ?_) hr (by rw [show k + 1 + i = k + (i + 1) by omega]; exact he)
      rw [show k + 1 + j = k + (j + 1) by omega]
      exact hj (j + 1) r (by omega) hg
theorem dueL_no {rs : List (Sd × Sd)} : ∀ {k : Nat}, (∀ j r, rs[j]? = some r → dueP (k + j) r.1 r.2 = none) → dueL k rs = none := by
  induction rs with
  | nil => intro k _; rfl
  | cons a rs ih =>
    intro k hj
    show (match dueP k a.1 a.2 with | some e => some e | none => dueL (k + 1) rs) = none
    rw [show dueP k a.1 a.2 = none from hj 0 a rfl]
    refine ih fun j r hg => ?_
    rw [show k + 1 + j = k + (j + 1) by omega]
    exact hj (j + 1) r hg
section
variable {P : Program} {w : World} {K : PySem.W.Frag} {mg : Str → Option Value} {base : Heap} {f : Addr} {fd : FuncData}
theorem ok_bi (F : FnM K "__init__" "Book.__init__" sBook_Init f fd) (Y : Fx w K mg) : FnOk P w K mg base (L2.CX P w) 9 f fd ["self", "frame", "premises"] (spBI K) := by
  obtain ⟨d1, F1⟩ := Y.dCheckPremise
  have b1 := FunD.bindsN (ps := PCP) F1 fun _ _ _ _ _ _ us hl => match us, hl with | [_, _, _, _], _ => rfl
  have G1 : FnOk P w K mg base (L2.CX P w) 8 _ d1 PCP (spCP K) := ok_cp F1 Y
  refine F.ok scBI (fun vs H Q E h => ?_) (fun cdv A outer s H vs Q E hr h => ?_)
  · obtain ⟨x, fr, p, dx, xs, ls, as, rs, rfl, _⟩ := h
    rfl
  · have nd := scBI.nd
    refine ⟨_, pss_cons (ps_for (passes_of rfl) rfl (pi_enumA (by rfl) Y.bEnumerate (pa_cons (pv 2) pa_nil)) (pg_tup rfl (pgs_cons (pg_name (i := 3) nd rfl (Or.inl rfl)) (pgs_cons (pg_tup rfl (pgs_cons (pg_name (i := 4) nd rfl (Or.inl rfl)) (pgs_cons (pg_name (i := 5) nd rfl (Or.inl rfl)) pgs_nil))) pgs_nil)))
        (pss_one (ps_expr (pe_callS G1 hr (by rfl) Y.gCheckPremise F1.kp b1 (fun σ => passAt (takes_of rfl rfl rfl rfl) σ) (pa_cons (pv 1) (pa_cons (pv 3) (pa_cons (pv 4) (pa_cons (pv 5) pa_nil))))))))
      (pss_cons (ps_fld (pv 0) (pv 1) rfl)
      (pss_one (ps_fld (pv 0) (pe_callTy call_tupA (by rfl) Y.bTuple (by decide +kernel) (pa_cons
          (pe_lc (own := [("p", 4), ("q", 5)]) (g := gTup K 2 (gCons (gName 4) (gCons (gName 5) gNil))) (tt := tYes) (te := tTup (tCons (tVar 4) (tCons (tVar 5) tNil))) rfl nd (pi_list (pv 2)) (blkOk_by (N := NBI) (sc := defScope sBook_Init) (by decide +kernel))
            (fun _ _ _ _ _ => pg_tup rfl (pgs_cons (pg_name (i := 4) nd rfl (Or.inl rfl)) (pgs_cons (pg_name (i := 5) nd rfl (Or.inl rfl)) pgs_nil))) (fun _ _ _ _ _ => pts_nil) (fun _ _ _ _ _ => pe_tup (pa_cons (pv 4) (pa_cons (pv 5) pa_nil)))) pa_nil)) rfl))), ?_⟩
    obtain ⟨x, fr, p, dx, xs, ls, as, rs, rfl, hx, hF, ok, hp, hR, ro, l50, kE, k⟩ := h
    have la := hR.len
    refine ⟨_, rfl, p, _, rfl, .inl hp, fun J GG wk gk => ?_⟩
    refine for_it wk (fun i σ G => (∃ v3 v4 v5, σ = [some (.ref x), some (.ref fr), some (.ref p), v3, v4, v5]) ∧ (∀ j r, j < i → rs[j]? = some r → dueP j r.1 r.2 = none) ∧ Same H G) ⟨⟨none, none, none, rfl⟩, fun j r hj => absurd hj (Nat.not_lt_zero _), Same.refl _⟩ (fun i σ G _ p => gk G p.2.2) ?_ ?_
    · rintro i v σ G G' hi ⟨⟨v3, v4, v5, rfl⟩, hno, sm⟩ ⟨T, x', y, rfl, hT, rfl, ex, ey⟩
      cases ex
      obtain ⟨a, ea, rfl⟩ := ref_at (show (as.map V.ref)[i]? = some y from ey)
      obtain ⟨r, er, v1, v2, h1, h2, h3⟩ := hR.get ea
      have sT := same_upd (o := .tup [V.int (i : Int), V.ref a]) hT
      have sA := sm.trans sT
      refine ⟨T, _, rfl, SqT.of upd_same, rfl, _, _, rfl, _, _, rfl, a, _, rfl, sqt_same sA h1, rfl, _, _, rfl, _, _, rfl, rfl, rfl, ?_⟩
      dsimp only
      obtain ⟨o1, o2⟩ := ro r (List.mem_of_getElem? er)
      refine ⟨_, rfl, _, rfl, _, rfl, _, rfl, ?_⟩
      dsimp only [tNil, List.append_nil]
      refine ⟨fr, i, v1, v2, xs, ls, r.1, r.2, rfl, hF.same sA, ok, h2.mono sA, h3.mono sA, o1, o2, fun e he => ?_, fun hn H' s' => ⟨⟨_, _, _, rfl⟩, fun j r' hj hr' => ?_, sA.trans s'⟩⟩
      · exact (kE e (dueL_at (k := 0) (i := i) (fun j r hj hg => by rw [Nat.zero_add]; exact hno j r hj hg) er (by rw [Nat.zero_add]; exact he))).same sA
      · by_cases e : j = i
        · subst e
          rw [er] at hr'
          cases hr'
          exact hn
        · exact hno j r' (by omega) hr'
    · rintro σ G ⟨⟨v3, v4, v5, rfl⟩, hno, sm⟩
      rw [List.length_map, la] at hno
      have hdue : dueL 0 rs = none := dueL_no fun j r hg => by rw [Nat.zero_add]; exact hno j r (List.getElem?_eq_some_iff.mp hg).1 hg
      refine ⟨_, rfl, _, rfl, x, CBook K, dx, _, rfl, sm _ _ hx, Y.cBook, Y.nBookFrame, (by show 0 < 1000; decide), ?_⟩
      have k1 : Keep x H (upd G x (.ins (CBook K) dx [("_frame", .ref fr)])) := (Keep.of sm).trans .put
      have hx0 : ∃ u, H x = some u ∧ isIns u = true := ⟨_, hx, rfl⟩
      have hp2 := k1.sql hx0 hp
      have hR2 := k1.prs hx0 hR
      obtain ⟨G1, eG⟩ : ∃ Z, Z = upd G x (.ins (CBook K) dx [("_frame", .ref fr)]) := ⟨_, rfl⟩
      have ex1 : G1 x = some (.ins (CBook K) dx [("_frame", .ref fr)]) := by rw [eG]; exact upd_same
      have eP : putF ("_frame" : Str) (V.ref fr) [] = [(("_frame" : Str), V.ref fr)] := rfl
      rw [eP]
      rw [← eG] at k1 hp2 hR2 ⊢
      clear eG eP
      refine ⟨_, rfl, p, rfl, ⟨_, hp2⟩, fun D hD => ?_⟩
      refine lc_list (K := K) (a := p) (xs := as.map V.ref) (fun i G2 => ∃ qs : List Addr, G2 D = some (.lst (qs.map V.ref)) ∧ Rs (PrAt K) (del G2 D) qs (rs.take i) ∧ Same G1 G2 ∧ qs.length = i) ⟨[], upd_same, .nil, same_upd hD, rfl⟩ (fun i G2 _ q => by obtain ⟨_, _, _, q, _⟩ := q; exact q.seq hp2) ?_ ?_
      · rintro i v G2 hi ⟨qs, eq, hq, sm2, lq⟩
        obtain ⟨a, ea, rfl⟩ := ref_at hi
        obtain ⟨r, er, v1, v2, h1, h2, h3⟩ := hR2.get ea
        refine ⟨a, _, rfl, sqt_same sm2 h1, rfl, _, _, rfl, _, _, rfl, rfl, rfl, _, rfl, _, rfl, szl (by show 2 ≤ 1000; decide), fun T hT => ?_⟩
        have sT := same_upd (o := .tup [v1, v2]) hT
        have nD : T ≠ D := fun z => by rw [z, eq] at hT; cases hT
        have li := (List.getElem?_eq_some_iff.mp er).1
        refine ⟨_, sT _ _ eq, by rw [List.length_map]; exact small1000 (by omega), qs ++ [T], by rw [upd_same, List.map_append]; rfl, ?_, same_put hD (sm2.trans sT), by rw [List.length_append, lq]; rfl⟩
        have sD : Same (del G2 D) (del (upd (upd G2 T (.tup [v1, v2])) D (.lst (qs.map V.ref ++ [V.ref T]))) D) := fun b o e => by
          by_cases hb : b = D
          · rw [hb, del_same] at e; cases e
          · rw [del_ne hb] at e ⊢
            rw [upd_ne hb]
            exact sT _ _ e
        have s1D : Same G1 (del (upd (upd G2 T (.tup [v1, v2])) D (.lst (qs.map V.ref ++ [V.ref T]))) D) := fun b o e => by
          have hb := ne_of_none e hD
          rw [del_ne hb, upd_ne hb]
          exact sT _ _ (sm2 _ _ e)
        rw [List.take_add_one, er]
        refine (hq.pr sD).app (.one ⟨v1, v2, SqT.of ?_, h2.mono s1D, h3.mono s1D⟩)
        rw [del_ne nD, upd_ne nD, upd_same]
      · rintro G2 ⟨qs, eq, hq, sm2, lq⟩
        rw [List.length_map, la, List.take_length] at hq
        refine ⟨D, _, rfl, .inl (SqL.of eq), fun T G3 sm3 hT => ?_⟩
        have k2 : Keep x H G3 := k1.trans (Keep.of (sm2.trans sm3))
        have hq3 : Rs (PrAt K) G3 qs rs := hq.pr (fun b o e => by
          by_cases hb : b = D
          · rw [hb, del_same] at e; cases e
          · rw [del_ne hb] at e
            exact sm3 _ _ e)
        have ex3 := sm3 _ _ (sm2 _ _ ex1)
        refine ⟨_, rfl, x, CBook K, dx, _, rfl, ex3, Y.cBook, Y.nBookPremises, (by show 1 < 1000; decide), ?_⟩
        have hx3 : ∃ u, G3 x = some u ∧ isIns u = true := ⟨_, ex3, rfl⟩
        have kp : Keep x G3 (upd G3 x (.ins (CBook K) dx [("_frame", .ref fr), ("_premises", .ref T)])) := .put
        exact k hdue _ (k2.trans kp) ⟨dx, T, qs, upd_same, kp.sqt hx3 hT, kp.prs hx3 hq3⟩
end
end K37

namespace K37
open PySem PySem.Spec PyProof.Rows L2 Ow Xv
/-! ### a book asked, one made, one with a premise more -/
theorem scBF : FnScope ["self"] ["self"] (defScope sBook_Frame) := ⟨rfl, rfl, rfl, by decide +kernel, rfl, by decide +kernel, by decide +kernel⟩
theorem scBP : FnScope ["self"] ["self"] (defScope sBook_Premises) := ⟨rfl, rfl, rfl, by decide +kernel, rfl, by decide +kernel, by decide +kernel⟩
theorem scWP : FnScope ["book", "p", "q"] ["book", "p", "q"] (defScope sWithPremise) := ⟨rfl, rfl, rfl, by decide +kernel, rfl, by decide +kernel, by decide +kernel⟩
def spBF (K : PySem.W.Frag) : Sp := fun vs H Q _ => ∃ (x fr : Addr) (rs : List (Sd × Sd)), vs = [.ref x] ∧ BkAt K H x fr rs ∧ Q (.ref fr) H
def spBP (K : PySem.W.Frag) : Sp := fun vs H Q _ => ∃ (x fr : Addr) (rs : List (Sd × Sd)), vs = [.ref x] ∧ BkAt K H x fr rs ∧ ∀ (L : Addr) (as : List Addr) (H' : Hp), Same H H' → H' L = some (.lst (as.map V.ref)) → Rs (PrAt K) H' as rs → Q (.ref L) H'
def spWP (K : PySem.W.Frag) : Sp := fun vs H Q E => ∃ (b fr : Addr) (v1 v2 : V) (xs : List Str) (ls : List Lt) (rs : List (Sd × Sd)) (s1 s2 : Sd), vs = [.ref b, v1, v2] ∧ BkAt K H b fr rs ∧ FrmA K H fr xs ls ∧ FrOk xs ls ∧ Va K H v1 s1.val ∧ Va K H v2 s2.val ∧ RowsOk xs ls rs ∧ SdOk xs ls s1 ∧ SdOk xs ls s2 ∧ rs.length ≤ 49 ∧
  (∀ e, dueL 0 (rs ++ [(s1, s2)]) = some e → RzE K H E e) ∧ (dueL 0 (rs ++ [(s1, s2)]) = none → ∀ (c : Addr) (H' : Hp), Same H H' → Q (.ref c) H')
section
variable {P : Program} {w : World} {K : PySem.W.Frag} {mg : Str → Option Value} {base : Heap} {f : Addr} {fd : FuncData}
theorem mk_bk2 {H : Hp} {fr p : Addr} {xs : List Str} {ls : List Lt} {as : List Addr} {rs : List (Sd × Sd)} {Q : Addr → Hp → Prop} {E : XK} (hF : FrmA K H fr xs ls) (ok : FrOk xs ls) (hp : SqL K H p (as.map V.ref)) (hR : Rs (PrAt K) H as rs) (ro : RowsOk xs ls rs) (l50 : rs.length ≤ 50)
    (kE : ∀ e, dueL 0 rs = some e → RzE K H E e) (k : dueL 0 rs = none → ∀ b H', Same H H' → H b = none → BkAt K H' b fr rs → Q b H') :
    ∀ x dx, H x = none → H dx = none → dx ≠ x → spBI K (.ref x :: ([.ref fr, .ref p] ++ [])) (upd (upd H dx (.own x)) x (.ins (CBook K) dx [])) (fun v H2 => v = .non ∧ Q x H2) E := fun x dx hx hd nd => by
  have s0 : Same H (upd (upd H dx (.own x)) x (.ins (CBook K) dx [])) := same_new hx hd .refl
  exact ⟨x, fr, p, dx, xs, ls, as, rs, rfl, upd_same, hF.same s0, ok, s0.seq hp, hR.pr s0, ro, l50, fun e he => (kE e he).same s0, fun hn H' kk hB => ⟨rfl, k hn x H' (same_new hx hd kk) hx hB⟩⟩
theorem ok_bf (F : FnM K "frame" "Book.frame" sBook_Frame f fd) (Y : Fx w K mg) : FnOk P w K mg base CX0 1 f fd ["self"] (spBF K) := by
  refine okD F scBF (fun vs H Q E h => ?_) (fun cdv A outer s H vs Q E hr h => ?_)
  · obtain ⟨x, fr, rs, rfl, _⟩ := h
    rfl
  · refine ⟨_, pss_one (ps_ret (pe_fld (pv 0) rfl)), ?_⟩
    obtain ⟨x, fr, rs, rfl, ⟨dx, T, as, hx, _, _⟩, k⟩ := h
    exact ⟨_, rfl, x, _, dx, _, _, rfl, hx, Y.cBook, Y.nBookFrame, rfl, k⟩
theorem ok_bp2 (F : FnM K "premises" "Book.premises" sBook_Premises f fd) (Y : Fx w K mg) : FnOk P w K mg base CX0 1 f fd ["self"] (spBP K) := by
  refine okD F scBP (fun vs H Q E h => ?_) (fun cdv A outer s H vs Q E hr h => ?_)
  · obtain ⟨x, fr, rs, rfl, _⟩ := h
    rfl
  · refine ⟨_, pss_one (ps_ret (pe_callTy call_list_of (by rfl) Y.bList boot_list (pa_cons (pe_fld (pv 0) rfl) pa_nil))), ?_⟩
    obtain ⟨x, fr, rs, rfl, ⟨dx, T, as, hx, hT, hR⟩, k⟩ := h
    refine ⟨_, rfl, x, _, dx, _, _, rfl, hx, Y.cBook, Y.nBookPremises, rfl, T, _, rfl, .inr hT, fun L hL => ?_⟩
    exact k L as _ (same_upd hL) upd_same (hR.pr (same_upd hL))
theorem ok_wp (F : FnP K "with_premise" sWithPremise f fd) (Y : Fx w K mg) : FnOk P w K mg base (L2.CX P w) 11 f fd ["book", "p", "q"] (spWP K) := by
  obtain ⟨d1, F1⟩ := Y.dBook_Frame
  obtain ⟨d2, F2⟩ := Y.dBook_Premises
  obtain ⟨d3, F3⟩ := Y.dBook_Init
  have b1 := FunD.bindsN (ps := ["self"]) F1 fun _ _ _ _ _ _ us hl => match us, hl with | [_], _ => rfl
  have b2 := FunD.bindsN (ps := ["self"]) F2 fun _ _ _ _ _ _ us hl => match us, hl with | [_], _ => rfl
  have b3 := FunD.bindsN (ps := ["self", "frame", "premises"]) F3 fun _ _ _ _ _ _ us hl => match us, hl with | [_, _, _], _ => rfl
  have G1 : FnOk P w K mg base CX0 1 _ d1 ["self"] (spBF K) := ok_bf F1 Y
  have G2 : FnOk P w K mg base CX0 1 _ d2 ["self"] (spBP K) := ok_bp2 F2 Y
  have G3 : FnOk P w K mg base (L2.CX P w) 9 _ d3 ["self", "frame", "premises"] (spBI K) := ok_bi F3 Y
  refine F.ok scWP (fun vs H Q E h => ?_) (fun cdv A outer s H vs Q E hr h => ?_)
  · obtain ⟨b, fr, v1, v2, xs, ls, rs, s1, s2, rfl, _⟩ := h
    rfl
  · have hr1 : Room 1 _ := hr.mono (by decide)
    refine ⟨_, pss_one (ps_ret (pe_makeS Y.mBook G3 hr (by rfl) Y.gBook b3 (fun σ => passAt (takes_of rfl rfl rfl rfl) σ) (pa_cons (pe_meth0 (pv 0) Y.cBook Y.mBook_Frame G1 hr1 b1 .nil pass0)
      (pa_cons (pe_op op_cat (pe_meth0 (pv 0) Y.cBook Y.mBook_Premises G2 hr1 b2 .nil pass0) (pe_lst (pa_cons (pe_tup (pa_cons (pv 1) (pa_cons (pv 2) pa_nil))) pa_nil))) pa_nil)))), ?_⟩
    obtain ⟨b, fr, v1, v2, xs, ls, rs, s1, s2, rfl, hB, hF, ok, hv1, hv2, ro, o1, o2, l49, kE, k⟩ := h
    obtain ⟨dx, T, as, hb, hT, hR⟩ := id hB
    refine ⟨_, rfl, b, dx, _, rfl, hb, rfl, b, fr, rs, rfl, hB, ?_⟩
    refine ⟨_, rfl, b, dx, _, rfl, hb, rfl, b, fr, rs, rfl, hB, fun L qs H1 y1 hL hQ => ?_⟩
    have lq := hQ.len
    refine ⟨_, rfl, _, rfl, szl (by show 2 ≤ 1000; decide), fun p1 h1 => ⟨szl (by show 1 ≤ 1000; decide), fun p2 h2 => ?_⟩⟩
    have z1 := same_upd (o := .tup [v1, v2]) h1
    have z2 := same_upd (o := .lst [V.ref p1]) h2
    refine ⟨L, p2, _, _, rfl, rfl, z2 _ _ (z1 _ _ hL), upd_same, szl (by rw [List.length_map]; show qs.length + 1 ≤ 1000; omega), fun p3 h3 => ?_⟩
    have z3 := same_upd (o := .lst (qs.map V.ref ++ [V.ref p1])) h3
    have w1 := y1.trans z1
    have w2 := w1.trans z2
    have w3 := w2.trans z3
    refine mk_bk2 (as := qs ++ [p1]) (rs := rs ++ [(s1, s2)]) (hF.same w3) ok (SqL.of (by rw [upd_same, List.map_append]; rfl)) ((hQ.pr (z1.trans (z2.trans z3))).app (.one ⟨v1, v2, SqT.of (z3 _ _ (z2 _ _ upd_same)), hv1.mono w3, hv2.mono w3⟩)) (fun r hr => ?_) (by rw [List.length_append]; show rs.length + 1 ≤ 50; omega)
      (fun e he => (kE e he).same w3) (fun hn c H' s' _ _ => k hn c H' (w3.trans s'))
    rcases List.mem_append.mp hr with z | z
    · exact ro r z
    · rw [List.mem_singleton.mp z]
      exact ⟨o1, o2⟩
end
end K37

namespace K37
open PySem PySem.Spec PyProof.Rows L2 Ow Xv LamX
/-! ### which error a call raises -/
abbrev NWd : List Str := ["_law_call", "e"]
theorem scWd : FnScope NWd ["_law_call"] (defScope sLawWord) := ⟨rfl, rfl, rfl, by decide +kernel, rfl, by decide +kernel, by decide +kernel⟩
/-- what is wished of an exception of the lambda -/
def EWd (K : PySem.W.Frag) (Q : VK) : XK := fun cls d H =>
  (∃ (dx p : Addr) (ys : List V), cls = .ref (CBadTerm K) ∧ d = some dx ∧ H dx = some (.xd [("path", .ref p)]) ∧ SqT K H p ys ∧ ∀ (L : Addr) (H' : Hp), Same H H' → H' L = some (.lst [.str "term", .ref p]) → Q (.ref L) H') ∨
  ∃ (C : Addr) (w : Str) (dx : Addr) (n : Nat), ((C = CNotKept K ∧ w = "kept") ∨ (C = CNotFlat K ∧ w = "flat") ∨ (C = CMixedEnds K ∧ w = "ends")) ∧ cls = .ref C ∧ d = some dx ∧ H dx = some (.xd [("number", .int (n : Int))]) ∧ ∀ (L : Addr) (H' : Hp), Same H H' → H' L = some (.lst [.str w, .int (n : Int)]) → Q (.ref L) H'
def KWd (Q : VK) : VK := fun _ H1 => [V.str "fine"].length ≤ sizeLine ∧ ∀ L, H1 L = none → Q (.ref L) (upd H1 L (.lst [.str "fine"]))
def TWd (K : PySem.W.Frag) : (XK → Hp → VK → Prop) → Hp → VK → Prop := fun tl H Q => tl (EWd K Q) H (KWd Q)
def tsWd (C : Addr) (kd n : Str) (a : Addr) (cls : Value) (d : Option Addr) : TS := tRet (tLst (tCons (tC (.str kd)) (tCons (tXf a cls d C n (tVar 1)) tNil)))
def lWd (K : PySem.W.Frag) : List (Value × (Addr → Value → Option Addr → TS)) :=
  [(.ref (CBadTerm K), tsWd (CBadTerm K) "term" "path"), (.ref (CNotKept K), tsWd (CNotKept K) "kept" "number"), (.ref (CNotFlat K), tsWd (CNotFlat K) "flat" "number"), (.ref (CMixedEnds K), tsWd (CMixedEnds K) "ends" "number"), (.ref (He.ga K "PairError"), fun _ _ _ => tRet (tLst (tCons (tC (.str "odd")) tNil)))]
theorem takesL {X : Cx} {W : WX} (t : L2.Takes X W) : L2.Takes X (fun c d σ H => σ.length = X.N.length → W c d σ H) := fun u s' ⟨a, B, sI, pins, σ, H, cls, d, e, I, nb, up, sky, na, os, ag, w⟩ =>
  t u s' ⟨a, B, sI, pins, σ, H, cls, d, e, I, nb, up, sky, na, os, ag, w I.len⟩
theorem Fx.exm4 {w : World} {K : PySem.W.Frag} {mg : Str → Option Value} (Y : Fx w K mg) (i j : Nat) (hi : i < 4 := by decide) (hj : j < 4 := by decide) : PySem.W.exmOne K (.ref (He.ga K (E4.getD i ""))) (.ref (He.ga K (E4.getD j ""))) = some (decide (i = j)) :=
  of_decide_eq_true (List.all_eq_true.mp (List.all_eq_true.mp Y.x15 i (List.mem_range.mpr hi)) j (List.mem_range.mpr hj))
theorem word_gives {X : Cx} {q : Str} {g : Addr} {cdg : Value} (Y : Fx X.w X.K X.mg) : GivesTo X NWd "_law_word" (defScope sLawWord) g cdg (defBody sLawWord) "_law_call" q (TWd X.K) := by
  intro f c' s H Q tl act hc h
  have nd := scWd.nd
  refine ⟨_, pss_cons (ps_try_manyA (X := (cxOf C8.CX0 X.prog X.w X.K X.mg X.base NWd "_law_word" (defScope sLawWord) g cdg X.A X.stack s H C8.E0).nox) (n := "e") (i := 1)
      (tb := fun W D σ H => ∃ Ech : XK, (∀ cls d σ' H', Ech cls d H' → σ'.length = 2 → W cls d σ' H') ∧ σ[0]? = some (some (.ref f)) ∧ H c' = some (CodeO c' q) ∧ tl Ech H (fun _ H1 => D.nx σ H1))
      (Wout := fun _ _ _ _ => False) (l := lWd X.K) rfl rfl nd rfl rfl L2.takes0 (fun W pn xe tk _ => ?_)
      (.cons ⟨rfl, by decide, .inl Y.gBadTerm⟩ (fun a oe cls d pn hz hf => pss_one (ps_ret (pe_lst (pa_cons pe_str (pa_cons (pe_xf Y.xBT.xf Y.xBT.no hz hf (pv 1)) pa_nil)))))
      (.cons ⟨rfl, by decide, .inl Y.gNotKept⟩ (fun a oe cls d pn hz hf => pss_one (ps_ret (pe_lst (pa_cons pe_str (pa_cons (pe_xf Y.xNK.xf Y.xNK.no hz hf (pv 1)) pa_nil)))))
      (.cons ⟨rfl, by decide, .inl Y.gNotFlat⟩ (fun a oe cls d pn hz hf => pss_one (ps_ret (pe_lst (pa_cons pe_str (pa_cons (pe_xf Y.xNF.xf Y.xNF.no hz hf (pv 1)) pa_nil)))))
      (.cons ⟨rfl, by decide, .inl Y.gMixedEnds⟩ (fun a oe cls d pn hz hf => pss_one (ps_ret (pe_lst (pa_cons pe_str (pa_cons (pe_xf Y.xME.xf Y.xME.no hz hf (pv 1)) pa_nil)))))
      (.cons ⟨rfl, by decide, .inl Y.gPairError⟩ (fun a oe cls d pn hz hf => pss_one (ps_ret (pe_lst (pa_cons pe_str pa_nil)))) .nil))))))
    (pss_one (ps_ret (pe_lst (pa_cons pe_str pa_nil)))), ?_⟩
  · refine ⟨fun pins s' σ H' D I h' => ?_⟩
    obtain ⟨Ech, hW, h1, h2, h3⟩ := h'
    refine PSs.run (t := tDrop (fun σZ HZ Q => σZ[0]? = some (some (.ref f)) ∧ HZ c' = some (CodeO c' q) ∧ tl Ech HZ Q)) ?_ pins s' σ H' D I ⟨h1, h2, h3⟩
    exact pss_one (ps_expr (act _ pn xe Ech _ _ (takesL tk) hW))
  · have suite : ∀ {C : Addr} {kd n : Str} {v : V} {d c : Addr} {σ : L2.St} {H' : Hp} {D : Ends}, σ[1]? = some (some (.ref c)) → H' d = some (.xd [(n, v)]) → (∀ p, H' p = none → D.rt (.ref p) (upd H' p (.lst [.str kd, v]))) → tsWd C kd n c (.ref C) (some d) D σ H' := fun {C kd n v d c σ H' D} hs e hq =>
      ⟨_, hs, rfl, rfl, d, _, v, rfl, e, by simp [List.lookup], szl (by show 2 ≤ 1000; decide), hq⟩
    refine ⟨EWd X.K Q, fun cls d σ' H' e hl => ?_, rfl, hc, h⟩
    have l1 : ∀ c : V, (σ'.set 1 (some c))[1]? = some (some c) := fun c => List.getElem?_set_self (by omega)
    rcases e with ⟨dx, p, ys, rfl, rfl, ex, hp, k⟩ | ⟨C, w, dx, n, hC, rfl, rfl, ex, k⟩
    · exact ⟨true, Y.exm4 0 0, fun _ a ha => suite (l1 _) ex fun L hL => k L _ (same_upd hL) upd_same, fun z => Bool.noConfusion z⟩
    · rcases hC with ⟨rfl, rfl⟩ | ⟨rfl, rfl⟩ | ⟨rfl, rfl⟩
      · exact ⟨false, Y.exm4 1 0, fun z => Bool.noConfusion z, fun _ => ⟨true, Y.exm4 1 1, fun _ a ha => suite (l1 _) ex fun L hL => k L _ (same_upd hL) upd_same, fun z => Bool.noConfusion z⟩⟩
      · exact ⟨false, Y.exm4 2 0, fun z => Bool.noConfusion z, fun _ => ⟨false, Y.exm4 2 1, fun z => Bool.noConfusion z, fun _ => ⟨true, Y.exm4 2 2, fun _ a ha => suite (l1 _) ex fun L hL => k L _ (same_upd hL) upd_same, fun z => Bool.noConfusion z⟩⟩⟩
      · exact ⟨false, Y.exm4 3 0, fun z => Bool.noConfusion z, fun _ => ⟨false, Y.exm4 3 1, fun z => Bool.noConfusion z, fun _ => ⟨false, Y.exm4 3 2, fun z => Bool.noConfusion z, fun _ => ⟨true, Y.exm4 3 3, fun _ a ha => suite (l1 _) ex fun L hL => k L _ (same_upd hL) upd_same, fun z => Bool.noConfusion z⟩⟩⟩⟩
end K37

namespace K37
open PySem PySem.Spec PyProof.Rows L2 Ow Xv
/-! ### the law's own look: flat, kept -/
section
variable {K : PySem.W.Frag} {H : Hp} {a : Addr} {xs : List V} {Q : VK}
theorem cutV_tl (x : V) (xs : List V) : cutV (x :: xs) (some 1) none = xs := by
  have e1 : HT.sIx (x :: xs).length 0 (some 1) = 1 := by
    unfold HT.sIx
    simp
  unfold cutV
  rw [HT.sIx_none, e1]
  simp
theorem slice_from {σ : L2.St} {lo : Option Int} (h : SqT K H a xs) (k : ∀ (T : Addr) (H' : Hp), Same H H' → SqT K H' T (cutV xs lo none) → Q (.ref T) H') :
    tNoPart σ H (fun u H3 => rSlA K (.ref a) lo u H3 Q) := slice_any h k
end
def rEqNL (K : PySem.W.Frag) : R2 := fun x y H Q => ∃ (a b : Addr) (xs : List V), x = .ref a ∧ y = .ref b ∧ SqL K H a xs ∧ SqL K H b [] ∧ Q (.bl xs.isEmpty) H
theorem op_eqNL {X : Cx} (hu : X.A.units < cLine) : OpR X (compareOp .Eq) (rEqNL X.K) := by
  intro pins s σ H x y v u Q I rx ry ⟨a, b, xs, e1, e2, h1, h2, q⟩
  subst e1 e2
  obtain rfl : v = Value.ref a := rx
  obtain rfl : u = Value.ref b := ry
  obtain ⟨its, rv, pl, _⟩ := I.list h1
  obtain ⟨jts, rw2, pl2, _⟩ := I.list h2
  cases rw2
  cases rv with
  | nil =>
    refine SeqAt.eq_listAt (items := #[]) (items2 := #[]) (e := fun _ => true) pl.isList pl2.isList rfl hu (fun j h1 h2 => absurd h2 (Nat.not_lt_zero j)) ?_
    exact ⟨.bl _, H, I, rfl, q⟩
  | cons r rs =>
    refine SeqAt.eq_list_lengthsAt pl.isList pl2.isList (by simp) hu ?_
    exact ⟨.bl _, H, I, rfl, q⟩
def szs (ts : List Tm) : Nat := (ts.map Tm.sz).sum
theorem szs_app (a b : List Tm) : szs (a ++ b) = szs a + szs b := by simp [szs]
theorem noneOf_kids {t : Tm} (h : Rt t) : noneOf NF t = (!decide (t.hd ∈ NF) && t.kids.all (noneOf NF)) := by
  cases t with
  | leaf w ss => rw [noneOf_leaf]; show _ = (!decide (w ∈ NF) && true); rw [Bool.and_true]
  | one w t => rw [noneOf_one]; show _ = (!decide (w ∈ NF) && (noneOf NF t && true)); rw [Bool.and_true]
  | two w s t => rw [noneOf_two]; show _ = (!decide (w ∈ NF) && (noneOf NF s && (noneOf NF t && true))); rw [Bool.and_true]
theorem szs_kids (t : Tm) : 1 + szs t.kids = t.sz := by
  cases t with
  | leaf w ss => rfl
  | one w t => simp [szs, Tm.kids, Tm.sz]
  | two w s t => simp [szs, Tm.kids, Tm.sz]; omega
abbrev NLF : List Str := ["_law_term_here", "_law_parts", "_law_part"]
theorem scLF : FnScope NLF ["_law_term_here"] (defScope sLawIsFlat) := ⟨rfl, rfl, rfl, by decide +kernel, rfl, by decide +kernel, by decide +kernel⟩
theorem scLK : FnScope NLF ["_law_term_here"] (defScope sLawIsKept) := ⟨rfl, rfl, rfl, by decide +kernel, rfl, by decide +kernel, by decide +kernel⟩
def spLF (K : PySem.W.Frag) (g : Tm → Bool) (N : Nat) : Sp := fun vs H Q _ => ∃ (a : Addr) (t : Tm), vs = [.ref a] ∧ TmAt K H a t ∧ Rt t ∧ t.sz ≤ N ∧ t.sz ≤ 64 ∧ ∀ H', Same H H' → Q (.bl (g t)) H'
def ttIs (K : PySem.W.Frag) : TT := tB (tCB (rIsi K) (tCons (tVar 2) (tCons (tC (.ty "tuple")) tNil)))
def ttRec (K : PySem.W.Frag) (g : Tm → Bool) (N : Nat) : TT := tNot (tB (tCall (spLF K g N) [] E0 (tCons (tVar 2) tNil)))
theorem kept_kids {t : Tm} (h : Rt t) (n : t.hd ≠ "rest") : keptB t = t.kids.all keptB := by
  cases t with
  | leaf w ss => exact kept_leaf (w := w) (decide_eq_false n)
  | one w t => rw [kept_one, decide_eq_false (show w ≠ "rest" from n)]; show (true && keptB t) = (keptB t && true); rw [Bool.and_true, Bool.true_and]
  | two w s t => rw [kept_two (two_ne_rest h.1)]; show _ = (keptB s && (keptB t && true)); rw [Bool.and_true]
theorem kept_rest {t : Tm} (h : Rt t) : keptB (.one "rest" t) = noneOf NF t := by
  rw [kept_one, decide_eq_true rfl]
  show (noneOf NF t && keptB t) = noneOf NF t
  cases e : noneOf NF t with
  | false => rfl
  | true =>
    rw [none_fB h] at e
    rw [(flat_kept h ((fB_iff t).mp e)).1]
    rfl
theorem Rt.kid {t u : Tm} (h : Rt t) (m : u ∈ t.kids) : Rt u := by
  cases t with
  | leaf w ss => cases m
  | one w t => rw [List.mem_singleton.mp m]; exact h.2
  | two w s t =>
    rcases List.mem_cons.mp m with z | z
    · rw [z]; exact h.2.1
    · rw [List.mem_singleton.mp z]; exact h.2.2
theorem sz_kid {t u : Tm} (m : u ∈ t.kids) : u.sz < t.sz := by
  cases t with
  | leaf w ss => cases m
  | one w t => rw [List.mem_singleton.mp m]; simp only [Tm.sz]; omega
  | two w s t =>
    rcases List.mem_cons.mp m with z | z
    · rw [z]; simp only [Tm.sz]; omega
    · rw [List.mem_singleton.mp z]; simp only [Tm.sz]; omega
section
variable {P : Program} {w : World} {K : PySem.W.Frag} {mg : Str → Option Value} {base : Heap} {f : Addr} {fd : FuncData}
theorem lf_step {N k : Nat} (F : FnP K "_law_is_flat" sLawIsFlat (He.ga K "_law_is_flat") fd) (Y : Fx w K mg) (G0 : FnOk P w K mg base CX0 k (He.ga K "_law_is_flat") fd ["_law_term_here"] (spLF K (noneOf NF) N)) (hk : 1 ≤ k) : FnOk P w K mg base CX0 (k + 1) (He.ga K "_law_is_flat") fd ["_law_term_here"] (spLF K (noneOf NF) (N + 1)) := by
  have b0 := FunD.bindsN (ps := ["_law_term_here"]) F fun _ _ _ _ _ _ us hl => match us, hl with | [_], _ => rfl
  refine okD F scLF (fun vs H Q E h => ?_) (fun cdv A outer s H vs Q E hr h => ?_)
  · obtain ⟨a, t, rfl, _⟩ := h
    rfl
  · have nd := scLF.nd
    have hu0 := Nat.lt_of_succ_lt (hu_of hr)
    refine ⟨_, pss_cons (ps_if (pt_cmpR op_in_seq (pe_ix ix_tup (pv 0) pe_int (fun _ _ => rfl)) (pe_lst (pa_cons pe_str (pa_cons pe_str (pa_cons pe_str pa_nil)))) (by rfl)) (pss_one (ps_ret pe_bl)) pss_nil)
      (pss_cons (ps_setLc (i := 1) (own := [("_law_part", 2)]) (g := gName 2) (tt := ttIs K) (te := tVar 2) rfl nd rfl rfl (by rfl) (pi_tup (pe_slice sl_tupA (pv 0) (po_some pe_int) po_none)) (blkOk_by (N := NLF) (sc := defScope sLawIsFlat) (by decide +kernel)) (fun _ _ _ _ _ => pg_name (i := 2) nd rfl (Or.inl rfl)) (fun _ _ _ _ _ => pts_one (pt_val (pe_callB call_isi (by rfl) Y.bIsinstance boot_isinstance (pa_cons (pv 2) (pa_cons (pe_bltn (v := .ty "tuple") (u := .type "tuple") (by rfl) Y.bTuple (by decide +kernel) rfl) pa_nil))))) (fun _ _ _ _ _ => pv 2))
      (pss_one (ps_ret (pe_cmpR (op_eqNL hu0) (pe_lc (own := [("_law_part", 2)]) (g := gName 2) (tt := ttRec K (noneOf NF) N) (te := tC (.int 1)) rfl nd (pi_list (pv 1)) (blkOk_by (N := NLF) (sc := defScope sLawIsFlat) (by decide +kernel)) (fun _ _ _ _ _ => pg_name (i := 2) nd rfl (Or.inl rfl)) (fun _ _ _ _ _ => pts_one (pt_not (pt_val (pe_call G0 hr (by rfl) Y.gLawIsFlat F.kp b0 .nil pass0 (pa_cons (pv 2) pa_nil))))) (fun _ _ _ _ _ => pe_int)) (pe_lst pa_nil) (nomark _))))), ?_⟩
    obtain ⟨a, t, rfl, ha, rt, hN, h64, k'⟩ := h
    obtain ⟨us, hv, hk2⟩ := ha.view
    have lu := hk2.len
    have hv2 : ∀ {G : Hp}, Same H G → SqT K G a (V.str t.hd :: (t.ss.map V.str ++ us.map V.ref)) := fun s => sqt_same s hv
    have nk := noneOf_kids rt
    refine ⟨_, rfl, a, _, 0, _, rfl, rfl, hv, atI_0 _ _, szl (by show 3 ≤ 1000; decide), fun l0 hl0 => ?_⟩
    have s1 := same_upd (o := .lst [V.str "then", V.str "closed", V.str "walked"]) hl0
    refine ⟨l0, _, rfl, .inl (SqL.of upd_same), rfl, rfl, ?_⟩
    rw [if_neg Bool.false_ne_true, show inV (V.str t.hd) [V.str "then", V.str "closed", V.str "walked"] = decide (t.hd ∈ NF) from inV_strs t.hd ["then", "closed", "walked"]]
    refine ⟨_, rfl, ite2 (fun hc => ?_) (fun hc => ?_)⟩
    · rw [hc] at nk
      have z := k' _ s1
      rw [nk] at z
      exact z
    have hnf : decide (t.hd ∈ NF) = false := by cases e : decide (t.hd ∈ NF) with | false => rfl | true => exact absurd e hc
    rw [hnf] at nk
    have nk2 : noneOf NF t = t.kids.all (noneOf NF) := nk
    -- the parts
    refine ⟨_, rfl, 1, rfl, ?_⟩
    refine slice_from (hv2 s1) fun T1 H1 y1 hT1 => ⟨T1, rfl, ⟨_, hT1⟩, fun D hD => ?_⟩
    rw [show cutV (V.str t.hd :: (t.ss.map V.str ++ us.map V.ref)) (some 1) none = t.ss.map V.str ++ us.map V.ref from cutV_tl _ _] at hT1
    have w1 := s1.trans y1
    refine lc_tup (K := K) (a := T1) (xs := t.ss.map V.str ++ us.map V.ref) (fun i G => G D = some (.lst ((us.take (i - t.ss.length)).map V.ref)) ∧ Same H1 G) ⟨by rw [Nat.zero_sub]; exact upd_same, same_upd hD⟩ (fun i G _ q => sqt_same q.2 hT1) ?_ ?_
    · rintro i v G hi ⟨eG, sm⟩
      by_cases c : i < t.ss.length
      · rw [List.getElem?_append_left (by rw [List.length_map]; exact c)] at hi
        obtain ⟨z, _, rfl⟩ := str_at hi
        obtain ⟨T0, ht, _, hk⟩ := (Va.str (K := K) (H := G) z).ty
        refine ⟨rfl, _, rfl, _, _, _, _, kdTup (.str z), rfl, .ty _, ht, kit_ty hk, _, rfl, iteF ⟨?_, sm⟩⟩
        rw [show i + 1 - t.ss.length = i - t.ss.length by omega]
        exact eG
      · rw [List.getElem?_append_right (by rw [List.length_map]; omega), List.length_map] at hi
        obtain ⟨u, eu, rfl⟩ := ref_at hi
        obtain ⟨x, ex, hx⟩ := hk2.get eu
        obtain ⟨T0, ht, _, hk⟩ := (tm_va ((hx.same w1).same sm)).ty
        have kt : kdTup (dat x) = true := by cases x <;> rfl
        rw [kt] at hk
        have lu2 := (List.getElem?_eq_some_iff.mp eu).1
        have l2 : us.length ≤ 2 := by
          have z : t.kids.length ≤ 2 := by cases t <;> simp [Tm.kids]
          omega
        refine ⟨rfl, _, rfl, _, _, _, _, true, rfl, .ty _, ht, kit_ty hk, _, rfl, iteT ⟨_, rfl, _, eG, by rw [List.length_map, List.length_take]; exact small1000 (by omega), ?_, same_put hD sm⟩⟩
        rw [upd_same, show i + 1 - t.ss.length = (i - t.ss.length) + 1 by omega, List.take_add_one, eu, List.map_append]
        rfl
    · rintro G ⟨eD, sm⟩
      rw [List.length_append, List.length_map, List.length_map, show t.ss.length + us.length - t.ss.length = us.length by omega, List.take_length] at eD
      have w2 := w1.trans sm
      -- those that are not so
      refine ⟨_, rfl, D, rfl, ⟨_, SqL.of eD⟩, fun D2 hD2 => ?_⟩
      refine lc_list (K := K) (a := D) (xs := us.map V.ref) (fun i G2 => ∃ zs : List V, G2 D2 = some (.lst zs) ∧ zs.length ≤ i ∧ zs.isEmpty = (t.kids.take i).all (noneOf NF) ∧ Same G G2) ⟨[], upd_same, Nat.le_refl _, rfl, same_upd hD2⟩ (fun i G2 _ q => by obtain ⟨_, _, _, _, q⟩ := q; exact q.seq (SqL.of eD)) ?_ ?_
      · rintro i v G2 hi ⟨zs, eZ, lz, hz, sm2⟩
        obtain ⟨u, eu, rfl⟩ := ref_at hi
        obtain ⟨x, ex, hx⟩ := hk2.get eu
        have mx := List.mem_of_getElem? ex
        have sx := sz_kid mx
        refine ⟨rfl, _, rfl, u, x, rfl, (hx.same w2).same sm2, Rt.kid rt mx, by omega, by omega, fun H4 y4 => ⟨_, rfl, ?_⟩⟩
        have li := (List.getElem?_eq_some_iff.mp eu).1
        have l2 : us.length ≤ 2 := by
          have z : t.kids.length ≤ 2 := by cases t <;> simp [Tm.kids]
          omega
        have all1 : (t.kids.take (i + 1)).all (noneOf NF) = ((t.kids.take i).all (noneOf NF) && (noneOf NF) x) := by
          rw [List.take_add_one, ex, List.all_append]
          show (_ && ((noneOf NF) x && true)) = _
          rw [Bool.and_true]
        cases e : (noneOf NF) x with
        | true => exact iteF ⟨zs, y4 _ _ eZ, by omega, by rw [all1, e, Bool.and_true]; exact hz, sm2.trans y4⟩
        | false => exact iteT ⟨zs, y4 _ _ eZ, small1000 (by omega), zs ++ [.int 1], upd_same, by rw [List.length_append]; show zs.length + 1 ≤ i + 1; omega, by rw [all1, e, Bool.and_false]; cases zs <;> rfl, same_put hD2 (sm2.trans y4)⟩
      · rintro G2 ⟨zs, eZ, lz, hz, sm2⟩
        rw [List.length_map, lu, List.take_length] at hz
        refine ⟨szl (by show 0 ≤ 1000; decide), fun p hp => ⟨D2, p, zs, rfl, rfl, SqL.of (same_upd hp _ _ eZ), SqL.of upd_same, ?_⟩⟩
        rw [hz]
        rw [← nk2]
        exact k' _ ((w2.trans sm2).trans (same_upd hp))
theorem lf_none : FnOk P w K mg base CX0 1 (He.ga K "_law_is_flat") fd ["_law_term_here"] (spLF K (noneOf NF) 0) := by
  have no : ∀ t : Tm, ¬ t.sz ≤ 0 := fun t => by cases t <;> simp only [Tm.sz] <;> omega
  refine ⟨fun vs H Q E h => ?_, fun A outer s H args us vs Q E hr e0 bt r h => ?_⟩
  · obtain ⟨_, t, _, _, _, h2, _⟩ := h
    exact absurd h2 (no t)
  · obtain ⟨_, t, _, _, _, h2, _⟩ := h
    exact absurd h2 (no t)
theorem lf_ok (F : FnP K "_law_is_flat" sLawIsFlat (He.ga K "_law_is_flat") fd) (Y : Fx w K mg) : ∀ N, FnOk P w K mg base CX0 (1 + N) (He.ga K "_law_is_flat") fd ["_law_term_here"] (spLF K (noneOf NF) N)
  | 0 => lf_none
  | N + 1 => lf_step F Y (lf_ok F Y N) (Nat.le_add_right 1 N)
theorem lk_step {N k : Nat} (F : FnP K "_law_is_kept" sLawIsKept (He.ga K "_law_is_kept") fd) (Y : Fx w K mg) (G0 : FnOk P w K mg base CX0 k (He.ga K "_law_is_kept") fd ["_law_term_here"] (spLF K keptB N)) (hk : 65 ≤ k) : FnOk P w K mg base CX0 (k + 1) (He.ga K "_law_is_kept") fd ["_law_term_here"] (spLF K keptB (N + 1)) := by
  have b0 := FunD.bindsN (ps := ["_law_term_here"]) F fun _ _ _ _ _ _ us hl => match us, hl with | [_], _ => rfl
  obtain ⟨d1, F1⟩ := Y.dLawIsFlat
  have b1 := FunD.bindsN (ps := ["_law_term_here"]) F1 fun _ _ _ _ _ _ us hl => match us, hl with | [_], _ => rfl
  have G1 : FnOk P w K mg base CX0 65 _ d1 ["_law_term_here"] (spLF K (noneOf NF) 64) := lf_ok F1 Y 64
  refine okD F scLK (fun vs H Q E h => ?_) (fun cdv A outer s H vs Q E hr h => ?_)
  · obtain ⟨a, t, rfl, _⟩ := h
    rfl
  · have nd := scLK.nd
    have hu0 := Nat.lt_of_succ_lt (hu_of hr)
    have hr65 : Room 65 _ := hr.mono hk
    refine ⟨_, pss_cons (ps_if (pt_cmpR op_eq (pe_ix ix_tup (pv 0) pe_int (fun _ _ => rfl)) pe_str (nomark _)) (pss_one (ps_ret (pe_call G1 hr65 (by rfl) Y.gLawIsFlat F1.kp b1 .nil pass0 (pa_cons (pe_ix ix_tup (pv 0) pe_int (fun _ _ => rfl)) pa_nil)))) pss_nil)
      (pss_cons (ps_setLc (i := 1) (own := [("_law_part", 2)]) (g := gName 2) (tt := ttIs K) (te := tVar 2) rfl nd rfl rfl (by rfl) (pi_tup (pe_slice sl_tupA (pv 0) (po_some pe_int) po_none)) (blkOk_by (N := NLF) (sc := defScope sLawIsKept) (by decide +kernel)) (fun _ _ _ _ _ => pg_name (i := 2) nd rfl (Or.inl rfl)) (fun _ _ _ _ _ => pts_one (pt_val (pe_callB call_isi (by rfl) Y.bIsinstance boot_isinstance (pa_cons (pv 2) (pa_cons (pe_bltn (v := .ty "tuple") (u := .type "tuple") (by rfl) Y.bTuple (by decide +kernel) rfl) pa_nil))))) (fun _ _ _ _ _ => pv 2))
      (pss_one (ps_ret (pe_cmpR (op_eqNL hu0) (pe_lc (own := [("_law_part", 2)]) (g := gName 2) (tt := ttRec K keptB N) (te := tC (.int 1)) rfl nd (pi_list (pv 1)) (blkOk_by (N := NLF) (sc := defScope sLawIsKept) (by decide +kernel)) (fun _ _ _ _ _ => pg_name (i := 2) nd rfl (Or.inl rfl)) (fun _ _ _ _ _ => pts_one (pt_not (pt_val (pe_call G0 hr (by rfl) Y.gLawIsKept F.kp b0 .nil pass0 (pa_cons (pv 2) pa_nil))))) (fun _ _ _ _ _ => pe_int)) (pe_lst pa_nil) (nomark _))))), ?_⟩
    obtain ⟨a, t, rfl, ha, rt, hN, h64, k'⟩ := h
    obtain ⟨us, hv, hk2⟩ := ha.view
    have lu := hk2.len
    have hv2 : ∀ {G : Hp}, Same H G → SqT K G a (V.str t.hd :: (t.ss.map V.str ++ us.map V.ref)) := fun s => sqt_same s hv
    refine ⟨_, rfl, a, _, 0, _, rfl, rfl, hv, atI_0 _ _, rfl, _, rfl, ite2 (fun hc => ?_) (fun hc => ?_)⟩
    · have ew : t.hd = "rest" := V.str.inj (of_decide_eq_true hc)
      cases t with
      | leaf w ss => exact absurd (show w = "rest" from ew) (fun q => by subst q; exact absurd (leaf_NF rt).2.2 (by decide +kernel))
      | two w s t => exact absurd (show w = "rest" from ew) (two_ne_rest rt.1)
      | one w v =>
        replace ew : w = "rest" := ew
        subst ew
        obtain ⟨u, h1, h2⟩ := ha
        rw [kept_rest rt.2] at k'
        exact ⟨_, rfl, a, _, 1, _, rfl, rfl, h1, rfl, u, v, rfl, h2, rt.2, by have := h64; simp only [Tm.sz] at this; omega, by have := h64; simp only [Tm.sz] at this; omega, k'⟩
    have ne : t.hd ≠ "rest" := fun q => hc (by rw [q]; exact decide_eq_true rfl)
    have nk2 := kept_kids rt ne
    have s1 : Same H H := Same.refl H
    -- the parts
    refine ⟨_, rfl, 1, rfl, ?_⟩
    refine slice_from (hv2 s1) fun T1 H1 y1 hT1 => ⟨T1, rfl, ⟨_, hT1⟩, fun D hD => ?_⟩
    rw [show cutV (V.str t.hd :: (t.ss.map V.str ++ us.map V.ref)) (some 1) none = t.ss.map V.str ++ us.map V.ref from cutV_tl _ _] at hT1
    have w1 := s1.trans y1
    refine lc_tup (K := K) (a := T1) (xs := t.ss.map V.str ++ us.map V.ref) (fun i G => G D = some (.lst ((us.take (i - t.ss.length)).map V.ref)) ∧ Same H1 G) ⟨by rw [Nat.zero_sub]; exact upd_same, same_upd hD⟩ (fun i G _ q => sqt_same q.2 hT1) ?_ ?_
    · rintro i v G hi ⟨eG, sm⟩
      by_cases c : i < t.ss.length
      · rw [List.getElem?_append_left (by rw [List.length_map]; exact c)] at hi
        obtain ⟨z, _, rfl⟩ := str_at hi
        obtain ⟨T0, ht, _, hk⟩ := (Va.str (K := K) (H := G) z).ty
        refine ⟨rfl, _, rfl, _, _, _, _, kdTup (.str z), rfl, .ty _, ht, kit_ty hk, _, rfl, iteF ⟨?_, sm⟩⟩
        rw [show i + 1 - t.ss.length = i - t.ss.length by omega]
        exact eG
      · rw [List.getElem?_append_right (by rw [List.length_map]; omega), List.length_map] at hi
        obtain ⟨u, eu, rfl⟩ := ref_at hi
        obtain ⟨x, ex, hx⟩ := hk2.get eu
        obtain ⟨T0, ht, _, hk⟩ := (tm_va ((hx.same w1).same sm)).ty
        have kt : kdTup (dat x) = true := by cases x <;> rfl
        rw [kt] at hk
        have lu2 := (List.getElem?_eq_some_iff.mp eu).1
        have l2 : us.length ≤ 2 := by
          have z : t.kids.length ≤ 2 := by cases t <;> simp [Tm.kids]
          omega
        refine ⟨rfl, _, rfl, _, _, _, _, true, rfl, .ty _, ht, kit_ty hk, _, rfl, iteT ⟨_, rfl, _, eG, by rw [List.length_map, List.length_take]; exact small1000 (by omega), ?_, same_put hD sm⟩⟩
        rw [upd_same, show i + 1 - t.ss.length = (i - t.ss.length) + 1 by omega, List.take_add_one, eu, List.map_append]
        rfl
    · rintro G ⟨eD, sm⟩
      rw [List.length_append, List.length_map, List.length_map, show t.ss.length + us.length - t.ss.length = us.length by omega, List.take_length] at eD
      have w2 := w1.trans sm
      -- those that are not so
      refine ⟨_, rfl, D, rfl, ⟨_, SqL.of eD⟩, fun D2 hD2 => ?_⟩
      refine lc_list (K := K) (a := D) (xs := us.map V.ref) (fun i G2 => ∃ zs : List V, G2 D2 = some (.lst zs) ∧ zs.length ≤ i ∧ zs.isEmpty = (t.kids.take i).all keptB ∧ Same G G2) ⟨[], upd_same, Nat.le_refl _, rfl, same_upd hD2⟩ (fun i G2 _ q => by obtain ⟨_, _, _, _, q⟩ := q; exact q.seq (SqL.of eD)) ?_ ?_
      · rintro i v G2 hi ⟨zs, eZ, lz, hz, sm2⟩
        obtain ⟨u, eu, rfl⟩ := ref_at hi
        obtain ⟨x, ex, hx⟩ := hk2.get eu
        have mx := List.mem_of_getElem? ex
        have sx := sz_kid mx
        refine ⟨rfl, _, rfl, u, x, rfl, (hx.same w2).same sm2, Rt.kid rt mx, by omega, by omega, fun H4 y4 => ⟨_, rfl, ?_⟩⟩
        have li := (List.getElem?_eq_some_iff.mp eu).1
        have l2 : us.length ≤ 2 := by
          have z : t.kids.length ≤ 2 := by cases t <;> simp [Tm.kids]
          omega
        have all1 : (t.kids.take (i + 1)).all keptB = ((t.kids.take i).all keptB && keptB x) := by
          rw [List.take_add_one, ex, List.all_append]
          show (_ && (keptB x && true)) = _
          rw [Bool.and_true]
        cases e : keptB x with
        | true => exact iteF ⟨zs, y4 _ _ eZ, by omega, by rw [all1, e, Bool.and_true]; exact hz, sm2.trans y4⟩
        | false => exact iteT ⟨zs, y4 _ _ eZ, small1000 (by omega), zs ++ [.int 1], upd_same, by rw [List.length_append]; show zs.length + 1 ≤ i + 1; omega, by rw [all1, e, Bool.and_false]; cases zs <;> rfl, same_put hD2 (sm2.trans y4)⟩
      · rintro G2 ⟨zs, eZ, lz, hz, sm2⟩
        rw [List.length_map, lu, List.take_length] at hz
        refine ⟨szl (by show 0 ≤ 1000; decide), fun p hp => ⟨D2, p, zs, rfl, rfl, SqL.of (same_upd hp _ _ eZ), SqL.of upd_same, ?_⟩⟩
        rw [hz]
        rw [← nk2]
        exact k' _ ((w2.trans sm2).trans (same_upd hp))
theorem lk_none : FnOk P w K mg base CX0 65 (He.ga K "_law_is_kept") fd ["_law_term_here"] (spLF K keptB 0) := by
  have no : ∀ t : Tm, ¬ t.sz ≤ 0 := fun t => by cases t <;> simp only [Tm.sz] <;> omega
  refine ⟨fun vs H Q E h => ?_, fun A outer s H args us vs Q E hr e0 bt r h => ?_⟩
  · obtain ⟨_, t, _, _, _, h2, _⟩ := h
    exact absurd h2 (no t)
  · obtain ⟨_, t, _, _, _, h2, _⟩ := h
    exact absurd h2 (no t)
theorem lk_ok (F : FnP K "_law_is_kept" sLawIsKept (He.ga K "_law_is_kept") fd) (Y : Fx w K mg) : ∀ N, FnOk P w K mg base CX0 (65 + N) (He.ga K "_law_is_kept") fd ["_law_term_here"] (spLF K keptB N)
  | 0 => lk_none
  | N + 1 => lk_step F Y (lk_ok F Y N) (Nat.le_add_right 65 N)
end
end K37

namespace K37
open PySem PySem.Spec PyProof.Rows L2 Ow Xv
/-! ### which error is due -/
/-- the path beside a side: None if it is right -/
def PfAt (K : PySem.W.Frag) (H : Hp) (f : V) : Sd → Prop
  | .ok _ _ _ => f = .non
  | .bad _ p => ∃ q, f = .ref q ∧ SqT K H q (paV p)
theorem PfAt.same {K : PySem.W.Frag} {H H' : Hp} (s : Same H H') {f : V} : ∀ {r : Sd}, PfAt K H f r → PfAt K H' f r
  | .ok _ _ _, h => h
  | .bad _ _, ⟨q, a, b⟩ => ⟨q, a, sqt_same s b⟩
def RwAt (K : PySem.W.Frag) (H : Hp) (a : Addr) (r : Sd × Sd) : Prop := ∃ v1 f1 v2 f2, SqT K H a [v1, f1, v2, f2] ∧ Va K H v1 r.1.val ∧ PfAt K H f1 r.1 ∧ Va K H v2 r.2.val ∧ PfAt K H f2 r.2
theorem RwAt.same {K : PySem.W.Frag} {H H' : Hp} (s : Same H H') {a : Addr} {r : Sd × Sd} (h : RwAt K H a r) : RwAt K H' a r := let ⟨v1, f1, v2, f2, x, y, z, u, t⟩ := h; ⟨v1, f1, v2, f2, sqt_same s x, y.mono s, z.same s, u.mono s, t.same s⟩
theorem Rs.rw {K : PySem.W.Frag} {H H' : Hp} (s : Same H H') {as : List Addr} {rs : List (Sd × Sd)} (h : Rs (RwAt K) H as rs) : Rs (RwAt K) H' as rs := h.mono fun _ _ z => z.same s
def paD (p : List Nat) : PyData := .tuple (p.map fun n : Nat => PyData.int (n : Int))
theorem va_pa {K : PySem.W.Frag} {H : Hp} : ∀ p : List Nat, VaAll K H (paV p) (p.map fun n : Nat => PyData.int (n : Int))
  | [] => .nil
  | n :: p => .cons (.int _) (va_pa p)
def erD : Option Er → PyData
  | none => .list [.str "fine"]
  | some (.term p) => .list [.str "term", paD p]
  | some (.kept n) => .list [.str "kept", .int (n : Int)]
  | some (.flat n) => .list [.str "flat", .int (n : Int)]
  | some (.ends n) => .list [.str "ends", .int (n : Int)]
abbrev NDu : List Str := ["_law_frame_here", "_law_rows", "_law_number", "_law_p", "_law_first", "_law_q", "_law_second"]
abbrev PDu : List Str := ["_law_frame_here", "_law_rows"]
theorem scDu : FnScope NDu PDu (defScope sLawDue) := ⟨rfl, rfl, rfl, by decide +kernel, rfl, by decide +kernel, by decide +kernel⟩
def spDu (K : PySem.W.Frag) : Sp := fun vs H Q _ => ∃ (e L : Addr) (xs : List Str) (ls : List Lt) (as : List Addr) (rs : List (Sd × Sd)), vs = [.ref e, .ref L] ∧ FrAt K H e xs ls ∧ SqL K H L (as.map V.ref) ∧ Rs (RwAt K) H as rs ∧ RowsOk xs ls rs ∧ rs.length ≤ 50 ∧
  ∀ (p : Addr) (H' : Hp), Same H H' → Va K H' (.ref p) (erD (dueL 0 rs)) → Q (.ref p) H'
section
variable {P : Program} {w : World} {K : PySem.W.Frag} {mg : Str → Option Value} {base : Heap} {f : Addr} {fd : FuncData}
theorem ok_du (F : FnP K "_law_due" sLawDue f fd) (Y : Fx w K mg) : FnOk P w K mg base CX0 126 f fd PDu (spDu K) := by
  obtain ⟨dE, FE⟩ := Y.dLawEnds
  obtain ⟨dK, FK⟩ := Y.dLawIsKept
  obtain ⟨dF, FF⟩ := Y.dLawIsFlat
  have bE := FunD.bindsN (ps := PLE) FE fun _ _ _ _ _ _ us hl => match us, hl with | [_, _], _ => rfl
  have bK := FunD.bindsN (ps := ["_law_term_here"]) FK fun _ _ _ _ _ _ us hl => match us, hl with | [_], _ => rfl
  have bF := FunD.bindsN (ps := ["_law_term_here"]) FF fun _ _ _ _ _ _ us hl => match us, hl with | [_], _ => rfl
  have GE : FnOk P w K mg base CX0 61 _ dE PLE (spLE K 60) := ok_le FE Y 60
  have GK : FnOk P w K mg base CX0 125 _ dK ["_law_term_here"] (spLF K keptB 60) := lk_ok FK Y 60
  have GF : FnOk P w K mg base CX0 61 _ dF ["_law_term_here"] (spLF K (noneOf NF) 60) := lf_ok FF Y 60
  refine okD F scDu (fun vs H Q E h => ?_) (fun cdv A outer s H vs Q E hr h => ?_)
  · obtain ⟨e, L, xs, ls, as, rs, rfl, _⟩ := h
    rfl
  · have nd := scDu.nd
    have hu64 := hu64_of hr
    have hr61 : Room 61 _ := hr.mono (by decide)
    refine ⟨_, pss_cons (ps_for PassesOwn.never rfl (pi_enumA (by rfl) Y.bEnumerate (pa_cons (pv 1) pa_nil)) (pg_tup rfl (pgs_cons (pg_name (i := 2) nd rfl (Or.inl rfl)) (pgs_cons (pg_tup rfl (pgs_cons (pg_name (i := 3) nd rfl (Or.inl rfl)) (pgs_cons (pg_name (i := 4) nd rfl (Or.inl rfl)) (pgs_cons (pg_name (i := 5) nd rfl (Or.inl rfl)) (pgs_cons (pg_name (i := 6) nd rfl (Or.inl rfl)) pgs_nil))))) pgs_nil)))
        (pss_cons (ps_if (pt_cmp (pc_notN (pv 4))) (pss_one (ps_ret (pe_lst (pa_cons pe_str (pa_cons (pe_op op_catA (pe_tup (pa_cons (pv 2) (pa_cons pe_int pa_nil))) (pv 4)) pa_nil))))) pss_nil)
        (pss_cons (ps_if (pt_cmp (pc_notN (pv 6))) (pss_one (ps_ret (pe_lst (pa_cons pe_str (pa_cons (pe_op op_catA (pe_tup (pa_cons (pv 2) (pa_cons pe_int pa_nil))) (pv 6)) pa_nil))))) pss_nil)
        (pss_cons (ps_if (pt_not (pt_val (pe_call GK hr (by rfl) Y.gLawIsKept FK.kp bK .nil pass0 (pa_cons (pv 3) pa_nil)))) (pss_one (ps_ret (pe_lst (pa_cons pe_str (pa_cons (pv 2) pa_nil))))) pss_nil)
        (pss_cons (ps_if (pt_not (pt_val (pe_call GF hr61 (by rfl) Y.gLawIsFlat FF.kp bF .nil pass0 (pa_cons (pv 5) pa_nil)))) (pss_one (ps_ret (pe_lst (pa_cons pe_str (pa_cons (pv 2) pa_nil))))) pss_nil)
        (pss_one (ps_if (pt_cmpR (op_neD hu64) (pe_call GE hr61 (by rfl) Y.gLawEnds FE.kp bE .nil pass0 (pa_cons (pv 0) (pa_cons (pv 3) pa_nil))) (pe_call GE hr61 (by rfl) Y.gLawEnds FE.kp bE .nil pass0 (pa_cons (pv 0) (pa_cons (pv 5) pa_nil))) (nomark _)) (pss_one (ps_ret (pe_lst (pa_cons pe_str (pa_cons (pv 2) pa_nil))))) pss_nil)))))))
      (pss_one (ps_ret (pe_lst (pa_cons pe_str pa_nil)))), ?_⟩
    obtain ⟨e, L, xs, ls, as, rs, rfl, fr, hL, hR, ro, l50, k⟩ := h
    have ok := fr.ok
    have la := hR.len
    refine ⟨_, rfl, L, _, rfl, .inl hL, fun J GG wk gk => ?_⟩
    refine for_it wk (fun i σ G => (∃ v2 v3 v4 v5 v6, σ = [some (.ref e), some (.ref L), v2, v3, v4, v5, v6]) ∧ (∀ j r, j < i → rs[j]? = some r → dueP j r.1 r.2 = none) ∧ Same H G) ⟨⟨none, none, none, none, none, rfl⟩, fun j r hj => absurd hj (Nat.not_lt_zero _), Same.refl _⟩ (fun i σ G _ p => gk G p.2.2) ?_ ?_
    · rintro i v σ G G' hi ⟨⟨v2, v3, v4, v5, v6, rfl⟩, hno, sm⟩ ⟨T, x', y, rfl, hT, rfl, ex, ey⟩
      cases ex
      obtain ⟨a, ea, rfl⟩ := ref_at (show (as.map V.ref)[i]? = some y from ey)
      obtain ⟨⟨s1, s2⟩, er, p1, f1, p2, f2, h1, h2, h3, h4, h5⟩ := hR.get ea
      have sT := same_upd (o := .tup [V.int (i : Int), V.ref a]) hT
      have sA := sm.trans sT
      refine ⟨T, _, rfl, SqT.of upd_same, rfl, _, _, rfl, _, _, rfl, a, _, rfl, sqt_same sA h1, rfl, _, _, rfl, _, _, rfl, _, _, rfl, _, _, rfl, rfl, rfl, ?_⟩
      obtain ⟨o1, o2⟩ := ro _ (List.mem_of_getElem? er)
      have due : ∀ {er' : Er}, dueP i s1 s2 = some er' → dueL 0 rs = some er' := fun {er'} he => dueL_at (k := 0) (i := i) (fun j r hj hg => by rw [Nat.zero_add]; exact hno j r hj hg) er (by rw [Nat.zero_add]; exact he)
      have k2 : ∀ {er' : Er}, dueP i s1 s2 = some er' → ∀ (p : Addr) (H' : Hp), Same H H' → Va K H' (.ref p) (erD (some er')) → Q (.ref p) H' := fun {er'} he p H' s' hv => k p H' s' (by rw [due he]; exact hv)
      dsimp only
      -- a wrong left side
      refine ⟨_, rfl, _, rfl, ?_⟩
      cases s1 with
      | bad d q0 =>
        obtain ⟨qa, rfl, hq⟩ := h3
        refine iteT ⟨_, rfl, szl (by show 2 ≤ 1000; decide), fun t1 ht1 => ⟨_, rfl, ?_⟩⟩
        have z1 := same_upd (o := .tup [V.int (i : Int), V.int 0]) ht1
        have lq := o1.2.2
        refine cat_any (ys := paV [i, 0]) (SqT.of upd_same) (sqt_same (sA.trans z1) hq) (by unfold paV; rw [List.length_map, List.length_map]; show 2 + q0.length ≤ 1000; omega) fun T2 H2 y2 hT2 => ⟨szl (by show 2 ≤ 1000; decide), fun p hp => ?_⟩
        have z3 := same_upd (o := .lst [V.str "term", V.ref T2]) hp
        exact k2 (er' := .term (i :: 0 :: q0)) (by cases s2 <;> rfl) p _ (sA.trans (z1.trans (y2.trans z3))) (.lst (SqL.of upd_same) (.cons (.str _) (.cons (.tup (sqt_same z3 (by rw [paV_app] at hT2; exact hT2)) (va_pa _)) .nil)))
      | ok t1 a1 b1 =>
      obtain rfl : f1 = V.non := h3
      refine iteF ⟨_, rfl, _, rfl, ?_⟩
      cases s2 with
      | bad d q0 =>
        obtain ⟨qa, rfl, hq⟩ := h5
        refine iteT ⟨_, rfl, szl (by show 2 ≤ 1000; decide), fun t2 ht2 => ⟨_, rfl, ?_⟩⟩
        have z1 := same_upd (o := .tup [V.int (i : Int), V.int 1]) ht2
        have lq := o2.2.2
        refine cat_any (ys := paV [i, 1]) (SqT.of upd_same) (sqt_same (sA.trans z1) hq) (by unfold paV; rw [List.length_map, List.length_map]; show 2 + q0.length ≤ 1000; omega) fun T2 H2 y2 hT2 => ⟨szl (by show 2 ≤ 1000; decide), fun p hp => ?_⟩
        have z3 := same_upd (o := .lst [V.str "term", V.ref T2]) hp
        exact k2 (er' := .term (i :: 1 :: q0)) rfl p _ (sA.trans (z1.trans (y2.trans z3))) (.lst (SqL.of upd_same) (.cons (.str _) (.cons (.tup (sqt_same z3 (by rw [paV_app] at hT2; exact hT2)) (va_pa _)) .nil)))
      | ok t2 a2 b2 =>
      obtain rfl : f2 = V.non := h5
      refine iteF ?_
      obtain ⟨ty1, sz1⟩ := o1
      obtain ⟨ty2, sz2⟩ := o2
      obtain ⟨u1, rfl, hu1⟩ := va_tm h2
      obtain ⟨u2, rfl, hu2⟩ := va_tm h4
      refine ⟨_, rfl, u1, t1, rfl, hu1.same sA, Ty.rt ok ty1, sz1, by omega, fun H3 y3 => ⟨_, rfl, ?_⟩⟩
      have w3 := sA.trans y3
      cases ek : keptB t1 with
      | false => exact iteT ⟨_, rfl, szl (by show 2 ≤ 1000; decide), fun p hp => k2 (er' := .kept i) (by show (if keptB t1 = false then _ else _) = _; rw [if_pos ek]) p _ (w3.trans (same_upd hp)) (.lst (SqL.of upd_same) (.cons (.str _) (.cons (.int _) .nil)))⟩
      | true =>
      refine iteF ?_
      refine ⟨_, rfl, u2, t2, rfl, hu2.same w3, Ty.rt ok ty2, sz2, by omega, fun H4 y4 => ⟨_, rfl, ?_⟩⟩
      have w4 := w3.trans y4
      cases ef : noneOf NF t2 with
      | false => exact iteT ⟨_, rfl, szl (by show 2 ≤ 1000; decide), fun p hp => k2 (er' := .flat i) (by show (if keptB t1 = false then _ else if noneOf NF t2 = false then _ else _) = _; rw [if_neg (by rw [ek]; decide), if_pos ef]) p _ (w4.trans (same_upd hp)) (.lst (SqL.of upd_same) (.cons (.str _) (.cons (.int _) .nil)))⟩
      | true =>
      refine iteF ?_
      have wa := Ty.wd ok ty1
      have wb := Ty.wd ok ty2
      have nde : ∀ q ∈ ls, endOf ls q.1 = q := fun q hq => find_nd ok.nl.nd hq
      refine ⟨_, rfl, _, rfl, e, u1, xs, ls, t1, rfl, fr.same w4, hu1.same w4, Ty.fm0 ty1, sz1, fun T5 H5 y5 hT5 => ?_⟩
      have w5 := w4.trans y5
      refine ⟨_, rfl, _, rfl, e, u2, xs, ls, t2, rfl, fr.same w5, hu2.same w5, Ty.fm0 ty2, sz2, fun T6 H6 y6 hT6 => ?_⟩
      have w6 := w5.trans y6
      rw [(Ty.eL nde ty1).1] at hT5
      rw [(Ty.eL nde ty2).1] at hT6
      refine ne_ends wa.1 wa.2 wb.1 wb.2 (sqt_same y6 hT5) hT6 ⟨_, rfl, ?_⟩
      by_cases ee : ((a1, b1) : Str × Str) = (a2, b2)
      · rw [decide_eq_true ee]
        refine iteF ⟨⟨_, _, _, _, _, rfl⟩, fun j r hj hg => ?_, w6⟩
        by_cases ej : j = i
        · subst ej
          rw [er] at hg
          cases hg
          show (if keptB t1 = false then _ else if noneOf NF t2 = false then _ else if (a1, b1) ≠ (a2, b2) then _ else _) = _
          rw [if_neg (by rw [ek]; decide), if_neg (by rw [ef]; decide), if_neg (by simpa using ee)]
        · exact hno j r (by omega) hg
      · rw [decide_eq_false ee]
        exact iteT ⟨_, rfl, szl (by show 2 ≤ 1000; decide), fun p hp => k2 (er' := .ends i) (by show (if keptB t1 = false then _ else if noneOf NF t2 = false then _ else if (a1, b1) ≠ (a2, b2) then _ else _) = _; rw [if_neg (by rw [ek]; decide), if_neg (by rw [ef]; decide), if_pos ee]) p _ (w6.trans (same_upd hp)) (.lst (SqL.of upd_same) (.cons (.str _) (.cons (.int _) .nil)))⟩
    · rintro σ G ⟨⟨v2, v3, v4, v5, v6, rfl⟩, hno, sm⟩
      rw [List.length_map, la] at hno
      have hdue : dueL 0 rs = none := dueL_no fun j r hg => by rw [Nat.zero_add]; exact hno j r (List.getElem?_eq_some_iff.mp hg).1 hg
      rw [hdue] at k
      exact ⟨szl (by show 1 ≤ 1000; decide), fun p hp => k p _ (sm.trans (same_upd hp)) (.lst (SqL.of upd_same) (.cons (.str _) .nil))⟩
end
end K37

namespace K37
open PySem PySem.Spec PyProof.Rows L2 Ow Xv
/-! ### values whose lists begin with a text: they stay while a list of references grows -/
def lfH : List PyData → Bool
  | .str _ :: _ => true
  | _ => false
mutual
def lfB : PyData → Bool
  | .list ds => lfH ds && lfA ds
  | .tuple ds => lfA ds
  | .dict _ => false
  | _ => true
def lfA : List PyData → Bool
  | [] => true
  | d :: ds => lfB d && lfA ds
end
theorem lfA_strs : ∀ ss : List Str, lfA (ss.map PyData.str) = true
  | [] => by simp [lfA]
  | s :: ss => by
    rw [List.map_cons, lfA, lfA_strs ss]
    simp [lfB]
theorem lf_dat : ∀ t : Tm, lfB (dat t) = true
  | .leaf w ss => by
    unfold dat
    rw [lfB, lfA, lfA_strs]
    simp [lfB]
  | .one w t => by
    unfold dat
    simp [lfB, lfA, lf_dat t]
  | .two w s t => by
    unfold dat
    simp [lfB, lfA, lf_dat s, lf_dat t]
section
variable {K : PySem.W.Frag} {H : Hp}
theorem lf_head {xs : List V} {ds : List PyData} (g : VaAll K H xs ds) (l : lfH ds = true) : ∃ w r, xs = .str w :: r := by
  cases g with
  | nil => cases l
  | cons h g =>
    cases h with
    | str w => exact ⟨w, _, rfl⟩
    | _ => simp [lfH] at l
variable {D : Addr} {qs : List Addr} {o : HO}
theorem sql_putR (e : H D = some (.lst (qs.map V.ref))) {a : Addr} {w : Str} {r : List V} (h : SqL K H a (.str w :: r)) : SqL K (upd H D o) a (.str w :: r) := by
  have ne : ∀ u, H a = some u → (u = .lst (.str w :: r) ∨ ∃ p, u = .frz p (.lst (.str w :: r))) → a ≠ D := fun u hu hc z => by
    rw [z, e] at hu
    cases hu
    rcases hc with hc | ⟨p, hc⟩
    · injection hc with hc
      cases qs <;> cases hc
    · cases hc
  exact h.elim (fun h => .inl (h.elim (fun h => .inl ((upd_ne (ne _ h (.inl rfl))).trans h)) fun ⟨p, h⟩ => .inr ⟨p, (upd_ne (ne _ h (.inr ⟨p, rfl⟩))).trans h⟩)) fun h => .inr h
mutual
theorem va_putR (e : H D = some (.lst (qs.map V.ref))) : ∀ {v : V} {d : PyData}, Va K H v d → lfB d = true → Va K (upd H D o) v d
  | _, _, .non, _ => .non
  | _, _, .bl b, _ => .bl b
  | _, _, .int i, _ => .int i
  | _, _, .str x, _ => .str x
  | _, _, .lst h g, l => by
    rw [lfB, Bool.and_eq_true] at l
    obtain ⟨w, r, ex⟩ := lf_head g l.1
    subst ex
    exact .lst (sql_putR e h) (vas_putR e g l.2)
  | _, _, .tup h g, l => .tup (sqt_put e h) (vas_putR e g (by rw [lfB] at l; exact l))
  | _, _, .dic e', l => by simp [lfB] at l
theorem vas_putR (e : H D = some (.lst (qs.map V.ref))) : ∀ {vs : List V} {ds : List PyData}, VaAll K H vs ds → lfA ds = true → VaAll K (upd H D o) vs ds
  | _, _, .nil, _ => .nil
  | _, _, .cons h g, l => by
    rw [lfA, Bool.and_eq_true] at l
    exact .cons (va_putR e h l.1) (vas_putR e g l.2)
end
end
end K37

namespace K37
open PySem PySem.Spec PyProof.Rows L2 Ow Xv
/-! ### a value that is no term, with the path to its wrong part -/
/-- values whose first wrong part has this path; so many parts are looked at -/
structure BadD (xs ns : List Str) (d : PyData) (p : List Nat) (m : Nat) : Prop where
  fl : fl xs ns d = some p
  pre : ∀ q, (preD xs ns q d).length ≤ m
section
variable {xs ns : List Str} {d : PyData} {p : List Nat} {m : Nat} {w : Str} {t : Tm}
theorem BadD.no (h : formD xs ns d = false) : BadD xs ns d [] 1 := ⟨by rw [fl_eq, h]; rfl, fun q => by rw [preD_eq, h]; exact Nat.le_refl 1⟩
theorem form_one (q : ¬ w = "letter") (s : shp w = some (1, 0)) (d : PyData) : formD xs ns (.tuple [.str w, d]) = true ∧ kidsD (.tuple [.str w, d]) = [d] := ⟨by simp [formD, formW, q, s], by simp [kidsD, s]⟩
theorem form_two (q : ¬ w = "letter") (s : shp w = some (2, 0)) (d e : PyData) : formD xs ns (.tuple [.str w, d, e]) = true ∧ kidsD (.tuple [.str w, d, e]) = [d, e] := ⟨by simp [formD, formW, q, s], by simp [kidsD, s]⟩
theorem BadD.one (q : ¬ w = "letter") (s : shp w = some (1, 0)) (h : BadD xs ns d p m) : BadD xs ns (.tuple [.str w, d]) (0 :: p) (m + 1) := by
  obtain ⟨f, k⟩ := form_one (xs := xs) (ns := ns) q s d
  refine ⟨?_, fun r => ?_⟩
  · rw [fl_eq, if_pos f, k]
    unfold flK
    rw [h.fl]
  · rw [preD_eq, if_pos f, k, show kp r 0 [d] = [(r ++ [0], d)] from rfl, List.flatMap_cons, List.flatMap_nil, List.append_nil, List.length_cons]
    have := h.pre (r ++ [0])
    dsimp only
    omega
theorem BadD.right (q : ¬ w = "letter") (s : shp w = some (2, 0)) (f1 : Fmd xs ns t) (h : BadD xs ns d p m) : BadD xs ns (.tuple [.str w, dat t, d]) (1 :: p) (m + t.sz + 1) := by
  obtain ⟨f, k⟩ := form_two (xs := xs) (ns := ns) q s (dat t) d
  refine ⟨?_, fun r => ?_⟩
  · rw [fl_eq, if_pos f, k]
    unfold flK
    rw [fl_dat f1]
    dsimp only
    unfold flK
    rw [h.fl]
  · rw [preD_eq, if_pos f, k, show kp r 0 [dat t, d] = [(r ++ [0], dat t), (r ++ [1], d)] from rfl, List.flatMap_cons, List.flatMap_cons, List.flatMap_nil, List.append_nil, List.length_cons, List.length_append, pre_dat _ f1]
    have := h.pre (r ++ [1])
    dsimp only
    omega
theorem BadD.left (q : ¬ w = "letter") (s : shp w = some (2, 0)) (f1 : Fmd xs ns t) (h : BadD xs ns d p m) : BadD xs ns (.tuple [.str w, d, dat t]) (0 :: p) (m + t.sz + 1) := by
  obtain ⟨f, k⟩ := form_two (xs := xs) (ns := ns) q s d (dat t)
  refine ⟨?_, fun r => ?_⟩
  · rw [fl_eq, if_pos f, k]
    unfold flK
    rw [h.fl]
  · rw [preD_eq, if_pos f, k, show kp r 0 [d, dat t] = [(r ++ [0], d), (r ++ [1], dat t)] from rfl, List.flatMap_cons, List.flatMap_cons, List.flatMap_nil, List.append_nil, List.length_cons, List.length_append, pre_dat _ f1]
    have := h.pre (r ++ [0])
    dsimp only
    omega
end
/-! what is shown of such values -/
theorem Fine.le {d : PyData} {n m : Nat} (h : Fine d n) (l : n ≤ m) : Fine d m := ⟨h.lay, Nat.le_trans h.dep l, h.sho, h.lv, Nat.le_trans h.wt (Nat.mul_le_mul_left 40 l)⟩
theorem fine_non : Fine .none 1 := ⟨by simp [PyData.canLay0], by simp [PyData.depth], by simp [PyData.showable], by decide +kernel, by decide +kernel⟩
theorem fine_str {w : Str} (h : Wd w) : Fine (.str w) 1 := by
  have z : w.cps.size ≤ 12 := h.hi
  refine ⟨by simp [PyData.canLay0, h.lay], by simp [PyData.depth], by simp [PyData.showable], str_lv h.lay, ?_⟩
  simp only [PyData.weight]
  omega
theorem fine_seven : Fine (.int 7) 1 := ⟨by decide +kernel, by decide +kernel, by decide +kernel, by decide +kernel, by decide +kernel⟩
theorem fine_t1 {a : PyData} {n : Nat} (h : Fine a n) : Fine (.tuple [a]) (n + 1) := by
  obtain ⟨a1, a2, a3, a4, a5⟩ := h
  refine ⟨by simp [PyData.canLay0, PyData.canLayAll0, a1], ?_, by simp [PyData.showable, PyData.showableAll, a3], by simp [PyData.leavesShort, PyData.leavesShortAll, a4], ?_⟩
  · simp only [PyData.depth, PyData.depthAll]; omega
  · simp only [PyData.weight, PyData.weightAll]; omega
theorem fine_t2 {a b : PyData} {n m : Nat} (h : Fine a n) (g : Fine b m) : Fine (.tuple [a, b]) (n + m + 1) := by
  obtain ⟨a1, a2, a3, a4, a5⟩ := h
  obtain ⟨b1, b2, b3, b4, b5⟩ := g
  refine ⟨by simp [PyData.canLay0, PyData.canLayAll0, a1, b1], ?_, by simp [PyData.showable, PyData.showableAll, a3, b3], by simp [PyData.leavesShort, PyData.leavesShortAll, a4, b4], ?_⟩
  · simp only [PyData.depth, PyData.depthAll]; omega
  · simp only [PyData.weight, PyData.weightAll]; omega
theorem fine_l2 {a b : PyData} {n m : Nat} (h : Fine a n) (g : Fine b m) : Fine (.list [a, b]) (n + m + 1) := by
  obtain ⟨a1, a2, a3, a4, a5⟩ := h
  obtain ⟨b1, b2, b3, b4, b5⟩ := g
  refine ⟨by simp [PyData.canLay0, PyData.canLayAll0, a1, b1], ?_, by simp [PyData.showable, PyData.showableAll, a3, b3], by simp [PyData.leavesShort, PyData.leavesShortAll, a4, b4], ?_⟩
  · simp only [PyData.depth, PyData.depthAll]; omega
  · simp only [PyData.weight, PyData.weightAll]; omega
theorem fine_t3 {a b c : PyData} {n m l : Nat} (h : Fine a n) (g : Fine b m) (f : Fine c l) : Fine (.tuple [a, b, c]) (n + m + l + 1) := by
  obtain ⟨a1, a2, a3, a4, a5⟩ := h
  obtain ⟨b1, b2, b3, b4, b5⟩ := g
  obtain ⟨c1, c2, c3, c4, c5⟩ := f
  refine ⟨by simp [PyData.canLay0, PyData.canLayAll0, a1, b1, c1], ?_, by simp [PyData.showable, PyData.showableAll, a3, b3, c3], by simp [PyData.leavesShort, PyData.leavesShortAll, a4, b4, c4], ?_⟩
  · simp only [PyData.depth, PyData.depthAll]; omega
  · simp only [PyData.weight, PyData.weightAll]; omega
abbrev NWr : List Str := ["_law_source_here", "_law_frame_here", "_law_ends_here", "_law_right", "_law_kind", "_law_odd", "_law_bad", "_law_path", "_law_way"]
abbrev PWr : List Str := ["_law_source_here", "_law_frame_here", "_law_ends_here"]
theorem scWr : FnScope NWr PWr (defScope sLawWrong) := ⟨rfl, rfl, rfl, by decide +kernel, rfl, by decide +kernel, by decide +kernel⟩
def spWr (K : PySem.W.Frag) : Sp := fun vs H Q _ => ∃ (d c e a : Addr) (xs : List Str) (ls : List Lt) (x y : Str), vs = [.ref d, .ref e, .ref a] ∧ SrcAt H d c ∧ FrAt K (hid d c H) e xs ls ∧ SqT K (hid d c H) a [.str x, .str y] ∧ x ∈ xs ∧ y ∈ xs ∧
  ∀ (T q : Addr) (v : V) (u : PyData) (p : List Nat) (H' : Hp), SrcAt H' d c → Same (hid d c H) (hid d c H') → SqT K (hid d c H') T [v, .ref q] → Va K (hid d c H') v u → SqT K (hid d c H') q (paV p) → SdOk xs ls (.bad u p) → Fine u 50 → (∀ n ∈ p, n ≤ 1) → lfB u = true → Q (.ref T) H'
section
variable {P : Program} {w : World} {K : PySem.W.Frag} {mg : Str → Option Value} {base : Heap} {f : Addr} {fd : FuncData}
theorem ok_wr (F : FnP K "_law_wrong" sLawWrong f fd) (Y : Fx w K mg) : FnOk P w K mg base CX0 6 f fd PWr (spWr K) := by
  obtain ⟨dP, FP⟩ := Y.dLawPick
  obtain ⟨dF, FF⟩ := Y.dLawFlat
  have bP := FunD.bindsN (ps := ["_law_source_here", "_law_many"]) FP fun _ _ _ _ _ _ us hl => match us, hl with | [_, _], _ => rfl
  have bF := FunD.bindsN (ps := ["_law_source_here", "_law_frame_here", "_law_ends_here", "_law_room"]) FF fun _ _ _ _ _ _ us hl => match us, hl with | [_, _, _, _], _ => rfl
  have GP : FnOk P w K mg base CX0 1 _ dP ["_law_source_here", "_law_many"] spPick := ok_pick FP Y.bl
  have GF : FnOk P w K mg base CX0 5 _ dF ["_law_source_here", "_law_frame_here", "_law_ends_here", "_law_room"] (spFl K 3) := ok_fl FF Y 3
  refine okD F scWr (fun vs H Q E h => ?_) (fun cdv A outer s H vs Q E hr h => ?_)
  · obtain ⟨d, c, e, a, xs, ls, x, y, rfl, _⟩ := h
    rfl
  · have nd := scWr.nd
    have hr1 : Room 1 _ := hr.mono (by decide)
    refine ⟨_, pss_cons (ps_par (i := 3) (j := 4) (by rfl) nd rfl rfl (by decide) rfl rfl (pa_cons (pe_call GF hr (by rfl) Y.gLawFlat FF.kp bF .nil pass0 (pa_cons (pv 0) (pa_cons (pv 1) (pa_cons (pv 2) (pa_cons pe_int pa_nil))))) (pa_cons (pe_call GP hr1 (by rfl) Y.gLawPick FP.kp bP .nil pass0 (pa_cons (pv 0) (pa_cons pe_int pa_nil))) pa_nil)) (by rfl))
      (pss_cons (ps_set (i := 5) nd rfl (Or.inl rfl) (pe_lst (pa_cons pe_non (pa_cons pe_str (pa_cons pe_int (pa_cons (pe_tup (pa_cons pe_str pa_nil)) (pa_cons (pe_tup (pa_cons pe_str (pa_cons pe_str pa_nil))) (pa_cons (pe_tup (pa_cons pe_str (pa_cons pe_non pa_nil))) (pa_cons (pe_lst (pa_cons pe_str (pa_cons (pv 3) pa_nil))) (pa_cons (pe_tup (pa_cons pe_str (pa_cons (pv 3) (pa_cons (pv 3) pa_nil)))) pa_nil))))))))))
      (pss_cons (ps_par (i := 6) (j := 7) (by rfl) nd rfl rfl (by decide) rfl rfl (pa_cons (pe_ix ix_list (pv 5) (pv 4) (fun _ _ => rfl)) (pa_cons (pe_tup pa_nil) pa_nil)) (by rfl))
      (pss_cons (ps_set (i := 8) nd rfl (Or.inl rfl) (pe_call GP hr1 (by rfl) Y.gLawPick FP.kp bP .nil pass0 (pa_cons (pv 0) (pa_cons pe_int pa_nil))))
      (pss_cons (ps_if (pt_cmpR op_eq (pv 8) pe_int (nomark _)) (pss_one (ps_par (i := 6) (j := 7) (by rfl) nd rfl rfl (by decide) rfl rfl (pa_cons (pe_tup (pa_cons pe_str (pa_cons (pv 6) pa_nil))) (pa_cons (pe_tup (pa_cons pe_int pa_nil)) pa_nil)) (by rfl))) pss_nil)
      (pss_cons (ps_if (pt_cmpR op_eq (pv 8) pe_int (nomark _)) (pss_one (ps_par (i := 6) (j := 7) (by rfl) nd rfl rfl (by decide) rfl rfl (pa_cons (pe_tup (pa_cons pe_str (pa_cons (pv 3) (pa_cons (pv 6) pa_nil)))) (pa_cons (pe_tup (pa_cons pe_int pa_nil)) pa_nil)) (by rfl))) pss_nil)
      (pss_cons (ps_if (pt_cmpR op_eq (pv 8) pe_int (nomark _)) (pss_one (ps_par (i := 6) (j := 7) (by rfl) nd rfl rfl (by decide) rfl rfl (pa_cons (pe_tup (pa_cons pe_str (pa_cons (pe_tup (pa_cons pe_str (pa_cons (pv 6) pa_nil))) (pa_cons (pv 3) pa_nil)))) (pa_cons (pe_tup (pa_cons pe_int (pa_cons pe_int pa_nil))) pa_nil)) (by rfl))) pss_nil)
      (pss_one (ps_ret (pe_tup (pa_cons (pv 6) (pa_cons (pv 7) pa_nil)))))))))))  , ?_⟩
    obtain ⟨d, c, e, a, xs, ls, x, y, rfl, src, fr, ha, hx, hy, k⟩ := h
    have ok := fr.ok
    have nl : ("zz9" : Str) ∉ ls.map (·.1) := fun h => (ok.nl.w _ h).z rfl
    refine ⟨_, rfl, _, rfl, _, rfl, d, c, e, a, 3, xs, ls, x, y, rfl, by decide, by decide, by decide, src, fr, ha, hx, hy, fun u H1 src1 sm1 g1 => ?_⟩
    obtain ⟨t, ht, hty, hsz, _⟩ := g1
    have hsz : t.sz ≤ 8 := hsz
    have fm := Ty.fm0 hty
    have fit : Fine (dat t) 8 := (fine_tm (Ty.rt ok hty)).le hsz
    refine ⟨_, rfl, d, c, 8, rfl, src1, by decide, by decide, fun r H2 r0 r1 src2 keep => ?_⟩
    have eh := hid_pick keep
    rw [← eh] at ht sm1
    clear eh keep src1
    refine ⟨_, _, rfl, ?_⟩
    -- the odd values, one of them
    dsimp only
    change tSeq _ _ _ [some (.ref d), some (.ref e), some (.ref a), some (.ref u), some (.int r), none, none, none, none] _
    refine seq_any (fun σ' G => ∃ L : Addr, σ' = [some (.ref d), some (.ref e), some (.ref a), some (.ref u), some (.int r), some (.ref L), none, none, none] ∧ SrcAt G d c ∧ Same (hid d c H) (hid d c G) ∧ TmAt K (hid d c G) u t ∧
      ∃ vs : List V, hid d c G L = some (.lst vs) ∧ ∃ v b, atI vs r = some v ∧ Va K (hid d c G) v b ∧ formD xs (ls.map (·.1)) b = false ∧ Fine b 20 ∧ lfB b = true) ?_ ?_
    rotate_left
    · intro nx hnx
      refine ⟨szl (by show 1 ≤ 1000; decide), fun T1 h1 => ⟨szl (by show 2 ≤ 1000; decide), fun T2 h2 => ⟨szl (by show 2 ≤ 1000; decide), fun T3 h3 => ⟨_, rfl, szl (by show 2 ≤ 1000; decide), fun T4 h4 => ⟨_, rfl, _, rfl, szl (by show 3 ≤ 1000; decide), fun T5 h5 => ⟨szl (by show 8 ≤ 1000; decide), fun L hL => ?_⟩⟩⟩⟩⟩⟩
      have n1 := new_h (.tup [V.str "letter"]) src2 h1
      have n2 := new_h (.tup [V.str "letter", V.str "zz9"]) n1.src h2
      have n3 := new_h (.tup [V.str "same", V.non]) n2.src h3
      have n4 := new_h (.lst [V.str "rest", V.ref u]) n3.src h4
      have n5 := new_h (.tup [V.str "rest", V.ref u, V.ref u]) n4.src h5
      have n6 := new_h (.lst [V.non, V.str "a", V.int 7, V.ref T1, V.ref T2, V.ref T3, V.ref T4, V.ref T5]) n5.src hL
      have s56 := n5.sm.trans n6.sm
      have s46 := n4.sm.trans s56
      have s36 := n3.sm.trans s46
      have s26 := n2.sm.trans s36
      have sA := n1.sm.trans s26
      have wl : Wd "letter" := wd_of (by decide +kernel)
      have wr : Wd "rest" := wd_of (by decide +kernel)
      have ws : Wd "same" := wd_of (by decide +kernel)
      have wa : Wd "a" := wd_of (by decide +kernel)
      have fzz : Fine (.str "zz9") 1 := ⟨by decide +kernel, by decide +kernel, by decide +kernel, by decide +kernel, by decide +kernel⟩
      refine hnx _ _ ⟨L, rfl, n6.src, sm1.trans sA, ht.same sA, _, n6.at_, ?_⟩
      obtain ⟨j, rfl⟩ : ∃ j : Nat, r = (j : Int) := ⟨r.toNat, by omega⟩
      have tu := tm_va (ht.same sA)
      have hj : j = 0 ∨ j = 1 ∨ j = 2 ∨ j = 3 ∨ j = 4 ∨ j = 5 ∨ j = 6 ∨ j = 7 := by omega
      rcases hj with rfl | rfl | rfl | rfl | rfl | rfl | rfl | rfl
      · exact ⟨_, _, atI_nat (j := 0) rfl, .non, rfl, fine_non.le (by decide), by simp [lfB, lfA, lfH, lf_dat]⟩
      · exact ⟨_, _, atI_nat (j := 1) rfl, .str _, rfl, (fine_str wa).le (by decide), by simp [lfB, lfA, lfH, lf_dat]⟩
      · exact ⟨_, _, atI_nat (j := 2) rfl, .int _, rfl, fine_seven.le (by decide), by simp [lfB, lfA, lfH, lf_dat]⟩
      · exact ⟨_, .tuple [.str "letter"], atI_nat (j := 3) rfl, .tup (SqT.of (s26 _ _ n1.at_)) (.cons (.str _) .nil), by simp [formD, formW], (fine_t1 (fine_str wl)).le (by decide), by simp [lfB, lfA, lfH, lf_dat]⟩
      · exact ⟨_, .tuple [.str "letter", .str "zz9"], atI_nat (j := 4) rfl, .tup (SqT.of (s36 _ _ n2.at_)) (.cons (.str _) (.cons (.str _) .nil)), by
          have e : inT (ls.map (·.1)) (.str "zz9") = false := decide_eq_false nl
          simp [formD, formW, e], (fine_t2 (fine_str wl) fzz).le (by decide), by simp [lfB, lfA, lfH, lf_dat]⟩
      · exact ⟨_, .tuple [.str "same", .none], atI_nat (j := 5) rfl, .tup (SqT.of (s46 _ _ n3.at_)) (.cons (.str _) (.cons .non .nil)), by
          have q : ¬ ("same" : Str) = "letter" := by decide
          have s : shp "same" = some (0, 1) := by decide +kernel
          simp [formD, formW, q, s, inT], (fine_t2 (fine_str ws) fine_non).le (by decide), by simp [lfB, lfA, lfH, lf_dat]⟩
      · exact ⟨_, .list [.str "rest", dat t], atI_nat (j := 6) rfl, .lst (SqL.of (s56 _ _ n4.at_)) (.cons (.str _) (.cons tu .nil)), rfl, (fine_l2 (fine_str wr) fit).le (by decide), by simp [lfB, lfA, lfH, lf_dat]⟩
      · exact ⟨_, .tuple [.str "rest", dat t, dat t], atI_nat (j := 7) rfl, .tup (SqT.of (n6.sm _ _ n5.at_)) (.cons (.str _) (.cons tu (.cons tu .nil))), by
          have q : ¬ ("rest" : Str) = "letter" := by decide
          have s : shp "rest" = some (1, 0) := by decide +kernel
          simp [formD, formW, q, s], (fine_t3 (fine_str wr) fit fit).le (by decide), by simp [lfB, lfA, lfH, lf_dat]⟩
    clear ht sm1 src2 src
    rintro σ G ⟨L, rfl, src, sm, ht, vs, eL, v, b, ev, hv, nf, fb, lb⟩
    have b0 : BadD xs (ls.map (·.1)) b [] 1 := .no nf
    refine ⟨_, rfl, _, rfl, L, _, r, v, rfl, rfl, SqL.of (hid_sub _ _ eL), ev, szl (by show 0 ≤ 1000; decide), fun q0 hq0 => ⟨_, _, rfl, ?_⟩⟩
    have n := new_h (.tup []) src hq0
    have sA := sm.trans n.sm
    have eq0 := n.at_
    have ht2 := ht.same n.sm
    have hv2 := hv.mono n.sm
    have src3 := n.src
    clear n ht hv sm eL ev src hq0
    refine ⟨_, rfl, d, c, 4, rfl, src3, by decide, by decide, fun r2 H3 q1 q2 src4 keep => ?_⟩
    have eh := hid_pick keep
    rw [← eh] at sA eq0 ht2 hv2
    clear eh keep src3
    have wr : Wd "rest" := wd_of (by decide +kernel)
    have wj : Wd "joined" := wd_of (by decide +kernel)
    have wt : Wd "turned" := wd_of (by decide +kernel)
    have wth : Wd "then" := wd_of (by decide +kernel)
    -- the end
    have fin : ∀ (v : V) (u : PyData) (q : Addr) (p : List Nat) (m : Nat) (G : Hp), SrcAt G d c → Same (hid d c H) (hid d c G) → Va K (hid d c G) v u → SqT K (hid d c G) q (paV p) → BadD xs (ls.map (·.1)) u p m → m ≤ 400 → p.length ≤ 50 → Fine u 50 → (∀ n ∈ p, n ≤ 1) → lfB u = true → ∀ T, G T = none → Q (.ref T) (upd G T (.tup [v, .ref q])) := fun v u q p m G src sm hv hq hb l1 l2 fu pp lu T hT => by
      have n := new_h (.tup [v, .ref q]) src hT
      exact k T q v u p _ n.src (sm.trans n.sm) (SqT.of n.at_) (hv.mono n.sm) (sqt_same n.sm hq) ⟨hb.fl, Nat.le_trans (hb.pre []) l1, l2⟩ fu pp lu
    refine ⟨_, rfl, rfl, _, rfl, ite2 (fun hc => ?_) (fun hc1 => ?_)⟩
    · have er : r2 = 1 := by simpa using hc
      subst er
      refine ⟨_, rfl, szl (by show 2 ≤ 1000; decide), fun T1 h1 => ⟨szl (by show 1 ≤ 1000; decide), fun T2 h2 => ⟨_, _, rfl, ?_⟩⟩⟩
      have n1 := new_h (.tup [V.str "rest", v]) src4 h1
      have n2 := new_h (.tup [V.int 0]) n1.src h2
      refine ⟨_, rfl, rfl, _, rfl, ite2 (fun hc => absurd hc (by decide)) (fun _ => ?_)⟩
      refine ⟨_, rfl, rfl, _, rfl, ite2 (fun hc => absurd hc (by decide)) (fun _ => ?_)⟩
      refine ⟨_, rfl, _, rfl, szl (by show 2 ≤ 1000; decide), fin _ _ T2 [0] 2 _ n2.src (sA.trans (n1.sm.trans n2.sm)) (.tup (SqT.of (n2.sm _ _ n1.at_)) (.cons (.str _) (.cons (hv2.mono (n1.sm.trans n2.sm)) .nil))) (SqT.of n2.at_) (b0.one (by decide) (by decide +kernel)) (by decide) (by decide) ((fine_t2 (fine_str wr) fb).le (by decide)) (by decide) (by simp [lfB, lfA, lf_dat, lb])⟩
    · refine ⟨_, rfl, rfl, _, rfl, ite2 (fun hc => ?_) (fun hc2 => ?_)⟩
      · have er : r2 = 2 := by simpa using hc
        subst er
        refine ⟨_, rfl, _, rfl, szl (by show 3 ≤ 1000; decide), fun T1 h1 => ⟨szl (by show 1 ≤ 1000; decide), fun T2 h2 => ⟨_, _, rfl, ?_⟩⟩⟩
        have n1 := new_h (.tup [V.str "joined", V.ref u, v]) src4 h1
        have n2 := new_h (.tup [V.int 1]) n1.src h2
        have s12 := n1.sm.trans n2.sm
        refine ⟨_, rfl, rfl, _, rfl, ite2 (fun hc => absurd hc (by decide)) (fun _ => ?_)⟩
        refine ⟨_, rfl, _, rfl, szl (by show 2 ≤ 1000; decide), fin _ _ T2 [1] _ _ n2.src (sA.trans s12) (.tup (SqT.of (n2.sm _ _ n1.at_)) (.cons (.str _) (.cons (tm_va (ht2.same s12)) (.cons (hv2.mono s12) .nil)))) (SqT.of n2.at_) (b0.right (by decide) (by decide +kernel) fm) (by omega) (by decide) ((fine_t3 (fine_str wj) fit fb).le (by decide)) (by decide) (by simp [lfB, lfA, lf_dat, lb])⟩
      · refine ⟨_, rfl, rfl, _, rfl, ite2 (fun hc => ?_) (fun hc3 => ?_)⟩
        · refine ⟨_, rfl, szl (by show 2 ≤ 1000; decide), fun T1 h1 => ⟨_, rfl, szl (by show 3 ≤ 1000; decide), fun T2 h2 => ⟨szl (by show 2 ≤ 1000; decide), fun T3 h3 => ⟨_, _, rfl, ?_⟩⟩⟩⟩
          have n1 := new_h (.tup [V.str "turned", v]) src4 h1
          have n2 := new_h (.tup [V.str "then", V.ref T1, V.ref u]) n1.src h2
          have n3 := new_h (.tup [V.int 0, V.int 0]) n2.src h3
          have s23 := n2.sm.trans n3.sm
          have s13 := n1.sm.trans s23
          refine ⟨_, rfl, _, rfl, szl (by show 2 ≤ 1000; decide), fin _ _ T3 [0, 0] _ _ n3.src (sA.trans s13) (.tup (SqT.of (n3.sm _ _ n2.at_)) (.cons (.str _) (.cons (.tup (SqT.of (s23 _ _ n1.at_)) (.cons (.str _) (.cons (hv2.mono s13) .nil))) (.cons (tm_va (ht2.same s13)) .nil)))) (SqT.of n3.at_) ((b0.one (w := "turned") (by decide) (by decide +kernel)).left (w := "then") (by decide) (by decide +kernel) fm) (by omega) (by decide) ((fine_t3 (fine_str wth) (fine_t2 (fine_str wt) fb) fit).le (by decide)) (by decide) (by simp [lfB, lfA, lf_dat, lb])⟩
        · exact ⟨_, rfl, _, rfl, szl (by show 2 ≤ 1000; decide), fin _ _ q0 [] 1 _ src4 sA hv2 (SqT.of eq0) b0 (by decide) (by decide) (fb.le (by decide)) (by decide) lb⟩
end
end K37

namespace K37
open PySem PySem.Spec PyProof.Rows L2 Ow Xv
/-! ### a premise, right or wrong in some way -/
abbrev NRo : List Str := ["_law_source_here", "_law_frame_here", "_law_ends_here", "_law_p", "_law_q", "_law_first", "_law_second", "_law_way"]
theorem scRo : FnScope NRo ["_law_source_here", "_law_frame_here"] (defScope sLawRow) := ⟨rfl, rfl, rfl, by decide +kernel, rfl, by decide +kernel, by decide +kernel⟩
/-- a side as it is drawn -/
def SdD (xs : List Str) (ls : List Lt) (s : Sd) : Prop := SdOk xs ls s ∧ Fine s.val 50 ∧ ∀ d p, s = .bad d p → (∀ n ∈ p, n ≤ 1) ∧ lfB d = true
def spRo (K : PySem.W.Frag) : Sp := fun vs H Q _ => ∃ (d c e : Addr) (xs : List Str) (ls : List Lt), vs = [.ref d, .ref e] ∧ SrcAt H d c ∧ FrAt K (hid d c H) e xs ls ∧ 1 ≤ ls.length ∧
  ∀ (T : Addr) (r : Sd × Sd) (H' : Hp), SrcAt H' d c → Same (hid d c H) (hid d c H') → RwAt K (hid d c H') T r → SdD xs ls r.1 → SdD xs ls r.2 → Q (.ref T) H'
theorem sdd_ok {xs : List Str} {ls : List Lt} {t : Tm} {x y : Str} (ok : FrOk xs ls) (h : Ty xs ls t x y) (l : t.sz ≤ 50) : SdD xs ls (.ok t x y) := ⟨⟨h, by omega⟩, (fine_tm (Ty.rt ok h)).le l, nofun⟩
theorem SdD.lf {xs : List Str} {ls : List Lt} {s : Sd} (h : SdD xs ls s) : lfB s.val = true := by
  cases s with
  | ok t a b => exact lf_dat t
  | bad d p => exact (h.2.2 d p rfl).2
/-- what is known of a row being made -/
structure RwI (K : PySem.W.Frag) (d c : Addr) (H0 : Hp) (xs : List Str) (ls : List Lt) (x y : Str) (r : Int) (v1 f1 v2 f2 : V) (s1 s2 : Sd) (G : Hp) : Prop where
  src : SrcAt G d c
  sm : Same H0 (hid d c G)
  h1 : Va K (hid d c G) v1 s1.val
  p1 : PfAt K (hid d c G) f1 s1
  h2 : Va K (hid d c G) v2 s2.val
  p2 : PfAt K (hid d c G) f2 s2
  o1 : SdD xs ls s1
  o2 : SdD xs ls s2
  q1 : ¬ (r = 0 ∨ r = 1 ∨ r = 2) → f1 = .non
section
variable {K : PySem.W.Frag} {d c : Addr} {H0 : Hp} {xs : List Str} {ls : List Lt} {x y : Str} {r : Int} {v1 f1 v2 f2 : V} {s1 s2 : Sd} {G G' : Hp}
theorem RwI.step (I : RwI K d c H0 xs ls x y r v1 f1 v2 f2 s1 s2 G) (src : SrcAt G' d c) (s : Same (hid d c G) (hid d c G')) : RwI K d c H0 xs ls x y r v1 f1 v2 f2 s1 s2 G' := ⟨src, I.sm.trans s, I.h1.mono s, I.p1.same s, I.h2.mono s, I.p2.same s, I.o1, I.o2, I.q1⟩
end
abbrev lR (d e a : Addr) (r : Int) (v1 v2 f1 f2 : V) : L2.St := [some (.ref d), some (.ref e), some (.ref a), some v1, some v2, some f1, some f2, some (.int r)]
def QA (x y : Str) (r : Int) (s2 : Sd) : Prop := ¬ (r = 2 ∨ r = 3 ∨ r = 4) → ∃ t, s2 = .ok t x y ∧ t.sz ≤ 20
def QB (r : Int) (f2 : V) : Prop := ¬ (r = 2 ∨ r = 3 ∨ r = 4) → f2 = .non
theorem in3 {r a b c : Int} (hc : inV (.int r) [.int a, .int b, .int c] = true) : r = a ∨ r = b ∨ r = c := by
  simp [inV, eqV] at hc
  omega
theorem in2 {r a b : Int} (hc : inV (.int r) [.int a, .int b] = true) : r = a ∨ r = b := by
  simp [inV, eqV] at hc
  omega
section
variable {P : Program} {w : World} {K : PySem.W.Frag} {mg : Str → Option Value} {base : Heap} {f : Addr} {fd : FuncData}
theorem ok_ro (F : FnP K "_law_row" sLawRow f fd) (Y : Fx w K mg) : FnOk P w K mg base CX0 28 f fd ["_law_source_here", "_law_frame_here"] (spRo K) := by
  obtain ⟨dP, FP⟩ := Y.dLawPick
  obtain ⟨dF, FF⟩ := Y.dLawFlat
  obtain ⟨dT, FT⟩ := Y.dLawTerm
  obtain ⟨dE, FE⟩ := Y.dLawSomeEnds
  obtain ⟨dW, FW⟩ := Y.dLawWrong
  have bP := FunD.bindsN (ps := ["_law_source_here", "_law_many"]) FP fun _ _ _ _ _ _ us hl => match us, hl with | [_, _], _ => rfl
  have bF := FunD.bindsN (ps := ["_law_source_here", "_law_frame_here", "_law_ends_here", "_law_room"]) FF fun _ _ _ _ _ _ us hl => match us, hl with | [_, _, _, _], _ => rfl
  have bT := FunD.bindsN (ps := PTm) FT fun _ _ _ _ _ _ us hl => match us, hl with | [_, _, _, _, _], _ => rfl
  have bE := FunD.bindsN (ps := ["_law_source_here", "_law_frame_here"]) FE fun _ _ _ _ _ _ us hl => match us, hl with | [_, _], _ => rfl
  have bW := FunD.bindsN (ps := PWr) FW fun _ _ _ _ _ _ us hl => match us, hl with | [_, _, _], _ => rfl
  have GP : FnOk P w K mg base CX0 1 _ dP ["_law_source_here", "_law_many"] spPick := ok_pick FP Y.bl
  have GF : FnOk P w K mg base CX0 5 _ dF ["_law_source_here", "_law_frame_here", "_law_ends_here", "_law_room"] (spFl K 3) := ok_fl FF Y 3
  have GT : FnOk P w K mg base CX0 27 _ dT PTm (spTm K 5) := ok_tm FT Y 5
  have GE : FnOk P w K mg base CX0 2 _ dE ["_law_source_here", "_law_frame_here"] (spSe K) := ok_se FE Y
  have GW : FnOk P w K mg base CX0 6 _ dW PWr (spWr K) := ok_wr FW Y
  refine okD F scRo (fun vs H Q E h => ?_) (fun cdv A outer s H vs Q E hr h => ?_)
  · obtain ⟨d, c, e, xs, ls, rfl, _⟩ := h
    rfl
  · have nd := scRo.nd
    have hu := hu_of hr
    have hr1 : Room 1 _ := hr.mono (by decide)
    have hr2 : Room 2 _ := hr.mono (by decide)
    have hr5 : Room 5 _ := hr.mono (by decide)
    have hr6 : Room 6 _ := hr.mono (by decide)
    refine ⟨_, pss_cons (ps_set (i := 2) nd rfl (Or.inl rfl) (pe_call GE hr2 (by rfl) Y.gLawSomeEnds FE.kp bE .nil pass0 (pa_cons (pv 0) (pa_cons (pv 1) pa_nil))))
      (pss_cons (ps_par (i := 3) (j := 4) (by rfl) nd rfl rfl (by decide) rfl rfl (pa_cons (pe_call GT hr (by rfl) Y.gLawTerm FT.kp bT .nil pass0 (pa_cons (pv 0) (pa_cons (pv 1) (pa_cons (pv 2) (pa_cons pe_int (pa_cons pe_str pa_nil)))))) (pa_cons (pe_call GF hr5 (by rfl) Y.gLawFlat FF.kp bF .nil pass0 (pa_cons (pv 0) (pa_cons (pv 1) (pa_cons (pv 2) (pa_cons pe_int pa_nil))))) pa_nil)) (by rfl))
      (pss_cons (ps_par3 (i := 5) (j := 6) (l := 7) (by rfl) nd rfl rfl rfl (by decide) (by decide) (by decide) rfl rfl rfl (pa_cons pe_non (pa_cons pe_non (pa_cons (pe_call GP hr1 (by rfl) Y.gLawPick FP.kp bP .nil pass0 (pa_cons (pv 0) (pa_cons pe_int pa_nil))) pa_nil))) (by rfl))
      (pss_cons (ps_if (pt_cmpR op_in_seq (pv 7) (pe_lst (pa_cons pe_int (pa_cons pe_int (pa_cons pe_int pa_nil)))) (by rfl)) (pss_one (ps_asg (pe_call GW hr6 (by rfl) Y.gLawWrong FW.kp bW .nil pass0 (pa_cons (pv 0) (pa_cons (pv 1) (pa_cons (pv 2) pa_nil)))) (pg_tup rfl (pgs_cons (pg_name (i := 3) nd rfl (Or.inl rfl)) (pgs_cons (pg_name (i := 5) nd rfl (Or.inl rfl)) pgs_nil))))) pss_nil)
      (pss_cons (ps_if (pt_cmpR op_in_seq (pv 7) (pe_lst (pa_cons pe_int (pa_cons pe_int (pa_cons pe_int pa_nil)))) (by rfl)) (pss_one (ps_asg (pe_call GW hr6 (by rfl) Y.gLawWrong FW.kp bW .nil pass0 (pa_cons (pv 0) (pa_cons (pv 1) (pa_cons (pv 2) pa_nil)))) (pg_tup rfl (pgs_cons (pg_name (i := 4) nd rfl (Or.inl rfl)) (pgs_cons (pg_name (i := 6) nd rfl (Or.inl rfl)) pgs_nil))))) pss_nil)
      (pss_cons (ps_if (pt_cmpR op_in_seq (pv 7) (pe_lst (pa_cons pe_int (pa_cons pe_int pa_nil))) (by rfl)) (pss_one (ps_set (i := 3) nd rfl (Or.inl rfl) (pe_tup (pa_cons pe_str (pa_cons (pe_tup (pa_cons pe_str (pa_cons (pe_tup (pa_cons pe_str (pa_cons (pe_ix ix_tup (pv 2) pe_int (fun _ _ => rfl)) (pa_cons (pe_ix ix_tup (pv 2) pe_int (fun _ _ => rfl)) pa_nil)))) (pa_cons (pe_call GF hr5 (by rfl) Y.gLawFlat FF.kp bF .nil pass0 (pa_cons (pv 0) (pa_cons (pv 1) (pa_cons (pv 2) (pa_cons pe_int pa_nil))))) pa_nil)))) pa_nil))))) pss_nil)
      (pss_cons (ps_if (pt_cmpR op_in_seq (pv 7) (pe_lst (pa_cons pe_int (pa_cons pe_int pa_nil))) (by rfl)) (pss_one (ps_set (i := 4) nd rfl (Or.inl rfl) (pe_tup (pa_cons pe_str (pa_cons (pv 4) (pa_cons (pe_tup (pa_cons pe_str (pa_cons (pv 4) (pa_cons (pe_tup (pa_cons pe_str (pa_cons (pe_ix ix_tup (pv 2) pe_int (fun _ _ => rfl)) pa_nil))) pa_nil)))) pa_nil)))))) pss_nil)
      (pss_cons (ps_if (pt_cmpR op_eq (pv 7) pe_int (nomark _)) (pss_one (ps_set (i := 4) nd rfl (Or.inl rfl) (pe_tup (pa_cons pe_str (pa_cons (pe_tup (pa_cons pe_str (pa_cons (pe_ix ix_tup (pv 2) pe_int (fun _ _ => rfl)) (pa_cons (pe_ix ix_tup (pv 2) pe_int (fun _ _ => rfl)) pa_nil)))) pa_nil))))) pss_nil)
      (pss_cons (ps_if (pt_cmpR op_in_seq (pv 7) (pe_lst (pa_cons pe_int (pa_cons pe_int pa_nil))) (by rfl)) (pss_one (ps_set (i := 3) nd rfl (Or.inl rfl) (pe_tup (pa_cons pe_str (pa_cons (pe_ix ix_tup (pv 2) pe_int (fun _ _ => rfl)) (pa_cons (pe_ix ix_list (pe_dget hu (pv 1) pe_str nosl) (pe_call GP hr1 (by rfl) Y.gLawPick FP.kp bP .nil pass0 (pa_cons (pv 0) (pa_cons (pe_callB call_len_seq (by rfl) Y.bLen PySem.boot_len (pa_cons (pe_dget hu (pv 1) pe_str nosl) pa_nil)) pa_nil))) (fun _ _ => rfl)) pa_nil)))))) pss_nil)
      (pss_one (ps_ret (pe_tup (pa_cons (pv 3) (pa_cons (pv 5) (pa_cons (pv 4) (pa_cons (pv 6) pa_nil)))))))))))))))  , ?_⟩
    obtain ⟨d, c, e, xs, ls, rfl, src, fr, l1, k⟩ := h
    have ok := fr.ok
    obtain ⟨s0, m0, o0, gs, _, _, es, _, _⟩ := fr.fr
    refine ⟨_, rfl, _, rfl, d, c, e, xs, ls, rfl, src, fr, l1, fun a x y H1 src1 sm1 ha hx hy => ?_⟩
    refine ⟨_, rfl, _, rfl, _, rfl, d, c, e, a, 5, "kept", xs, ls, x, y, rfl, by decide, by decide, by decide, src1, fr.same sm1, ha, hx, hy, fun u1 H2 src2 sm2 g1 => ?_⟩
    obtain ⟨t1, ht1, ty1, sz1, _⟩ := g1
    refine ⟨_, rfl, _, rfl, _, rfl, d, c, e, a, 3, xs, ls, x, y, rfl, by decide, by decide, by decide, src2, fr.same (sm1.trans sm2), sqt_same sm2 ha, hx, hy, fun u2 H3 src3 sm3 g2 => ⟨_, _, rfl, ?_⟩⟩
    obtain ⟨t2, ht2, ty2, sz2, _⟩ := g2
    have sz1 : t1.sz ≤ 14 := sz1
    have sz2 : t2.sz ≤ 8 := sz2
    refine ⟨_, rfl, d, c, 12, rfl, src3, by decide, by decide, fun r H4 r0 r1 src4 keep => ⟨_, _, _, rfl, ?_⟩⟩
    have eh := hid_pick keep
    have ht1' := ht1.same sm3
    have sm23 := sm2.trans sm3
    rw [← eh] at ht1' ht2 sm23
    have I0 : RwI K d c (hid d c H1) xs ls x y r (.ref u1) .non (.ref u2) .non (.ok t1 x y) (.ok t2 x y) H4 := ⟨src4, sm23, tm_va ht1', rfl, tm_va ht2, rfl, sdd_ok ok ty1 (by omega), sdd_ok ok ty2 (by omega), fun _ => rfl⟩
    have a0 : QA x y r (.ok t2 x y) := fun _ => ⟨t2, rfl, by omega⟩
    have fr1 := fr.same sm1
    have gs1 := dget_mono sm1 gs
    have lo1 := sm1 _ _ es
    clear eh keep src3 src2 ht1 ht1' ht2 sm3 sm2 sm23 src4 src1 src
    revert I0 a0
    generalize hs2 : Sd.ok t2 x y = s2
    generalize hs1 : Sd.ok t1 x y = s1
    clear hs1 hs2
    intro I0 a0
    -- a wrong left side
    dsimp only
    change tSeq _ _ _ (lR d e a r (.ref u1) (.ref u2) .non .non) _
    refine seq_any (fun σ' G => ∃ v1 f1 s1, σ' = lR d e a r v1 (.ref u2) f1 .non ∧ RwI K d c (hid d c H1) xs ls x y r v1 f1 (.ref u2) .non s1 s2 G) ?_ ?_
    rotate_left
    · intro nx hnx
      refine ⟨_, rfl, szl (by show 3 ≤ 1000; decide), fun l0 hl0 => ?_⟩
      have nl := new_h (.lst [V.int 0, V.int 1, V.int 2]) I0.src hl0
      refine ⟨l0, _, rfl, .inl (SqL.of upd_same), rfl, rfl, _, rfl, ite2 (fun hc => ?_) (fun hc => ?_)⟩
      · have hr3 := in3 hc
        have I1 := I0.step nl.src nl.sm
        refine ⟨_, rfl, _, rfl, _, rfl, d, c, e, a, xs, ls, x, y, rfl, I1.src, fr1.same I1.sm, sqt_same I1.sm ha, hx, hy, fun T q v u p G2 src2 sm2 hT hv hq ho hf hp hl => ?_⟩
        have I2 := I1.step src2 sm2
        exact ⟨T, _, rfl, sqt_same hid_sub hT, rfl, _, _, rfl, _, _, rfl, rfl, hnx _ _ ⟨v, .ref q, .bad u p, rfl, ⟨I2.src, I2.sm, hv, ⟨q, rfl, hq⟩, I2.h2, I2.p2, ⟨ho, hf, fun d p e => by cases e; exact ⟨hp, hl⟩⟩, I2.o2, fun z => absurd hr3 z⟩⟩⟩
      · exact hnx _ _ ⟨_, _, _, rfl, I0.step nl.src nl.sm⟩
    clear I0 s1
    rintro σ G ⟨v1, f1, s1, rfl, I0⟩
    -- a wrong right side
    refine seq_any (fun σ' G => ∃ v2 f2 s2, σ' = lR d e a r v1 v2 f1 f2 ∧ RwI K d c (hid d c H1) xs ls x y r v1 f1 v2 f2 s1 s2 G ∧ QA x y r s2) ?_ ?_
    rotate_left
    · intro nx hnx
      refine ⟨_, rfl, szl (by show 3 ≤ 1000; decide), fun l0 hl0 => ?_⟩
      have nl := new_h (.lst [V.int 2, V.int 3, V.int 4]) I0.src hl0
      refine ⟨l0, _, rfl, .inl (SqL.of upd_same), rfl, rfl, _, rfl, ite2 (fun hc => ?_) (fun hc => ?_)⟩
      · have hr3 := in3 hc
        have I1 := I0.step nl.src nl.sm
        refine ⟨_, rfl, _, rfl, _, rfl, d, c, e, a, xs, ls, x, y, rfl, I1.src, fr1.same I1.sm, sqt_same I1.sm ha, hx, hy, fun T q v u p G2 src2 sm2 hT hv hq ho hf hp hl => ?_⟩
        have I2 := I1.step src2 sm2
        exact ⟨T, _, rfl, sqt_same hid_sub hT, rfl, _, _, rfl, _, _, rfl, rfl, hnx _ _ ⟨v, .ref q, .bad u p, rfl, ⟨I2.src, I2.sm, I2.h1, I2.p1, hv, ⟨q, rfl, hq⟩, I2.o1, ⟨ho, hf, fun d p e => by cases e; exact ⟨hp, hl⟩⟩, I2.q1⟩, fun z => absurd hr3 z⟩⟩
      · exact hnx _ _ ⟨_, _, _, rfl, I0.step nl.src nl.sm, a0⟩
    clear I0 a0 s2 G
    rintro σ G ⟨v2, f2, s2, rfl, I0, a0⟩
    -- a left side that is not kept
    refine seq_any (fun σ' G => ∃ v1 s1, σ' = lR d e a r v1 v2 f1 f2 ∧ RwI K d c (hid d c H1) xs ls x y r v1 f1 v2 f2 s1 s2 G) ?_ ?_
    rotate_left
    · intro nx hnx
      refine ⟨_, rfl, szl (by show 2 ≤ 1000; decide), fun l0 hl0 => ?_⟩
      have nl := new_h (.lst [V.int 5, V.int 6]) I0.src hl0
      refine ⟨l0, _, rfl, .inl (SqL.of upd_same), rfl, rfl, _, rfl, ite2 (fun hc => ?_) (fun hc => ?_)⟩
      · have hr2 := in2 hc
        have I1 := I0.step nl.src nl.sm
        have ha1 := sqt_same hid_sub (sqt_same I1.sm ha)
        refine ⟨_, rfl, a, _, 0, _, rfl, rfl, ha1, rfl, _, rfl, a, _, 0, _, rfl, rfl, ha1, rfl, szl (by show 3 ≤ 1000; decide), fun T1 h1 => ?_⟩
        have n1 := new_h (.tup [V.str "all", V.str x, V.str x]) I1.src h1
        have I2 := I1.step n1.src n1.sm
        refine ⟨_, rfl, _, rfl, _, rfl, d, c, e, a, 2, xs, ls, x, y, rfl, by decide, by decide, by decide, I2.src, fr1.same I2.sm, sqt_same I2.sm ha, hx, hy, fun u G2 src2 sm2 g => ⟨szl (by show 3 ≤ 1000; decide), fun T2 h2 => ⟨szl (by show 2 ≤ 1000; decide), fun T3 h3 => ?_⟩⟩⟩
        obtain ⟨t, ht, ty, sz, _⟩ := g
        have sz : t.sz ≤ 5 := sz
        have n2 := new_h (.tup [V.str "then", V.ref T1, V.ref u]) src2 h2
        have n3 := new_h (.tup [V.str "rest", V.ref T2]) n2.src h3
        have s23 := n2.sm.trans n3.sm
        have I3 := I2.step n3.src (sm2.trans s23)
        have tat : TmAt K (hid d c (upd (upd G2 T2 (.tup [V.str "then", V.ref T1, V.ref u])) T3 (.tup [V.str "rest", V.ref T2]))) T3 (.one "rest" (.two "then" (.leaf "all" [x, x]) t)) := ⟨T2, SqT.of n3.at_, T1, u, SqT.of (n3.sm _ _ n2.at_), SqT.of (s23 _ _ (sm2 _ _ n1.at_)), ht.same s23⟩
        exact hnx _ _ ⟨_, .ok (.one "rest" (.two "then" (.leaf "all" [x, x]) t)) x y, rfl, ⟨I3.src, I3.sm, tm_va tat, I3.q1 (by omega), I3.h2, I3.p2, sdd_ok ok (.rest (.then_ (.all hx hx) ty)) (by show 1 + (1 + 1 + t.sz) ≤ 50; omega), I3.o2, I3.q1⟩⟩
      · exact hnx _ _ ⟨_, _, rfl, I0.step nl.src nl.sm⟩
    clear I0 s1 v1 G
    rintro σ G ⟨v1, s1, rfl, I0⟩
    -- a right side that is not flat
    refine seq_any (fun σ' G => ∃ v2 s2, σ' = lR d e a r v1 v2 f1 f2 ∧ RwI K d c (hid d c H1) xs ls x y r v1 f1 v2 f2 s1 s2 G ∧ QB r f2) ?_ ?_
    rotate_left
    · intro nx hnx
      have b0 : QB r f2 := fun z => by
        obtain ⟨t, e, _⟩ := a0 z
        have p := I0.p2
        rw [e] at p
        exact p
      refine ⟨_, rfl, szl (by show 2 ≤ 1000; decide), fun l0 hl0 => ?_⟩
      have nl := new_h (.lst [V.int 6, V.int 7]) I0.src hl0
      refine ⟨l0, _, rfl, .inl (SqL.of upd_same), rfl, rfl, _, rfl, ite2 (fun hc => ?_) (fun hc => ?_)⟩
      · have hr2 := in2 hc
        obtain ⟨t, es, sz⟩ := a0 (by omega)
        subst es
        have I1 := I0.step nl.src nl.sm
        obtain ⟨⟨ty, _⟩, _⟩ := I1.o2
        obtain ⟨u, rfl, hu2⟩ := va_tm I1.h2
        have ha1 := sqt_same hid_sub (sqt_same I1.sm ha)
        refine ⟨_, rfl, _, rfl, _, rfl, a, _, 1, _, rfl, rfl, ha1, rfl, szl (by show 2 ≤ 1000; decide), fun T1 h1 => ⟨szl (by show 3 ≤ 1000; decide), fun T2 h2 => ⟨szl (by show 3 ≤ 1000; decide), fun T3 h3 => ?_⟩⟩⟩
        have n1 := new_h (.tup [V.str "same", V.str y]) I1.src h1
        have n2 := new_h (.tup [V.str "then", V.ref u, V.ref T1]) n1.src h2
        have n3 := new_h (.tup [V.str "cut", V.ref u, V.ref T2]) n2.src h3
        have s23 := n2.sm.trans n3.sm
        have s13 := n1.sm.trans s23
        have I3 := I1.step n3.src s13
        have hu3 := hu2.same s13
        have tat : TmAt K (hid d c (upd (upd (upd _ T1 (.tup [V.str "same", V.str y])) T2 (.tup [V.str "then", V.ref u, V.ref T1])) T3 (.tup [V.str "cut", V.ref u, V.ref T2]))) T3 (.two "cut" t (.two "then" t (.leaf "same" [y]))) := ⟨u, T2, SqT.of n3.at_, hu3, u, T1, SqT.of (n3.sm _ _ n2.at_), hu3, SqT.of (s23 _ _ n1.at_)⟩
        exact hnx _ _ ⟨_, .ok (.two "cut" t (.two "then" t (.leaf "same" [y]))) x y, rfl, ⟨I3.src, I3.sm, I3.h1, I3.p1, tm_va tat, b0 (by omega), I3.o1, sdd_ok ok (.cut ty (.then_ ty (.same hy))) (by show 1 + t.sz + (1 + t.sz + 1) ≤ 50; omega), I3.q1⟩, b0⟩
      · exact hnx _ _ ⟨_, _, rfl, I0.step nl.src nl.sm, b0⟩
    clear I0 a0 s2 v2 G
    rintro σ G ⟨v2, s2, rfl, I0, b0⟩
    -- a right side that is walked
    refine seq_any (fun σ' G => ∃ v2 s2, σ' = lR d e a r v1 v2 f1 f2 ∧ RwI K d c (hid d c H1) xs ls x y r v1 f1 v2 f2 s1 s2 G) ?_ ?_
    rotate_left
    · intro nx hnx
      refine ⟨_, rfl, rfl, _, rfl, ite2 (fun hc => ?_) (fun hc => ?_)⟩
      · have er : r = 8 := by simpa using hc
        have ha1 := sqt_same hid_sub (sqt_same I0.sm ha)
        refine ⟨_, rfl, a, _, 0, _, rfl, rfl, ha1, rfl, _, rfl, a, _, 0, _, rfl, rfl, ha1, rfl, szl (by show 3 ≤ 1000; decide), fun T1 h1 => ⟨szl (by show 2 ≤ 1000; decide), fun T2 h2 => ?_⟩⟩
        have n1 := new_h (.tup [V.str "all", V.str x, V.str x]) I0.src h1
        have n2 := new_h (.tup [V.str "walked", V.ref T1]) n1.src h2
        have I2 := I0.step n2.src (n1.sm.trans n2.sm)
        have tat : TmAt K (hid d c (upd (upd G T1 (.tup [V.str "all", V.str x, V.str x])) T2 (.tup [V.str "walked", V.ref T1]))) T2 (.one "walked" (.leaf "all" [x, x])) := ⟨T1, SqT.of n2.at_, SqT.of (n2.sm _ _ n1.at_)⟩
        exact hnx _ _ ⟨_, .ok (.one "walked" (.leaf "all" [x, x])) x x, rfl, ⟨I2.src, I2.sm, I2.h1, I2.p1, tm_va tat, b0 (by omega), I2.o1, sdd_ok ok (.walked (.all hx hx)) (by show 1 + 1 ≤ 50; decide), I2.q1⟩⟩
      · exact hnx _ _ ⟨_, _, rfl, I0⟩
    clear I0 b0 s2 v2 G
    rintro σ G ⟨v2, s2, rfl, I0⟩
    -- a left side of other ends
    refine seq_any (fun σ' G => ∃ v1 s1, σ' = lR d e a r v1 v2 f1 f2 ∧ RwI K d c (hid d c H1) xs ls x y r v1 f1 v2 f2 s1 s2 G) ?_ ?_
    rotate_left
    · intro nx hnx
      refine ⟨_, rfl, szl (by show 2 ≤ 1000; decide), fun l0 hl0 => ?_⟩
      have nl := new_h (.lst [V.int 8, V.int 9]) I0.src hl0
      refine ⟨l0, _, rfl, .inl (SqL.of upd_same), rfl, rfl, _, rfl, ite2 (fun hc => ?_) (fun hc => ?_)⟩
      · have hr2 := in2 hc
        have I1 := I0.step nl.src nl.sm
        have ha1 := sqt_same hid_sub (sqt_same I1.sm ha)
        have gs2 := dget_mono hid_sub (dget_mono I1.sm gs1)
        have es2 := hid_sub _ _ (I1.sm _ _ lo1)
        have x16 := ok.nx.n
        have x1 : 1 ≤ xs.length := by
          cases xs with
          | nil => exact absurd hx List.not_mem_nil
          | cons _ _ => exact Nat.succ_pos _
        refine ⟨_, rfl, a, _, 0, _, rfl, rfl, ha1, rfl, _, rfl, e, .ref s0, rfl, gs2, _, rfl, _, rfl, e, .ref s0, rfl, gs2, s0, _, rfl, .inl (SqL.of es2), ?_⟩
        rw [List.length_map]
        refine ⟨d, c, (xs.length : Int), rfl, I1.src, by omega, by omega, fun r2 G5 r0 r1 src5 keep => ?_⟩
        obtain ⟨j, rfl⟩ : ∃ j : Nat, r2 = (j : Int) := ⟨r2.toNat, by omega⟩
        have lj : j < xs.length := by omega
        have eh5 := hid_pick keep
        have I2 := I1.step src5 (by rw [eh5]; exact Same.refl _)
        refine ⟨s0, _, _, _, rfl, rfl, SqL.of (hid_sub _ _ (I2.sm _ _ lo1)), str_ix lj, ?_⟩
        obtain ⟨mid, em⟩ : ∃ mid, mid = xs[j] := ⟨_, rfl⟩
        have hm : mid ∈ xs := em ▸ List.getElem_mem lj
        rw [← em]
        refine ⟨szl (by show 3 ≤ 1000; decide), fun T1 h1 => ?_⟩
        have n1 := new_h (.tup [V.str "all", V.str x, V.str mid]) I2.src h1
        have I3 := I2.step n1.src n1.sm
        have tat : TmAt K (hid d c (upd G5 T1 (.tup [V.str "all", V.str x, V.str mid]))) T1 (.leaf "all" [x, mid]) := SqT.of n1.at_
        exact hnx _ _ ⟨_, .ok (.leaf "all" [x, mid]) x mid, rfl, ⟨I3.src, I3.sm, tm_va tat, I3.q1 (by omega), I3.h2, I3.p2, sdd_ok ok (.all hx hm) (by show 1 ≤ 50; decide), I3.o2, I3.q1⟩⟩
      · exact hnx _ _ ⟨_, _, rfl, I0.step nl.src nl.sm⟩
    clear I0 s1 v1 G
    rintro σ G ⟨v1, s1, rfl, I0⟩
    refine ⟨_, rfl, _, rfl, _, rfl, _, rfl, szl (by show 4 ≤ 1000; decide), fun T hT => ?_⟩
    have n := new_h (.tup [v1, f1, v2, f2]) I0.src hT
    have I1 := I0.step n.src n.sm
    exact k T (s1, s2) _ I1.src (sm1.trans I1.sm) ⟨v1, f1, v2, f2, SqT.of n.at_, I1.h1, I1.p1, I1.h2, I1.p2⟩ I1.o1 I1.o2
end
end K37

namespace K37
open PySem PySem.Spec PyProof.Rows L2 Ow Xv
/-! ### the premise of a kind of a letter -/
section
variable {K : PySem.W.Frag} {H H' H2 : Hp}
/-- tuples stay -/
def TX (H H' : Hp) : Prop := (∀ b xs, H b = some (.tup xs) → H' b = some (.tup xs)) ∧ ∀ b o xs, H b = some (.frz o (.tup xs)) → H' b = some (.frz o (.tup xs))
theorem TX.of (s : Same H H') : TX H H' := ⟨fun _ _ e => s _ _ e, fun _ _ _ e => s _ _ e⟩
theorem TX.trans (x : TX H H') (y : TX H' H2) : TX H H2 := ⟨fun b xs e => y.1 b xs (x.1 b xs e), fun b o xs e => y.2 b o xs (x.2 b o xs e)⟩
theorem TX.putK {D : Addr} {l : List (Key × V)} {o : HO} (e : H D = some (.dK l)) : TX H (upd H D o) := ⟨fun b xs h => (upd_ne fun z => by rw [z, e] at h; cases h).trans h, fun b o xs h => (upd_ne fun z => by rw [z, e] at h; cases h).trans h⟩
theorem TX.putL {D : Addr} {l : List V} {o : HO} (e : H D = some (.lst l)) : TX H (upd H D o) := ⟨fun b xs h => (upd_ne fun z => by rw [z, e] at h; cases h).trans h, fun b o xs h => (upd_ne fun z => by rw [z, e] at h; cases h).trans h⟩
theorem TX.sqt {a : Addr} {xs : List V} (x : TX H H') (h : SqT K H a xs) : SqT K H' a xs :=
  h.elim (fun h => .inl (h.elim (fun h => .inl (x.1 _ _ h)) fun ⟨o, h⟩ => .inr ⟨o, x.2 _ _ _ h⟩)) fun h => .inr h
theorem TX.tm (x : TX H H') : ∀ {t : Tm} {a : Addr}, TmAt K H a t → TmAt K H' a t
  | .leaf _ _, _, h => x.sqt h
  | .one _ _, _, ⟨b, h, g⟩ => ⟨b, x.sqt h, x.tm g⟩
  | .two _ _ _, _, ⟨b, c, h, g, g2⟩ => ⟨b, c, x.sqt h, x.tm g, x.tm g2⟩
end
/-- a premise that is right: its two terms, their ends -/
abbrev Pm := Tm × Tm × Str × Str
def Pm.row (p : Pm) : Sd × Sd := (.ok p.1 p.2.2.1 p.2.2.2, .ok p.2.1 p.2.2.1 p.2.2.2)
def PmOk (xs : List Str) (ls : List Lt) (p : Pm) : Prop := Ty xs ls p.1 p.2.2.1 p.2.2.2 ∧ Ty xs ls p.2.1 p.2.2.1 p.2.2.2 ∧ keptB p.1 = true ∧ noneOf NF p.2.1 = true ∧ p.1.sz ≤ 50 ∧ p.2.1.sz ≤ 50
/-- at a stands the tuple of a right premise -/
def PmAt (K : PySem.W.Frag) (H : Hp) (a : Addr) (p : Pm) : Prop := ∃ u1 u2, SqT K H a [.ref u1, .ref u2] ∧ TmAt K H u1 p.1 ∧ TmAt K H u2 p.2.1
theorem PmAt.tx {K : PySem.W.Frag} {H H' : Hp} (x : TX H H') {a : Addr} {p : Pm} (h : PmAt K H a p) : PmAt K H' a p := let ⟨u1, u2, e, f, g⟩ := h; ⟨u1, u2, x.sqt e, x.tm f, x.tm g⟩
theorem PmAt.same {K : PySem.W.Frag} {H H' : Hp} (s : Same H H') {a : Addr} {p : Pm} (h : PmAt K H a p) : PmAt K H' a p := h.tx (.of s)
theorem PmAt.pr {K : PySem.W.Frag} {H : Hp} {a : Addr} {p : Pm} (h : PmAt K H a p) : PrAt K H a p.row := let ⟨u1, u2, e, f, g⟩ := h; ⟨.ref u1, .ref u2, e, tm_va f, tm_va g⟩
def W2 : List Str := ["one", "apart"]
/-- what the table of kinds holds under these words -/
def KvI (K : PySem.W.Frag) (xs : List Str) (ls : List Lt) (x y : Str) (G : Hp) (kvs : List (Key × V)) (ws : List Str) : Prop := ∀ w ∈ ws, ∃ T, valV kvs (.inr w) = some (.ref T) ∧ ((w ∈ W2 ∨ x = y) → ∃ p, PmAt K G T p ∧ PmOk xs ls p)
theorem KvI.tx {K : PySem.W.Frag} {xs : List Str} {ls : List Lt} {x y : Str} {G G' : Hp} {kvs : List (Key × V)} {ws : List Str} (h : KvI K xs ls x y G kvs ws) (t : TX G G') : KvI K xs ls x y G' kvs ws := fun w hw => let ⟨T, e, g⟩ := h w hw; ⟨T, e, fun z => let ⟨p, a, b⟩ := g z; ⟨p, a.tx t, b⟩⟩
theorem KvI.put {K : PySem.W.Frag} {xs : List Str} {ls : List Lt} {x y : Str} {G : Hp} {kvs : List (Key × V)} {ws : List Str} {w : Str} {T : Addr} (h : KvI K xs ls x y G kvs ws) (g : (w ∈ W2 ∨ x = y) → ∃ p, PmAt K G T p ∧ PmOk xs ls p) : KvI K xs ls x y G (putK kvs (.inr w) (.ref T)) (w :: ws) := fun v hv => by
  by_cases e : v = w
  · subst e
    exact ⟨T, by rw [valV_put, if_pos rfl], g⟩
  · rcases List.mem_cons.mp hv with z | z
    · exact absurd z e
    · obtain ⟨T', a, b⟩ := h v z
      exact ⟨T', by rw [valV_put, if_neg (fun z => e (by cases z; rfl))]; exact a, b⟩
abbrev NKp : List Str := ["_law_word_here", "_law_name", "_law_ends_here", "_law_letter", "_law_rear", "_law_both", "_law_rows"]
abbrev PKp : List Str := ["_law_word_here", "_law_name", "_law_ends_here"]
theorem scKp : FnScope NKp PKp (defScope sLawKindPremise) := ⟨rfl, rfl, rfl, by decide +kernel, rfl, by decide +kernel, by decide +kernel⟩
def W8 : List Str := ["apart", "one", "any", "single", "through", "both", "never", "self"]
def spKp (K : PySem.W.Frag) : Sp := fun vs H Q _ => ∃ (w z : Str) (a : Addr) (xs : List Str) (ls : List Lt) (x y : Str), vs = [.str w, .str z, .ref a] ∧ SqT K H a [.str x, .str y] ∧ x ∈ xs ∧ y ∈ xs ∧ (z, x, y) ∈ ls ∧ w ∈ W8 ∧ (w ∈ W2 ∨ x = y) ∧
  ∀ (T : Addr) (p : Pm) (H' : Hp), Same H H' → PmAt K H' T p → PmOk xs ls p → Q (.ref T) H'
/-- what is known while the table is made -/
structure KpI (K : PySem.W.Frag) (H : Hp) (l r D : Addr) (xs : List Str) (ls : List Lt) (z x y : Str) (n : Nat) (ws : List Str) (G : Hp) : Prop where
  sm : Same H G
  hl : TmAt K G l (.leaf "letter" [z])
  hr : TmAt K G r (.one "turned" (.leaf "letter" [z]))
  ex : ∃ kvs, G D = some (.dK kvs) ∧ kvs.length ≤ n ∧ KvI K xs ls x y G kvs ws
section
variable {P : Program} {w : World} {K : PySem.W.Frag} {mg : Str → Option Value} {base : Heap} {f : Addr} {fd : FuncData}
theorem KpI.put {H G G' : Hp} {l r D T : Addr} {xs : List Str} {ls : List Lt} {z x y : Str} {n : Nat} {ws : List Str} {kvs : List (Key × V)} {w : Str} (hD : H D = none) (I : KpI K H l r D xs ls z x y n ws G) (s : Same G G') (e : G' D = some (.dK kvs)) (e0 : G D = some (.dK kvs))
    (g : (w ∈ W2 ∨ x = y) → ∃ p, PmAt K G' T p ∧ PmOk xs ls p) : KpI K H l r D xs ls z x y (n + 1) (w :: ws) (upd G' D (.dK (putK kvs (.inr w) (.ref T)))) := by
  have t : TX G' (upd G' D (.dK (putK kvs (.inr w) (.ref T)))) := .putK e
  obtain ⟨kv, e1, l1, h1⟩ := I.ex
  rw [e0] at e1
  cases e1
  refine ⟨same_put hD (I.sm.trans s), (I.hl.same s) |> t.tm, (I.hr.same s) |> t.tm, _, upd_same, ?_, ((h1.tx (.of s)).put g).tx t⟩
  have := length_putK kvs (.inr w) (.ref T)
  omega
theorem ok_kp (F : FnP K "_law_kind_premise" sLawKindPremise f fd) (Y : Fx w K mg) : FnOk P w K mg base CX0 1 f fd PKp (spKp K) := by
  refine okD F scKp (fun vs H Q E h => ?_) (fun cdv A outer s H vs Q E hr h => ?_)
  · obtain ⟨w, z, a, xs, ls, x, y, rfl, _⟩ := h
    rfl
  · have nd := scKp.nd
    have hu := hu_of hr
    refine ⟨_, pss_cons (ps_set (i := 3) nd rfl (Or.inl rfl) (pe_tup (pa_cons pe_str (pa_cons (pv 1) pa_nil))))
      (pss_cons (ps_par (i := 4) (j := 5) (by rfl) nd rfl rfl (by decide) rfl rfl (pa_cons (pe_tup (pa_cons pe_str (pa_cons (pv 3) pa_nil))) (pa_cons (pe_tup (pa_cons (pe_ix ix_tup (pv 2) pe_int (fun _ _ => rfl)) (pa_cons (pe_ix ix_tup (pv 2) pe_int (fun _ _ => rfl)) pa_nil))) pa_nil)) (by rfl))
      (pss_cons (ps_set (i := 6) nd rfl (Or.inl rfl) (pe_disp (pps_cons pe_str (pe_tup (pa_cons (pe_tup (pa_cons pe_str (pa_cons (pe_ix ix_tup (pv 2) pe_int (fun _ _ => rfl)) pa_nil))) (pa_cons (pv 3) pa_nil)))
          (pps_cons pe_str (pe_tup (pa_cons (pe_tup (pa_cons pe_str (pa_cons (pv 3) (pa_cons (pe_tup (pa_cons pe_str (pa_cons (pe_ix ix_tup (pv 2) pe_int (fun _ _ => rfl)) pa_nil))) pa_nil)))) (pa_cons (pe_op op_catT (pe_tup (pa_cons pe_str pa_nil)) (pv 5)) pa_nil))) pps_nil)) rfl rfl (by simp) (by decide)))
      (pss_cons (ps_dput hu (pv 6) pe_str (pe_tup (pa_cons (pv 4) (pa_cons (pv 3) pa_nil))) rfl)
      (pss_cons (ps_dput hu (pv 6) pe_str (pe_tup (pa_cons (pe_tup (pa_cons pe_str (pa_cons (pv 3) (pa_cons (pv 3) pa_nil)))) (pa_cons (pv 3) pa_nil))) rfl)
      (pss_cons (ps_dput hu (pv 6) pe_str (pe_tup (pa_cons (pe_tup (pa_cons pe_str (pa_cons (pv 3) (pa_cons (pv 4) pa_nil)))) (pa_cons (pe_tup (pa_cons pe_str (pa_cons (pe_ix ix_tup (pv 2) pe_int (fun _ _ => rfl)) pa_nil))) pa_nil))) rfl)
      (pss_cons (ps_dput hu (pv 6) pe_str (pe_tup (pa_cons (pe_tup (pa_cons pe_str (pa_cons (pe_ix ix_tup (pv 2) pe_int (fun _ _ => rfl)) pa_nil))) (pa_cons (pe_tup (pa_cons pe_str (pa_cons (pv 3) (pa_cons (pv 4) pa_nil)))) pa_nil))) rfl)
      (pss_cons (ps_dput hu (pv 6) pe_str (pe_tup (pa_cons (pe_tup (pa_cons pe_str (pa_cons (pv 4) (pa_cons (pv 3) pa_nil)))) (pa_cons (pe_tup (pa_cons pe_str (pa_cons (pe_ix ix_tup (pv 2) pe_int (fun _ _ => rfl)) pa_nil))) pa_nil))) rfl)
      (pss_cons (ps_dput hu (pv 6) pe_str (pe_tup (pa_cons (pe_tup (pa_cons pe_str (pa_cons (pv 3) (pa_cons (pv 4) pa_nil)))) (pa_cons (pe_tup (pa_cons pe_str (pa_cons (pe_ix ix_tup (pv 2) pe_int (fun _ _ => rfl)) pa_nil))) pa_nil))) rfl)
      (pss_one (ps_ret (pe_dget hu (pv 6) (pv 0) nosl))))))))))), ?_⟩
    obtain ⟨wd, z, a, xs, ls, x, y, rfl, ha, hx, hy, hz, hw8, hw, k⟩ := h
    have tyL : Ty xs ls (.leaf "letter" [z]) x y := .letter (q := (z, x, y)) hz
    have tyR : Ty xs ls (.one "turned" (.leaf "letter" [z])) y x := .turned tyL
    refine ⟨_, rfl, szl (by show 2 ≤ 1000; decide), fun l hl => ?_⟩
    refine ⟨_, rfl, szl (by show 2 ≤ 1000; decide), fun r hr' => ?_⟩
    have q1 := same_upd (o := .tup [V.str "letter", V.str z]) hl
    have q2 := same_upd (o := .tup [V.str "turned", V.ref l]) hr'
    have q12 := q1.trans q2
    refine ⟨_, rfl, a, _, 0, _, rfl, rfl, sqt_same q12 ha, rfl, _, rfl, a, _, 0, _, rfl, rfl, sqt_same q12 ha, rfl, szl (by show 2 ≤ 1000; decide), fun bo hb => ⟨_, _, rfl, ?_⟩⟩
    have q3 := same_upd (o := .tup [V.str x, V.str x]) hb
    dsimp only
    change tSeq _ _ _ [some (.str wd), some (.str z), some (.ref a), some (.ref l), some (.ref r), some (.ref bo), none] _
    -- the first two
    refine seq_any (fun σ' G => ∃ D, σ' = [some (.str wd), some (.str z), some (.ref a), some (.ref l), some (.ref r), some (.ref bo), some (.ref D)] ∧ H D = none ∧ KpI K H l r D xs ls z x y 2 ["never", "self"] G) ?_ ?_
    rotate_left
    · intro nx hnx
      intro D hD
      have qA := q12.trans q3
      have q4 := same_upd (o := .dK []) hD
      have qB := qA.trans q4
      refine ⟨_, rfl, a, _, 0, _, rfl, rfl, sqt_same qB ha, rfl, szl (by show 2 ≤ 1000; decide), fun T1 h1 => ⟨_, rfl, szl (by show 2 ≤ 1000; decide), fun T2 h2 => ?_⟩⟩
      have q5 := same_upd (o := .tup [V.str "same", V.str x]) h1
      have q6 := same_upd (o := .tup [V.ref T1, V.ref l]) h2
      have q56 := q5.trans q6
      have qC := qB.trans q56
      refine ⟨_, rfl, _, rfl, a, _, 0, _, rfl, rfl, sqt_same qC ha, rfl, szl (by show 2 ≤ 1000; decide), fun T3 h3 => ⟨szl (by show 3 ≤ 1000; decide), fun T4 h4 => ?_⟩⟩
      have q7 := same_upd (o := .tup [V.str "same", V.str x]) h3
      have q8 := same_upd (o := .tup [V.str "cut", V.ref l, V.ref T3]) h4
      have q78 := q7.trans q8
      have qD := qC.trans q78
      refine ⟨szl (by show 1 ≤ 1000; decide), fun T5 h5 => ?_⟩
      have q9 := same_upd (o := .tup [V.str "none"]) h5
      have qBo := (q4.trans (q56.trans (q78.trans q9)))
      refine ⟨_, rfl, T5, bo, _, _, rfl, rfl, SqT.of upd_same, SqT.of (qBo _ _ upd_same), by simp, szl (by show 1 + 2 ≤ 1000; decide), fun e => absurd e (by simp), fun _ T6 h6 => ⟨szl (by show 2 ≤ 1000; decide), fun T7 h7 => ?_⟩⟩
      have q10 := same_upd (o := .tup ([V.str "none"] ++ [V.str x, V.str x])) h6
      have q11 := same_upd (o := .tup [V.ref T4, V.ref T6]) h7
      have q910 := q9.trans (q10.trans q11)
      have qE : Same _ _ := q78.trans q910
      have qF : Same _ _ := q56.trans qE
      have qG : Same _ _ := q4.trans qF
      have hD0 : H D = none := none_of qA hD
      have eD := qF D (.dK []) upd_same
      have sT : Same H _ := qA.trans qG
      refine ⟨eD, [(.inr "self", .ref T2), (.inr "never", .ref T7)], rfl, (show 2 ≤ 15 by decide), ?_⟩
      have sF := same_put hD (o := .dK (mergeK [] [(.inr "self", .ref T2), (.inr "never", .ref T7)])) (q4.trans qF)
      have xx : TX _ _ := .putK (o := .dK (mergeK [] [(.inr "self", .ref T2), (.inr "never", .ref T7)])) eD
      have i0 : ∀ G, KvI K xs ls x y G [] [] := fun G w hw => absurd hw List.not_mem_nil
      refine hnx _ _ ⟨D, rfl, hD0, ⟨same_put hD0 sT, SqT.of (sF _ _ (q3 _ _ (q2 _ _ upd_same))), ⟨l, SqT.of (sF _ _ (q3 _ _ upd_same)), SqT.of (sF _ _ (q3 _ _ (q2 _ _ upd_same)))⟩, _, upd_same, by have := length_mergeK [(Sum.inr "self", V.ref T2), (Sum.inr "never", V.ref T7)] ([] : List (Key × V)); exact this, ((i0 _).put (w := "self") (T := T2) fun h => ?_).put (w := "never") (T := T7) fun h => ?_⟩⟩
      · rcases h with h | rfl
        · exact absurd h (by decide +kernel)
        · exact ⟨(.leaf "same" [x], .leaf "letter" [z], x, x), ⟨T1, l, SqT.of (xx.1 _ _ (qE _ _ upd_same)), SqT.of (xx.1 _ _ (qE _ _ (q6 _ _ upd_same))), SqT.of (sF _ _ (q3 _ _ (q2 _ _ upd_same)))⟩, .same hx, tyL, rfl, rfl, by show 1 ≤ 50; decide, by show 1 ≤ 50; decide⟩
      · rcases h with h | rfl
        · exact absurd h (by decide +kernel)
        · exact ⟨(.two "cut" (.leaf "letter" [z]) (.leaf "same" [x]), .leaf "none" [x, x], x, x), ⟨T4, T6, SqT.of (xx.1 _ _ upd_same), ⟨l, T3, SqT.of (xx.1 _ _ (q910 _ _ upd_same)), SqT.of (sF _ _ (q3 _ _ (q2 _ _ upd_same))), SqT.of (xx.1 _ _ (q910 _ _ (q8 _ _ upd_same)))⟩, SqT.of (xx.1 _ _ (q11 _ _ upd_same))⟩, .cut tyL (.same hx), .none hx hx, rfl, rfl, by show 1 + 1 + 1 ≤ 50; decide, by show 1 ≤ 50; decide⟩
    rintro σ G0 ⟨D, rfl, hD0, I⟩
    refine seq_any (fun σ' G => σ' = [some (.str wd), some (.str z), some (.ref a), some (.ref l), some (.ref r), some (.ref bo), some (.ref D)] ∧ KpI K H l r D xs ls z x y 3 ["both", "never", "self"] G) ?_ ?_
    rotate_left
    · intro nx hnx
      obtain ⟨kvs, eD, lk, hkv⟩ := I.ex
      refine ⟨_, rfl, _, rfl, szl (by show 2 ≤ 1000; decide), fun T hT => ?_⟩
      have z1 := same_upd (o := .tup [V.ref r, V.ref l]) hT
      have hL := I.hl.same z1
      have hR := I.hr.same z1
      refine ⟨_, rfl, D, _, rfl, (show DPut _ D (.str "both") _ _ from DPut.k (k := .inr "both") (z1 _ _ eD) (small1000 (by omega))), hnx _ _ ⟨rfl, KpI.put hD0 I z1 (z1 _ _ eD) eD fun h => ?_⟩⟩
      rcases h with h | rfl
      · exact absurd h (by decide +kernel)
      · exact ⟨(.one "turned" (.leaf "letter" [z]), .leaf "letter" [z], x, x), ⟨r, l, SqT.of upd_same, hR, hL⟩, tyR, tyL, rfl, rfl, by show 1 + 1 ≤ 50; decide, by show 1 ≤ 50; decide⟩
    clear I G0
    rintro σ G0 ⟨rfl, I⟩
    refine seq_any (fun σ' G => σ' = [some (.str wd), some (.str z), some (.ref a), some (.ref l), some (.ref r), some (.ref bo), some (.ref D)] ∧ KpI K H l r D xs ls z x y 4 ["through", "both", "never", "self"] G) ?_ ?_
    rotate_left
    · intro nx hnx
      obtain ⟨kvs, eD, lk, hkv⟩ := I.ex
      refine ⟨_, rfl, _, rfl, szl (by show 3 ≤ 1000; decide), fun T1 h1 => ⟨_, rfl, szl (by show 2 ≤ 1000; decide), fun T hT => ?_⟩⟩
      have z1 := same_upd (o := .tup [V.str "then", V.ref l, V.ref l]) h1
      have z2 := same_upd (o := .tup [V.ref T1, V.ref l]) hT
      have z12 := z1.trans z2
      have hL := I.hl.same z12
      have hR := I.hr.same z12
      refine ⟨_, rfl, D, _, rfl, (show DPut _ D (.str "through") _ _ from DPut.k (k := .inr "through") (z12 _ _ eD) (small1000 (by omega))), hnx _ _ ⟨rfl, KpI.put hD0 I z12 (z12 _ _ eD) eD fun h => ?_⟩⟩
      rcases h with h | rfl
      · exact absurd h (by decide +kernel)
      · exact ⟨(.two "then" (.leaf "letter" [z]) (.leaf "letter" [z]), .leaf "letter" [z], x, x), ⟨T1, l, SqT.of upd_same, ⟨l, l, SqT.of (z2 _ _ upd_same), hL, hL⟩, hL⟩, .then_ tyL tyL, tyL, rfl, rfl, by show 1 + 1 + 1 ≤ 50; decide, by show 1 ≤ 50; decide⟩
    clear I G0
    rintro σ G0 ⟨rfl, I⟩
    refine seq_any (fun σ' G => σ' = [some (.str wd), some (.str z), some (.ref a), some (.ref l), some (.ref r), some (.ref bo), some (.ref D)] ∧ KpI K H l r D xs ls z x y 5 ["single", "through", "both", "never", "self"] G) ?_ ?_
    rotate_left
    · intro nx hnx
      obtain ⟨kvs, eD, lk, hkv⟩ := I.ex
      refine ⟨_, rfl, _, rfl, szl (by show 3 ≤ 1000; decide), fun T1 h1 => ⟨_, rfl, a, _, 0, _, rfl, rfl, sqt_same ((I.sm).trans (same_upd h1)) ha, rfl, szl (by show 2 ≤ 1000; decide), fun T2 h2 => ⟨szl (by show 2 ≤ 1000; decide), fun T hT => ?_⟩⟩⟩
      have z1 := same_upd (o := .tup [V.str "cut", V.ref l, V.ref r]) h1
      have z2 := same_upd (o := .tup [V.str "same", V.str x]) h2
      have z3 := same_upd (o := .tup [V.ref T1, V.ref T2]) hT
      have z23 := z2.trans z3
      have z13 := z1.trans z23
      have hL := I.hl.same z13
      have hR := I.hr.same z13
      refine ⟨_, rfl, D, _, rfl, (show DPut _ D (.str "single") _ _ from DPut.k (k := .inr "single") (z13 _ _ eD) (small1000 (by omega))), hnx _ _ ⟨rfl, KpI.put hD0 I z13 (z13 _ _ eD) eD fun h => ?_⟩⟩
      rcases h with h | rfl
      · exact absurd h (by decide +kernel)
      · exact ⟨(.two "cut" (.leaf "letter" [z]) (.one "turned" (.leaf "letter" [z])), .leaf "same" [x], x, x), ⟨T1, T2, SqT.of upd_same, ⟨l, r, SqT.of (z23 _ _ upd_same), hL, hR⟩, SqT.of (z3 _ _ upd_same)⟩, .cut tyL tyR, .same hx, rfl, rfl, by show 1 + 1 + (1 + 1) ≤ 50; decide, by show 1 ≤ 50; decide⟩
    clear I G0
    rintro σ G0 ⟨rfl, I⟩
    refine seq_any (fun σ' G => σ' = [some (.str wd), some (.str z), some (.ref a), some (.ref l), some (.ref r), some (.ref bo), some (.ref D)] ∧ KpI K H l r D xs ls z x y 6 ["any", "single", "through", "both", "never", "self"] G) ?_ ?_
    rotate_left
    · intro nx hnx
      obtain ⟨kvs, eD, lk, hkv⟩ := I.ex
      refine ⟨_, rfl, a, _, 0, _, rfl, rfl, sqt_same I.sm ha, rfl, szl (by show 2 ≤ 1000; decide), fun T1 h1 => ⟨_, rfl, _, rfl, szl (by show 3 ≤ 1000; decide), fun T2 h2 => ⟨szl (by show 2 ≤ 1000; decide), fun T hT => ?_⟩⟩⟩
      have z1 := same_upd (o := .tup [V.str "other", V.str x]) h1
      have z2 := same_upd (o := .tup [V.str "joined", V.ref l, V.ref r]) h2
      have z3 := same_upd (o := .tup [V.ref T1, V.ref T2]) hT
      have z23 := z2.trans z3
      have z13 := z1.trans z23
      have hL := I.hl.same z13
      have hR := I.hr.same z13
      refine ⟨_, rfl, D, _, rfl, (show DPut _ D (.str "any") _ _ from DPut.k (k := .inr "any") (z13 _ _ eD) (small1000 (by omega))), hnx _ _ ⟨rfl, KpI.put hD0 I z13 (z13 _ _ eD) eD fun h => ?_⟩⟩
      rcases h with h | rfl
      · exact absurd h (by decide +kernel)
      · exact ⟨(.leaf "other" [x], .two "joined" (.leaf "letter" [z]) (.one "turned" (.leaf "letter" [z])), x, x), ⟨T1, T2, SqT.of upd_same, SqT.of (z23 _ _ upd_same), ⟨l, r, SqT.of (z3 _ _ upd_same), hL, hR⟩⟩, .other hx, .joined tyL tyR, rfl, rfl, by show 1 ≤ 50; decide, by show 1 + 1 + (1 + 1) ≤ 50; decide⟩
    clear I G0
    rintro σ G0 ⟨rfl, I⟩
    refine seq_any (fun σ' G => σ' = [some (.str wd), some (.str z), some (.ref a), some (.ref l), some (.ref r), some (.ref bo), some (.ref D)] ∧ KpI K H l r D xs ls z x y 7 ["one", "any", "single", "through", "both", "never", "self"] G) ?_ ?_
    rotate_left
    · intro nx hnx
      obtain ⟨kvs, eD, lk, hkv⟩ := I.ex
      refine ⟨_, rfl, _, rfl, szl (by show 3 ≤ 1000; decide), fun T1 h1 => ⟨_, rfl, a, _, 1, _, rfl, rfl, sqt_same ((I.sm).trans (same_upd h1)) ha, rfl, szl (by show 2 ≤ 1000; decide), fun T2 h2 => ⟨szl (by show 2 ≤ 1000; decide), fun T hT => ?_⟩⟩⟩
      have z1 := same_upd (o := .tup [V.str "then", V.ref r, V.ref l]) h1
      have z2 := same_upd (o := .tup [V.str "same", V.str y]) h2
      have z3 := same_upd (o := .tup [V.ref T1, V.ref T2]) hT
      have z23 := z2.trans z3
      have z13 := z1.trans z23
      have hL := I.hl.same z13
      have hR := I.hr.same z13
      refine ⟨_, rfl, D, _, rfl, (show DPut _ D (.str "one") _ _ from DPut.k (k := .inr "one") (z13 _ _ eD) (small1000 (by omega))), hnx _ _ ⟨rfl, KpI.put hD0 I z13 (z13 _ _ eD) eD fun h => ?_⟩⟩
      exact ⟨(.two "then" (.one "turned" (.leaf "letter" [z])) (.leaf "letter" [z]), .leaf "same" [y], y, y), ⟨T1, T2, SqT.of upd_same, ⟨r, l, SqT.of (z23 _ _ upd_same), hR, hL⟩, SqT.of (z3 _ _ upd_same)⟩, .then_ tyR tyL, .same hy, rfl, rfl, by show 1 + (1 + 1) + 1 ≤ 50; decide, by show 1 ≤ 50; decide⟩
    clear I G0
    rintro σ G0 ⟨rfl, I⟩
    refine seq_any (fun σ' G => σ' = [some (.str wd), some (.str z), some (.ref a), some (.ref l), some (.ref r), some (.ref bo), some (.ref D)] ∧ KpI K H l r D xs ls z x y 8 ["apart", "one", "any", "single", "through", "both", "never", "self"] G) ?_ ?_
    rotate_left
    · intro nx hnx
      obtain ⟨kvs, eD, lk, hkv⟩ := I.ex
      refine ⟨_, rfl, _, rfl, szl (by show 3 ≤ 1000; decide), fun T1 h1 => ⟨_, rfl, a, _, 0, _, rfl, rfl, sqt_same ((I.sm).trans (same_upd h1)) ha, rfl, szl (by show 2 ≤ 1000; decide), fun T2 h2 => ⟨szl (by show 2 ≤ 1000; decide), fun T hT => ?_⟩⟩⟩
      have z1 := same_upd (o := .tup [V.str "then", V.ref l, V.ref r]) h1
      have z2 := same_upd (o := .tup [V.str "same", V.str x]) h2
      have z3 := same_upd (o := .tup [V.ref T1, V.ref T2]) hT
      have z23 := z2.trans z3
      have z13 := z1.trans z23
      have hL := I.hl.same z13
      have hR := I.hr.same z13
      refine ⟨_, rfl, D, _, rfl, (show DPut _ D (.str "apart") _ _ from DPut.k (k := .inr "apart") (z13 _ _ eD) (small1000 (by omega))), hnx _ _ ⟨rfl, KpI.put hD0 I z13 (z13 _ _ eD) eD fun h => ?_⟩⟩
      exact ⟨(.two "then" (.leaf "letter" [z]) (.one "turned" (.leaf "letter" [z])), .leaf "same" [x], x, x), ⟨T1, T2, SqT.of upd_same, ⟨l, r, SqT.of (z23 _ _ upd_same), hL, hR⟩, SqT.of (z3 _ _ upd_same)⟩, .then_ tyL tyR, .same hx, rfl, rfl, by show 1 + 1 + (1 + 1) ≤ 50; decide, by show 1 ≤ 50; decide⟩
    clear I G0
    rintro σ G0 ⟨rfl, I⟩
    obtain ⟨kvs, eD, lk, hkv⟩ := I.ex
    obtain ⟨T, eT, gT⟩ := hkv wd hw8
    obtain ⟨p, hp, op⟩ := gT hw
    have dg : DGet G0 D (.str wd) (valV kvs (.inr wd)) := DGet.k (k := .inr wd) eD
    rw [eT] at dg
    exact ⟨_, rfl, _, rfl, D, .ref T, rfl, dg, k T p G0 I.sm hp op⟩
end
end K37

namespace K37
open PySem PySem.Spec PyProof.Rows L2 Ow Xv
/-! ### some right premises -/
theorem FlT.none : ∀ {t : Tm}, Rt t → FlT t → noneOf NF t = true
  | .leaf w ss, h, _ => by
    rw [noneOf_leaf]
    rcases h with ⟨rfl, _⟩ | ⟨rfl, _⟩ | ⟨rfl, _⟩ | ⟨rfl, _⟩ | ⟨rfl, _⟩ <;> decide +kernel
  | .one w t, h, k => by
    rw [noneOf_one, FlT.none h.2 k.2, Bool.and_true]
    rcases k.1 with rfl | rfl <;> decide +kernel
  | .two w s t, h, k => by
    rw [noneOf_two, FlT.none h.2.1 k.2.1, FlT.none h.2.2 k.2.2, Bool.and_true, Bool.and_true]
    rcases k.1 with rfl | rfl <;> decide +kernel
theorem KpT.kept : ∀ {t : Tm}, Rt t → KpT t → keptB t = true
  | .leaf w ss, h, _ => by
    rw [kept_kids h (show w ≠ "rest" by rcases h with ⟨rfl, _⟩ | ⟨rfl, _⟩ | ⟨rfl, _⟩ | ⟨rfl, _⟩ | ⟨rfl, _⟩ <;> decide +kernel)]
    rfl
  | .one w t, h, k => by
    rcases k with ⟨rfl, k⟩ | ⟨n, k⟩
    · rw [kept_rest h.2]
      exact FlT.none h.2 k
    · rw [kept_kids h n]
      show (keptB t && true) = true
      rw [KpT.kept h.2 k]
      rfl
  | .two w s t, h, k => by
    rw [kept_kids h (show w ≠ "rest" by rcases h.1 with rfl | rfl | rfl <;> decide +kernel)]
    show (keptB s && (keptB t && true)) = true
    rw [KpT.kept h.2.1 k.1, KpT.kept h.2.2 k.2]
    rfl
abbrev NPm : List Str := ["_law_source_here", "_law_frame_here", "_law_most", "_law_found", "_law_k", "_law_name", "_law_ends_here", "_law_words", "_law_some"]
abbrev PPm : List Str := ["_law_source_here", "_law_frame_here", "_law_most"]
theorem scPm : FnScope NPm PPm (defScope sLawPremises) := ⟨rfl, rfl, rfl, by decide +kernel, rfl, by decide +kernel, by decide +kernel⟩
def spPm (K : PySem.W.Frag) : Sp := fun vs H Q _ => ∃ (d c e : Addr) (xs : List Str) (ls : List Lt), vs = [.ref d, .ref e, .int 2] ∧ SrcAt H d c ∧ FrAt K (hid d c H) e xs ls ∧ 1 ≤ ls.length ∧
  ∀ (L : Addr) (as : List Addr) (ps : List Pm) (H' : Hp), SrcAt H' d c → Same (hid d c H) (hid d c H') → hid d c H' L = some (.lst (as.map V.ref)) → Rs (PmAt K) (hid d c H') as ps → (∀ p ∈ ps, PmOk xs ls p) → ps.length ≤ 2 → Q (.ref L) H'
abbrev lP (d e L : Addr) (v4 v5 v6 v7 v8 : Option V) : L2.St := [some (.ref d), some (.ref e), some (.int 2), some (.ref L), v4, v5, v6, v7, v8]
theorem tx_hid {d c : Addr} {H : Hp} (src : SrcAt H d c) : TX H (hid d c H) := by
  obtain ⟨zs, l, m, t, h1, h2, h3⟩ := src
  refine ⟨fun b xs e => (hid_at (fun z => ?_) fun z => ?_).trans e, fun b o xs e => (hid_at (fun z => ?_) fun z => ?_).trans e⟩
  · rw [z, h3] at e; cases e
  · rw [z, h1] at e; cases e
  · rw [z, h3] at e; cases e
  · rw [z, h1] at e; cases e
/-- what is known while the list grows -/
structure PmI (K : PySem.W.Frag) (d c L : Addr) (H : Hp) (xs : List Str) (ls : List Lt) (n : Nat) (G : Hp) : Prop where
  src : SrcAt G d c
  sm : Same (hid d c H) (hid d c G)
  ex : ∃ (as : List Addr) (ps : List Pm), hid d c G L = some (.lst (as.map V.ref)) ∧ Rs (PmAt K) (hid d c G) as ps ∧ (∀ p ∈ ps, PmOk xs ls p) ∧ ps.length = n
theorem PmI.step {K : PySem.W.Frag} {d c L : Addr} {H G G' : Hp} {xs : List Str} {ls : List Lt} {n : Nat} (I : PmI K d c L H xs ls n G) (src : SrcAt G' d c) (s : Same (hid d c G) (hid d c G')) : PmI K d c L H xs ls n G' :=
  let ⟨as, ps, a, b, e, f⟩ := I.ex
  ⟨src, I.sm.trans s, as, ps, s _ _ a, b.mono fun _ _ z => z.same s, e, f⟩
theorem PmI.put {K : PySem.W.Frag} {d c L T : Addr} {H G : Hp} {xs : List Str} {ls : List Lt} {n : Nat} (n1 : L ≠ d) (n2 : L ≠ c) (hL : hid d c H L = none) (I : PmI K d c L H xs ls n G) {as : List Addr} {p : Pm} (e : G L = some (.lst (as.map V.ref))) (hp : PmAt K (hid d c G) T p) (op : PmOk xs ls p) :
    PmI K d c L H xs ls (n + 1) (upd G L (.lst (as.map V.ref ++ [.ref T]))) := by
  obtain ⟨as', ps, a, b, g, l⟩ := I.ex
  rw [hid_at n1 n2, e] at a
  have ea : as.map V.ref = as'.map V.ref := by injection a with a; injection a
  have x : TX (hid d c G) (upd (hid d c G) L (.lst (as.map V.ref ++ [.ref T]))) := .putL (l := as.map V.ref) ((hid_at n1 n2).trans e)
  refine ⟨src_put n1 n2 I.src, ?_, as' ++ [T], ps ++ [p], ?_, ?_, ?_, ?_⟩
  · rw [hid_upd n1 n2]
    exact same_put hL I.sm
  · rw [hid_upd n1 n2, upd_same, List.map_append, ea]
    rfl
  · rw [hid_upd n1 n2]
    exact (b.mono fun _ _ z => z.tx x).app (.one (hp.tx x))
  · intro q hq
    rcases List.mem_append.mp hq with z | z
    · exact g q z
    · rw [List.mem_singleton.mp z]; exact op
  · rw [List.length_append, l]
    rfl
theorem PmI.same {K : PySem.W.Frag} {d c L : Addr} {H G G' : Hp} {xs : List Str} {ls : List Lt} {n : Nat} (I : PmI K d c L H xs ls n G) (s : Same G G') : PmI K d c L H xs ls n G' := I.step (src_same s I.src) (hid_same s)
section
variable {P : Program} {w : World} {K : PySem.W.Frag} {mg : Str → Option Value} {base : Heap} {f : Addr} {fd : FuncData}
theorem ok_pm (F : FnP K "_law_premises" sLawPremises f fd) (Y : Fx w K mg) : FnOk P w K mg base CX0 27 f fd PPm (spPm K) := by
  obtain ⟨dP, FP⟩ := Y.dLawPick
  obtain ⟨dF, FF⟩ := Y.dLawFlat
  obtain ⟨dT, FT⟩ := Y.dLawTerm
  obtain ⟨dE, FE⟩ := Y.dLawSomeEnds
  obtain ⟨dK, FK⟩ := Y.dLawKindPremise
  have bP := FunD.bindsN (ps := ["_law_source_here", "_law_many"]) FP fun _ _ _ _ _ _ us hl => match us, hl with | [_, _], _ => rfl
  have bF := FunD.bindsN (ps := ["_law_source_here", "_law_frame_here", "_law_ends_here", "_law_room"]) FF fun _ _ _ _ _ _ us hl => match us, hl with | [_, _, _, _], _ => rfl
  have bT := FunD.bindsN (ps := PTm) FT fun _ _ _ _ _ _ us hl => match us, hl with | [_, _, _, _, _], _ => rfl
  have bE := FunD.bindsN (ps := ["_law_source_here", "_law_frame_here"]) FE fun _ _ _ _ _ _ us hl => match us, hl with | [_, _], _ => rfl
  have bK := FunD.bindsN (ps := PKp) FK fun _ _ _ _ _ _ us hl => match us, hl with | [_, _, _], _ => rfl
  have GP : FnOk P w K mg base CX0 1 _ dP ["_law_source_here", "_law_many"] spPick := ok_pick FP Y.bl
  have GF : FnOk P w K mg base CX0 5 _ dF ["_law_source_here", "_law_frame_here", "_law_ends_here", "_law_room"] (spFl K 3) := ok_fl FF Y 3
  have GT : FnOk P w K mg base CX0 26 _ dT PTm (spTm K 4) := ok_tm FT Y 4
  have GE : FnOk P w K mg base CX0 2 _ dE ["_law_source_here", "_law_frame_here"] (spSe K) := ok_se FE Y
  have GK : FnOk P w K mg base CX0 1 _ dK PKp (spKp K) := ok_kp FK Y
  refine okD F scPm (fun vs H Q E h => ?_) (fun cdv A outer s H vs Q E hr h => ?_)
  · obtain ⟨d, c, e, xs, ls, rfl, _⟩ := h
    rfl
  · have nd := scPm.nd
    have hu := hu_of hr
    have hr1 : Room 1 _ := hr.mono (by decide)
    have hr2 : Room 2 _ := hr.mono (by decide)
    have hr5 : Room 5 _ := hr.mono (by decide)
    refine ⟨_, pss_cons (ps_set (i := 3) nd rfl (Or.inl rfl) (pe_lst pa_nil))
      (pss_cons (ps_for PassesOwn.never rfl (pi_range1 (by rfl) Y.bRange (pa_cons (pe_call GP hr1 (by rfl) Y.gLawPick FP.kp bP .nil pass0 (pa_cons (pv 0) (pa_cons (pe_op op_add (pv 2) pe_int) pa_nil))) pa_nil)) (pg_name (i := 4) nd rfl (Or.inl rfl))
        (pss_cons (ps_set (i := 5) nd rfl (Or.inl rfl) (pe_ix ix_list (pe_dget hu (pv 1) pe_str nosl) (pe_call GP hr1 (by rfl) Y.gLawPick FP.kp bP .nil pass0 (pa_cons (pv 0) (pa_cons (pe_callB call_len_seq (by rfl) Y.bLen PySem.boot_len (pa_cons (pe_dget hu (pv 1) pe_str nosl) pa_nil)) pa_nil))) (fun _ _ => rfl)))
        (pss_cons (ps_set (i := 6) nd rfl (Or.inl rfl) (pe_dget hu (pe_dget hu (pv 1) pe_str nosl) (pv 5) nosl))
        (pss_cons (ps_set (i := 7) nd rfl (Or.inl rfl) (pe_op op_cat (pe_lst (pa_cons pe_str (pa_cons pe_str pa_nil))) (pe_op op_rep (pe_lst (pa_cons pe_str (pa_cons pe_str (pa_cons pe_str (pa_cons pe_str (pa_cons pe_str (pa_cons pe_str pa_nil)))))))
          (pe_callTy call_int1 (by rfl) Y.bInt boot_int (pa_cons (pe_cmpR op_eq (pe_ix ix_tup (pv 6) pe_int (fun _ _ => rfl)) (pe_ix ix_tup (pv 6) pe_int (fun _ _ => rfl)) (nomark _)) pa_nil)))))
        (pss_one (ps_if (pt_cmpR op_gt (pe_call GP hr1 (by rfl) Y.gLawPick FP.kp bP .nil pass0 (pa_cons (pv 0) (pa_cons pe_int pa_nil))) pe_int (nomark _))
          (pss_one (ps_expr (pe_bm PySem.F.plainAttrs_list PySem.F.slot_list_append PySem.F.type_list_append mt_append (pv 3) (pa_cons (pe_call GK hr1 (by rfl) Y.gLawKindPremise FK.kp bK .nil pass0 (pa_cons (pe_ix ix_list (pv 7) (pe_call GP hr1 (by rfl) Y.gLawPick FP.kp bP .nil pass0 (pa_cons (pv 0) (pa_cons (pe_callB call_len_seq (by rfl) Y.bLen PySem.boot_len (pa_cons (pv 7) pa_nil)) pa_nil))) (fun _ _ => rfl)) (pa_cons (pv 5) (pa_cons (pv 6) pa_nil)))) pa_nil))))
          (pss_cons (ps_set (i := 8) nd rfl (Or.inl rfl) (pe_call GE hr2 (by rfl) Y.gLawSomeEnds FE.kp bE .nil pass0 (pa_cons (pv 0) (pa_cons (pv 1) pa_nil))))
          (pss_one (ps_expr (pe_bm PySem.F.plainAttrs_list PySem.F.slot_list_append PySem.F.type_list_append mt_append (pv 3) (pa_cons (pe_tup (pa_cons (pe_call GT hr (by rfl) Y.gLawTerm FT.kp bT .nil pass0 (pa_cons (pv 0) (pa_cons (pv 1) (pa_cons (pv 8) (pa_cons pe_int (pa_cons pe_str pa_nil)))))) (pa_cons (pe_call GF hr5 (by rfl) Y.gLawFlat FF.kp bF .nil pass0 (pa_cons (pv 0) (pa_cons (pv 1) (pa_cons (pv 8) (pa_cons pe_int pa_nil))))) pa_nil))) pa_nil)))))))))))
      (pss_one (ps_ret (pv 3)))), ?_⟩
    obtain ⟨d, c, e, xs, ls, rfl, src, fr, l1, k⟩ := h
    have ok := fr.ok
    obtain ⟨s0, m0, o0, gs, gm, go, es, lm, lo⟩ := fr.fr
    have l16 := ok.nl.n
    rw [List.length_map] at l16
    refine ⟨szl (by show 0 ≤ 1000; decide), fun L hL => ?_⟩
    obtain ⟨n1, n2⟩ := src_ne src hL
    have nL := new_h (.lst []) src hL
    have hLh : hid d c H L = none := (hid_at n1 n2).trans hL
    refine ⟨_, rfl, _, rfl, _, _, rfl, rfl, d, c, 3, rfl, nL.src, by decide, by decide, fun r G0 r0 r1 src0 keep => ⟨r, rfl, by omega, by omega, ?_⟩⟩
    have eh := hid_pick keep
    have I0 : PmI K d c L H xs ls 0 G0 := ⟨src0, by rw [eh]; exact nL.sm, [], [], by rw [eh]; exact nL.at_, .nil, fun p hp => absurd hp List.not_mem_nil, rfl⟩
    clear nL eh keep src0
    refine for_range (lo := 0) (n := r.toNat) (fun i σ G => (∃ v4 v5 v6 v7 v8, σ = lP d e L v4 v5 v6 v7 v8) ∧ PmI K d c L H xs ls i G) ⟨⟨_, _, _, _, _, rfl⟩, I0⟩ ?_ ?_
    rotate_left
    · rintro σ G ⟨⟨v4, v5, v6, v7, v8, rfl⟩, I⟩
      obtain ⟨as, ps, a1, a2, a3, a4⟩ := I.ex
      exact ⟨_, rfl, k L as ps G I.src I.sm a1 a2 a3 (by omega)⟩
    rintro i σ G hi ⟨⟨v4, v5, v6, v7, v8, rfl⟩, I⟩
    clear I0 G0
    dsimp only [gName]
    -- name, ends
    refine ⟨_, rfl, e, .ref o0, rfl, dget_mono hid_sub (dget_mono I.sm go), _, rfl, _, rfl, e, .ref o0, rfl, dget_mono hid_sub (dget_mono I.sm go), o0, _, rfl, .inl (hid_sub.seq (I.sm.seq lo)), ?_⟩
    rw [List.length_map, List.length_map]
    refine ⟨d, c, (ls.length : Int), rfl, I.src, by omega, by omega, fun r2 H2 q0 q1 src2 keep2 => ?_⟩
    obtain ⟨j, rfl⟩ : ∃ j : Nat, r2 = (j : Int) := ⟨r2.toNat, by omega⟩
    have lj : j < ls.length := by omega
    have eh2 := hid_pick keep2
    have I2 := I.step src2 (by rw [eh2]; exact Same.refl _)
    have ej : ls[j]? = some ls[j] := List.getElem?_eq_getElem lj
    obtain ⟨T, dg, st⟩ := (lm.same I2.sm).get ok.nl.nd ej
    refine ⟨o0, _, _, .str ls[j].1, rfl, rfl, hid_sub.seq (I2.sm.seq lo), atI_nat (by rw [List.getElem?_map, List.getElem?_map, ej]; rfl), ?_⟩
    refine ⟨_, rfl, e, .ref m0, rfl, dget_mono hid_sub (dget_mono I2.sm gm), _, rfl, m0, .ref T, rfl, dget_mono hid_sub dg, ?_⟩
    have hz := List.getElem_mem lj
    revert st hz
    generalize ls[j] = q
    obtain ⟨z, x, y⟩ := q
    intro st hz
    obtain ⟨hx, hy⟩ := ok.ends _ hz
    have ha : SqT K (hid d c H2) T [.str x, .str y] := st
    dsimp only
    change tSeq _ _ _ (lP d e L (some (.int (0 + (i : Int)))) (some (.str z)) (some (.ref T)) v7 v8) _
    clear st dg eh2 keep2 src2 I ej q0 q1
    revert I2 ha
    generalize H2 = G
    intro I ha
    obtain ⟨a, ea⟩ : ∃ a, a = T := ⟨_, rfl⟩
    rw [← ea] at ha ⊢
    clear ea T
    -- words
    refine seq_any (fun σ' G => ∃ (w8 : Addr) (ws : List Str), σ' = lP d e L (some (.int (0 + (i : Int)))) (some (.str z)) (some (.ref a)) (some (.ref w8)) v8 ∧ PmI K d c L H xs ls i G ∧ SqT K (hid d c G) a [.str x, .str y] ∧ hid d c G w8 = some (.lst (ws.map V.str)) ∧ ws.length ≤ 8 ∧ 1 ≤ ws.length ∧ ∀ w ∈ ws, w ∈ W8 ∧ (w ∈ W2 ∨ x = y)) ?_ ?_
    rotate_left
    · intro nx hnx
      refine ⟨szl (by show 2 ≤ 1000; decide), fun l1 hl1 => ⟨szl (by show 6 ≤ 1000; decide), fun l2 hl2 => ?_⟩⟩
      have q1 := new_h (.lst [V.str "one", V.str "apart"]) I.src hl1
      have q2 := new_h (.lst [V.str "self", V.str "never", V.str "both", V.str "through", V.str "single", V.str "any"]) q1.src hl2
      have q12 := q1.sm.trans q2.sm
      have ha2 := sqt_same hid_sub (sqt_same q12 ha)
      refine ⟨_, rfl, a, _, 0, _, rfl, rfl, ha2, rfl, _, rfl, a, _, 1, _, rfl, rfl, ha2, rfl, rfl, .inr ⟨_, rfl, ?_⟩⟩
      obtain ⟨k1, hk1, hk2⟩ : ∃ k : Nat, (if decide (V.str x = V.str y) = true then (1 : Int) else 0) = (k : Int) ∧ (k = 0 ∨ k = 1 ∧ x = y) := by
        by_cases e : x = y
        · exact ⟨1, by rw [if_pos (decide_eq_true (by rw [e]))]; rfl, .inr ⟨rfl, e⟩⟩
        · exact ⟨0, by rw [if_neg (fun z => e (by injection of_decide_eq_true z))]; rfl, .inl rfl⟩
      rw [hk1]
      refine ⟨l2, _, _, rfl, rfl, hid_sub _ _ q2.at_, by omega, by omega, szl (by show 6 * ((k1 : Int)).toNat ≤ 1000; omega), fun l3 hl3 => ?_⟩
      have q3 := new_h (.lst (List.replicate ((k1 : Int)).toNat [V.str "self", V.str "never", V.str "both", V.str "through", V.str "single", V.str "any"]).flatten) q2.src hl3
      have e1 := hid_sub _ _ (q3.sm _ _ (q2.sm _ _ q1.at_))
      have ll : (List.replicate ((k1 : Int)).toNat [V.str "self", V.str "never", V.str "both", V.str "through", V.str "single", V.str "any"]).flatten.length ≤ 6 := by
        rcases hk2 with rfl | ⟨rfl, _⟩ <;> decide
      refine ⟨l1, l3, _, _, rfl, rfl, e1, hid_sub _ _ q3.at_, szl (by show 2 + _ ≤ 1000; omega), fun l4 hl4 => ?_⟩
      have q4 := new_h (.lst ([V.str "one", V.str "apart"] ++ (List.replicate ((k1 : Int)).toNat [V.str "self", V.str "never", V.str "both", V.str "through", V.str "single", V.str "any"]).flatten)) q3.src hl4
      have sA := q12.trans (q3.sm.trans q4.sm)
      have I2 := I.step q4.src sA
      rcases hk2 with rfl | ⟨rfl, exy⟩
      · refine hnx _ _ ⟨l4, ["one", "apart"], rfl, I2, sqt_same sA ha, q4.at_, by decide, by decide, fun w hw => ?_⟩
        rcases List.mem_cons.mp hw with z | z
        · rw [z]; exact ⟨by decide +kernel, .inl (by decide +kernel)⟩
        · rw [List.mem_singleton.mp z]; exact ⟨by decide +kernel, .inl (by decide +kernel)⟩
      · refine hnx _ _ ⟨l4, ["one", "apart", "self", "never", "both", "through", "single", "any"], rfl, I2, sqt_same sA ha, q4.at_, by decide, by decide, fun w hw => ⟨?_, .inr exy⟩⟩
        have e : (["one", "apart", "self", "never", "both", "through", "single", "any"] : List Str).all (fun w => decide (w ∈ W8)) = true := by decide +kernel
        exact of_decide_eq_true (List.all_eq_true.mp e w hw)
    clear I ha G v7
    rintro σ G ⟨w8, ws, rfl, I, ha, eW, lw, lw1, hws⟩
    refine ⟨_, rfl, d, c, 3, rfl, I.src, by decide, by decide, fun r2 G2 q0 q1 src2 keep => ?_⟩
    have eh2 := hid_pick keep
    have I2 := I.step src2 (by rw [eh2]; exact Same.refl _)
    rw [← eh2] at ha eW
    obtain ⟨as, ps, a1, a2, a3, a4⟩ := id I2.ex
    have eL := (hid_at n1 n2).symm.trans a1
    refine ⟨_, _, rfl, rfl, _, rfl, ite2 (fun hc => ?_) (fun hc => ?_)⟩
    · refine ⟨_, rfl, .inl ⟨rfl, _, SqL.of eL⟩, ?_⟩
      refine ⟨_, rfl, _, rfl, _, rfl, w8, _, rfl, .inl (SqL.of (hid_sub _ _ eW)), ?_⟩
      rw [List.length_map]
      refine ⟨d, c, (ws.length : Int), rfl, src2, by omega, by omega, fun r3 G3 p0 p1 src3 keep3 => ?_⟩
      obtain ⟨j, rfl⟩ : ∃ j : Nat, r3 = (j : Int) := ⟨r3.toNat, by omega⟩
      have lj : j < ws.length := by omega
      have eh3 := hid_pick keep3
      have I3 := I2.step src3 (by rw [eh3]; exact Same.refl _)
      rw [← eh3] at ha eW a1
      have eL3 := (hid_at n1 n2).symm.trans a1
      obtain ⟨h8, h2⟩ := hws ws[j] (List.getElem_mem lj)
      refine ⟨w8, _, _, _, rfl, rfl, SqL.of (hid_sub _ _ eW), str_ix lj, _, rfl, _, rfl, ws[j], z, a, xs, ls, x, y, rfl, sqt_same hid_sub ha, hx, hy, hz, h8, h2, fun T p G4 s4 hp op => ?_⟩
      have I4 := I3.same s4
      have eL4 := s4 _ _ eL3
      have la := a2.len
      exact ⟨L, _, _, rfl, rfl, eL4, by rw [List.length_map]; exact small1000 (by omega), ⟨_, _, _, _, _, rfl⟩, PmI.put n1 n2 hLh I4 eL4 (hp.tx (tx_hid I4.src)) op⟩
    · refine ⟨_, rfl, _, rfl, d, c, e, xs, ls, rfl, src2, fr.same I2.sm, l1, fun b x2 y2 G3 src3 sm3 hb hx2 hy2 => ?_⟩
      have I3 := I2.step src3 sm3
      have eL3 := (hid_at n1 n2).symm.trans (sm3 _ _ a1)
      refine ⟨_, rfl, .inl ⟨rfl, _, SqL.of eL3⟩, ?_⟩
      refine ⟨_, rfl, _, rfl, _, rfl, d, c, e, b, 4, "kept", xs, ls, x2, y2, rfl, by decide, by decide, by decide, src3, fr.same I3.sm, hb, hx2, hy2, fun u1 G4 src4 sm4 g1 => ?_⟩
      have I4 := I3.step src4 sm4
      refine ⟨_, rfl, _, rfl, _, rfl, d, c, e, b, 3, xs, ls, x2, y2, rfl, by decide, by decide, by decide, src4, fr.same I4.sm, sqt_same sm4 hb, hx2, hy2, fun u2 G5 src5 sm5 g2 => ⟨szl (by show 2 ≤ 1000; decide), fun T hT => ?_⟩⟩
      have I5 := I4.step src5 sm5
      obtain ⟨t1, ht1, ty1, z1, k1⟩ := g1
      obtain ⟨t2, ht2, ty2, z2, k2⟩ := g2
      have z1 : t1.sz ≤ 11 := z1
      have z2 : t2.sz ≤ 8 := z2
      have nT := new_h (.tup [V.ref u1, V.ref u2]) src5 hT
      have I6 := I5.step nT.src nT.sm
      have eL6 := (hid_at n1 n2).symm.trans (nT.sm _ _ (sm5 _ _ (sm4 _ _ (sm3 _ _ a1))))
      have la := a2.len
      exact ⟨L, _, _, rfl, rfl, eL6, by rw [List.length_map]; exact small1000 (by omega), ⟨_, _, _, _, _, rfl⟩, PmI.put (p := (t1, t2, x2, y2)) n1 n2 hLh I6 eL6 ⟨u1, u2, SqT.of nT.at_, (ht1.same sm5).same nT.sm, ht2.same nT.sm⟩ ⟨ty1, ty2, KpT.kept (Ty.rt ok ty1) (k1 rfl), FlT.none (Ty.rt ok ty2) k2, by show t1.sz ≤ 50; omega, by show t2.sz ≤ 50; omega⟩⟩
end
end K37

namespace K37
open PySem PySem.Spec PyProof.Rows L2 Ow Xv LamX
/-! ### what stays though a table grows; the call of why with a lambda -/
section
variable {K : PySem.W.Frag} {H H' : Hp}
theorem ext_sqt (x : ExtN H H') {a : Addr} {xs : List V} (h : SqT K H a xs) : SqT K H' a xs :=
  h.elim (fun h => .inl (h.elim (fun h => .inl (x _ _ h nofun)) fun ⟨o, h⟩ => .inr ⟨o, x _ _ h nofun⟩)) fun h => .inr h
theorem ext_sql (x : ExtN H H') {a : Addr} {xs : List V} (h : SqL K H a xs) : SqL K H' a xs :=
  h.elim (fun h => .inl (h.elim (fun h => .inl (x _ _ h nofun)) fun ⟨o, h⟩ => .inr ⟨o, x _ _ h nofun⟩)) fun h => .inr h
theorem ext_allT (x : ExtN H H') {us : List Addr} {vss : List (List V)} (h : AllT K H us vss) : AllT K H' us vss := ⟨h.1, fun i t e => let ⟨vs, a, b⟩ := h.2 i t e; ⟨vs, a, ext_sqt x b⟩⟩
theorem ext_frmA (x : ExtN H H') {b : Addr} {xs : List Str} {ls : List Lt} (h : FrmA K H b xs ls) : FrmA K H' b xs ls := by
  obtain ⟨ts, dx, s, l, t, m, h1, h2, ⟨us, e1, g1⟩, ⟨vs, e2, g2⟩, ⟨as, e3, l3, g3⟩⟩ := h
  refine ⟨ts, dx, s, l, t, m, x _ _ h1 nofun, ext_sqt x h2, ⟨us, ext_sqt x e1, ext_allT x g1⟩, ⟨vs, ext_sqt x e2, ext_allT x g2⟩, ⟨as, x _ _ e3 nofun, l3, fun i t z => ?_⟩⟩
  obtain ⟨q, a, b⟩ := g3 i t z
  exact ⟨q, a, ext_sqt x b⟩
theorem ext_tm (x : ExtN H H') : ∀ {t : Tm} {a : Addr}, TmAt K H a t → TmAt K H' a t
  | .leaf _ _, _, h => ext_sqt x h
  | .one _ _, _, ⟨b, h, g⟩ => ⟨b, ext_sqt x h, ext_tm x g⟩
  | .two _ _ _, _, ⟨b, c, h, g, g2⟩ => ⟨b, c, ext_sqt x h, ext_tm x g, ext_tm x g2⟩
mutual
theorem ext_va (x : ExtN H H') : ∀ {v : V} {d : PyData}, Va K H v d → Va K H' v d
  | _, _, .non => .non
  | _, _, .bl b => .bl b
  | _, _, .int i => .int i
  | _, _, .str y => .str y
  | _, _, .lst h g => .lst (ext_sql x h) (ext_vas x g)
  | _, _, .tup h g => .tup (ext_sqt x h) (ext_vas x g)
  | _, _, .dic e => .dic (x _ _ e nofun)
theorem ext_vas (x : ExtN H H') : ∀ {vs : List V} {ds : List PyData}, VaAll K H vs ds → VaAll K H' vs ds
  | _, _, .nil => .nil
  | _, _, .cons h g => .cons (ext_va x h) (ext_vas x g)
end
theorem ext_src (x : ExtN H H') {d c : Addr} (h : SrcAt H d c) : SrcAt H' d c := let ⟨xs, l, m, t, h1, h2, h3⟩ := h; ⟨xs, l, m, t, x _ _ h1 nofun, h2, x _ _ h3 nofun⟩
theorem tabs_same {T : List (Addr × Str)} (s : Same H H') (h : Tabs T H) : Tabs T H' := h.ext s
/-- the table is no part of the source -/
theorem tab_hid {d c P : Addr} {q : Str} (src : SrcAt H d c) (h : Tabs [(P, q)] H) : Tabs [(P, q)] (hid d c H) := by
  obtain ⟨zs, l, m, t, h1, h2, h3⟩ := src
  intro p hp
  obtain rfl := List.mem_singleton.mp hp
  obtain ⟨ps, e, r, g⟩ := h _ hp
  have nd : P ≠ d := fun z => by rw [show (P, q).1 = P from rfl, z, h3] at e; cases e
  have nc : P ≠ c := fun z => by rw [show (P, q).1 = P from rfl, z, h1] at e; cases e
  refine ⟨ps, (hid_at nd nc).trans e, r, fun pos cv hc => ?_⟩
  obtain ⟨k, e1, e2⟩ := g pos cv hc
  refine ⟨k, e1, ?_⟩
  have md : k ≠ d := fun z => by rw [z, h3] at e2; unfold CodeO at e2; cases e2
  have mc : k ≠ c := fun z => by rw [z, h1] at e2; unfold CodeO at e2; cases e2
  exact (hid_at md mc).trans e2
end
theorem ext_hid {H H' : Hp} (x : ExtN H H') {d c : Addr} : ExtN (hid d c H) (hid d c H') := fun b o e n => by
  have z := x b o (hid_sub _ _ e) n
  have nd : b ≠ d := fun q => by rw [q] at e; unfold hid at e; simp at e
  have nc : b ≠ c := fun q => by rw [q] at e; unfold hid at e; simp at e
  exact (hid_at nd nc).trans z
theorem ext_tx {H H' : Hp} (x : ExtN H H') : TX H H' := ⟨fun _ _ e => x _ _ e nofun, fun _ _ _ e => x _ _ e nofun⟩
theorem ext_frat {K : PySem.W.Frag} {H H' : Hp} (x : ExtN H H') {e : Addr} {xs : List Str} {ls : List Lt} (h : FrAt K H e xs ls) : FrAt K H' e xs ls := by
  obtain ⟨⟨s, m, o, t, b, h1, h2, ⟨as, h3, l3, g3⟩, h4⟩, ok⟩ := h
  refine ⟨⟨s, m, o, t, b, x _ _ h1 nofun, x _ _ h2 nofun, ⟨as, x _ _ h3 nofun, l3, fun i t z => ?_⟩, ext_sql x h4⟩, ok⟩
  obtain ⟨q, e1, e2⟩ := g3 i t z
  exact ⟨q, e1, ext_sqt x e2⟩
theorem ext_pr {K : PySem.W.Frag} {H H' : Hp} (x : ExtN H H') {a : Addr} {r : Sd × Sd} (h : PrAt K H a r) : PrAt K H' a r := let ⟨v1, v2, a, b, c⟩ := h; ⟨v1, v2, ext_sqt x a, ext_va x b, ext_va x c⟩
theorem ext_pf {K : PySem.W.Frag} {H H' : Hp} (x : ExtN H H') {f : V} : ∀ {r : Sd}, PfAt K H f r → PfAt K H' f r
  | .ok _ _ _, h => h
  | .bad _ _, ⟨q, a, b⟩ => ⟨q, a, ext_sqt x b⟩
theorem ext_rw {K : PySem.W.Frag} {H H' : Hp} (x : ExtN H H') {a : Addr} {r : Sd × Sd} (h : RwAt K H a r) : RwAt K H' a r := let ⟨v1, f1, v2, f2, a, b, c, d, e⟩ := h; ⟨v1, f1, v2, f2, ext_sqt x a, ext_va x b, ext_pf x c, ext_va x d, ext_pf x e⟩
theorem ext_bk {K : PySem.W.Frag} {H H' : Hp} (x : ExtN H H') {a fr : Addr} {rs : List (Sd × Sd)} (h : BkAt K H a fr rs) : BkAt K H' a fr rs := let ⟨dx, T, as, a, b, c⟩ := h; ⟨dx, T, as, x _ _ a nofun, ext_sqt x b, c.mono fun _ _ z => ext_pr x z⟩
def qLoc : Str := ("law" : Str) ++ (".<locals>." : Str)
def qLam : Str := qLoc ++ ("<lambda>" : Str)
def lamSc1 : Scope := { kind := .function, names := [("_law_frame_here", .free), ("_law_premises_here", .free), ("Book", .globalImplicit)], isGenerator := false, isCoroutine := false, more := [] }
def lamSc2 : Scope := { kind := .function, names := [("_law_book", .free), ("_law_p", .free), ("_law_q", .free), ("with_premise", .globalImplicit)], isGenerator := false, isCoroutine := false, more := [] }
theorem lamL1 : LamS (defScope sLaw) lamSc1 := lamS_by (by decide +kernel)
theorem lamL2 : LamS (defScope sLaw) lamSc2 := lamS_by (by decide +kernel)
theorem pe_word {X : Cx} {c Pt : Addr} {params : Arguments} {body : Expr} {scope : Scope} {t : XK → TE} {p lpos pos : Pos} (Y : Fx X.w X.K X.mg) (hg : Gl X "_law_word") (TB : TabB X.base X.mg c Pt) (hcode : X.env.code = .ref c) (hq : X.env.qual = qLoc) (hs : X.env.scope = defScope sLaw) (hr : Room 16 X.A)
    (L : LamS (defScope sLaw) scope) (hdef : defaultsOf params X.env = ([], [])) (hbind : ∀ (q : Str) (cl : List (Str × Addr)) (pm cv ctv : Value), bindArgs (PySem.W.kla_fn "<lambda>" q params body scope cl pm cv ctv) ⟨[], []⟩ = pure [])
    (hbody : ∀ (A : Around) (outer : List Env) (s : Shared) (H : Hp) (E : XK) (f c' : Addr), Room 14 (A.deeper (lamEnv X scope s.heap.objs.size f c')) → PE (lamCx X A outer s H E scope f c') body (t E)) :
    PE X (.Call (.Name "_law_word" p) [.Lambda params body scope lpos] [] pos) (tLam [(Pt, qLam)] (TWd X.K) t) := by
  obtain ⟨dHy, FHy⟩ := Y.dLawWord
  have bHy := FunD.bindsN (ps := ["_law_call"]) FHy fun _ _ _ _ _ _ us hl => match us, hl with | [_], _ => rfl
  have kp := FHy.kp
  obtain ⟨oc, od, dV, kV, doc, pm, an, cdH, ct, osl, eH, lkH, hcH, _, _⟩ := FHy.ex
  subst eH
  have e : X.env.qual ++ "<lambda>" = qLam := by rw [hq]; rfl
  exact pe_lamcall (T := [(Pt, qLam)]) (k := 14) (Ng := NWd) (a := "_law_call") hg Y.gLawWord kp lkH hcH bHy scWd rfl (Or.inl rfl) (by rw [e]; exact word_gives Y) TB hcode (by rw [e]; exact List.mem_singleton.mpr rfl)
    (fun p hp _ => by rw [List.mem_singleton.mp hp]; exact e.symm) hr (by rw [hs]; exact L) hdef hbind hbody
/-- what such a call gives -/
theorem rz_word {K : PySem.W.Frag} {H : Hp} {Q : VK} {e : Er} (k : ∀ (L : Addr) (H' : Hp), Same H H' → Va K H' (.ref L) (erD (some e)) → Q (.ref L) H') : RzE K H (EWd K Q) e := by
  cases e with
  | term p => exact fun q dx H2 s2 hq hd hx => .inl ⟨dx, q, _, rfl, rfl, hx, hq, fun L H' s' hL => k L H' (s2.trans s') (.lst (SqL.of hL) (.cons (.str _) (.cons (.tup (sqt_same s' hq) (va_pa p)) .nil)))⟩
  | kept n => exact fun dx H2 s2 hd hx => .inr ⟨_, _, dx, n, .inl ⟨rfl, rfl⟩, rfl, rfl, hx, fun L H' s' hL => k L H' (s2.trans s') (.lst (SqL.of hL) (.cons (.str _) (.cons (.int _) .nil)))⟩
  | flat n => exact fun dx H2 s2 hd hx => .inr ⟨_, _, dx, n, .inr (.inl ⟨rfl, rfl⟩), rfl, rfl, hx, fun L H' s' hL => k L H' (s2.trans s') (.lst (SqL.of hL) (.cons (.str _) (.cons (.int _) .nil)))⟩
  | ends n => exact fun dx H2 s2 hd hx => .inr ⟨_, _, dx, n, .inr (.inr ⟨rfl, rfl⟩), rfl, rfl, hx, fun L H' s' hL => k L H' (s2.trans s') (.lst (SqL.of hL) (.cons (.str _) (.cons (.int _) .nil)))⟩
theorem kw_word {K : PySem.W.Frag} {H : Hp} {Q : VK} {v : V} {H1 : Hp} (s : Same H H1) (k : ∀ (L : Addr) (H' : Hp), Same H H' → Va K H' (.ref L) (erD none) → Q (.ref L) H') : KWd Q v H1 :=
  ⟨szl (by show 1 ≤ 1000; decide), fun L hL => k L _ (s.trans (same_upd hL)) (.lst (SqL.of upd_same) (.cons (.str _) .nil))⟩
end K37

namespace K37
open PySem PySem.Spec PyProof.Rows L2 Ow Xv LamX
/-! ### what is shown: lists of premises, errors -/
def rowD (r : Sd × Sd) : PyData := .tuple [r.1.val, r.2.val]
theorem va_prs {K : PySem.W.Frag} {H : Hp} : ∀ {as : List Addr} {rs : List (Sd × Sd)}, Rs (PrAt K) H as rs → VaAll K H (as.map V.ref) (rs.map rowD)
  | _, _, .nil => .nil
  | _, _, .cons ⟨v1, v2, h, h1, h2⟩ g => .cons (.tup h (.cons h1 (.cons h2 .nil))) (va_prs g)
def RowsD (xs : List Str) (ls : List Lt) (rs : List (Sd × Sd)) : Prop := ∀ r ∈ rs, SdD xs ls r.1 ∧ SdD xs ls r.2
theorem RowsD.ok {xs : List Str} {ls : List Lt} {rs : List (Sd × Sd)} (h : RowsD xs ls rs) : RowsOk xs ls rs := fun r hr => ⟨(h r hr).1.1, (h r hr).2.1⟩
theorem fine_prs {xs : List Str} {ls : List Lt} : ∀ {rs : List (Sd × Sd)}, RowsD xs ls rs → PyData.depthAll (rs.map rowD) ≤ 51 ∧ PyData.showableAll (rs.map rowD) = true ∧ PyData.leavesShortAll 13 (rs.map rowD) = true ∧ PyData.weightAll (rs.map rowD) ≤ 4100 * rs.length
  | [], _ => ⟨by simp [PyData.depthAll], by simp [PyData.showableAll], by simp [PyData.leavesShortAll], by simp [PyData.weightAll]⟩
  | r :: rs, h => by
    obtain ⟨⟨_, ⟨a1, a2, a3, a4, a5⟩, _⟩, ⟨_, ⟨b1, b2, b3, b4, b5⟩, _⟩⟩ := h r List.mem_cons_self
    obtain ⟨b, c, d, e⟩ := fine_prs fun x hx => h x (List.mem_cons_of_mem _ hx)
    refine ⟨?_, ?_, ?_, ?_⟩
    · simp only [List.map_cons, rowD, PyData.depthAll, PyData.depth]
      omega
    · simp [rowD, PyData.showableAll, PyData.showable, a3, b3, c]
    · simp [rowD, PyData.leavesShortAll, PyData.leavesShort, a4, b4, d]
    · simp only [List.map_cons, rowD, PyData.weightAll, PyData.weight, List.length_cons]
      omega
theorem show_prs {xs : List Str} {ls : List Lt} {rs : List (Sd × Sd)} (h : RowsD xs ls rs) (l : rs.length ≤ 50) : (PyData.list (rs.map rowD)).showable = true ∧ (PyData.list (rs.map rowD)).depth ≤ 60 ∧ (PyData.list (rs.map rowD)).shown.length ≤ sizeLine := by
  obtain ⟨b, c, d, e⟩ := fine_prs h
  refine ⟨by rw [PyData.showable]; exact c, ?_, ?_⟩
  · simp only [PyData.depth]
    omega
  · refine PyData.shown_fits (by decide) (by decide) (B := 13) ?_ ?_
    · simp only [PyData.leavesShort]
      exact d
    · simp only [PyData.weight]
      omega
theorem int_short : ∀ n : Nat, n ≤ 400 → (PyData.shown (.int (n : Int))).length ≤ 13 := by decide +kernel
theorem int_shw : ∀ n : Nat, n ≤ 400 → n.log2 < 11 := by decide +kernel
theorem fine_ints : ∀ {p : List Nat}, (∀ n ∈ p, n ≤ 400) → PyData.depthAll (p.map fun n : Nat => PyData.int (n : Int)) = 0 ∧ PyData.showableAll (p.map fun n : Nat => PyData.int (n : Int)) = true ∧ PyData.leavesShortAll 13 (p.map fun n : Nat => PyData.int (n : Int)) = true ∧ PyData.weightAll (p.map fun n : Nat => PyData.int (n : Int)) ≤ 20 * p.length
  | [], _ => ⟨by simp [PyData.depthAll], by simp [PyData.showableAll], by simp [PyData.leavesShortAll], by simp [PyData.weightAll]⟩
  | n :: p, h => by
    obtain ⟨b, c, d, e⟩ := fine_ints fun m hm => h m (List.mem_cons_of_mem _ hm)
    have hn := h n List.mem_cons_self
    have si := int_short n hn
    have wi := int_shw n hn
    refine ⟨?_, ?_, ?_, ?_⟩
    · simp only [List.map_cons, PyData.depthAll, PyData.depth]
      omega
    · simp [PyData.showableAll, PyData.showable, c]
      omega
    · simp only [List.map_cons, PyData.leavesShortAll, PyData.leavesShort, Bool.and_eq_true, decide_eq_true_eq]
      exact ⟨si, d⟩
    · have w1 : PyData.weight (.int (n : Int)) ≤ 12 := by simp [PyData.weight]; split <;> omega
      simp only [List.map_cons, PyData.weightAll, List.length_cons]
      omega
def ErOk : Er → Prop
  | .term p => p.length ≤ 60 ∧ ∀ n ∈ p, n ≤ 400
  | .kept n => n ≤ 400
  | .flat n => n ≤ 400
  | .ends n => n ≤ 400
theorem show_two {w : Str} {d : PyData} (hw : w = "term" ∨ w = "kept" ∨ w = "flat" ∨ w = "ends") (h1 : d.depth ≤ 50) (h2 : d.showable = true) (h3 : d.leavesShort 13 = true) (h4 : d.weight ≤ 4000) : (PyData.list [.str w, d]).showable = true ∧ (PyData.list [.str w, d]).depth ≤ 60 ∧ (PyData.list [.str w, d]).shown.length ≤ sizeLine := by
  have ww : Wd w := by rcases hw with rfl | rfl | rfl | rfl <;> exact wd_of (by decide +kernel)
  obtain ⟨a1, a2, a3, a4, a5⟩ := fine_str ww
  refine ⟨by simp [PyData.showable, PyData.showableAll, h2], ?_, ?_⟩
  · simp only [PyData.depth, PyData.depthAll]
    omega
  · refine PyData.shown_fits (by decide) (by decide) (B := 13) ?_ ?_
    · simp [PyData.leavesShort, PyData.leavesShortAll, h3] at a4 ⊢
      exact a4
    · simp only [PyData.weight, PyData.weightAll] at a5 ⊢
      omega
theorem show_er {o : Option Er} (h : ∀ e, o = some e → ErOk e) : (erD o).showable = true ∧ (erD o).depth ≤ 60 ∧ (erD o).shown.length ≤ sizeLine := by
  have ii : ∀ {n : Nat}, n ≤ 400 → (PyData.int (n : Int)).depth ≤ 50 ∧ (PyData.int (n : Int)).showable = true ∧ (PyData.int (n : Int)).leavesShort 13 = true ∧ (PyData.int (n : Int)).weight ≤ 4000 := fun {n} hn => by
    obtain ⟨a, b, c, d⟩ := fine_ints (p := [n]) fun m hm => by rw [List.mem_singleton.mp hm]; exact hn
    simp only [List.map_cons, List.map_nil, PyData.depthAll, PyData.showableAll, PyData.leavesShortAll, PyData.weightAll, Bool.and_true, List.length_cons, List.length_nil] at a b c d
    exact ⟨by omega, b, c, by omega⟩
  cases o with
  | none => exact ⟨by decide +kernel, by decide +kernel, by decide +kernel⟩
  | some e =>
    have z := h e rfl
    cases e with
    | term p =>
      obtain ⟨a, b, c, d⟩ := fine_ints z.2
      have l := z.1
      refine show_two (.inl rfl) ?_ ?_ ?_ ?_
      · simp only [paD, PyData.depth]; omega
      · simp only [paD, PyData.showable]; exact b
      · simp only [paD, PyData.leavesShort]; exact c
      · simp only [paD, PyData.weight]; omega
    | kept n => obtain ⟨a, b, c, d⟩ := ii z; exact show_two (.inr (.inl rfl)) a b c d
    | flat n => obtain ⟨a, b, c, d⟩ := ii z; exact show_two (.inr (.inr (.inl rfl))) a b c d
    | ends n => obtain ⟨a, b, c, d⟩ := ii z; exact show_two (.inr (.inr (.inr rfl))) a b c d
theorem ErOk.path {k i : Nat} {p : List Nat} (hk : k ≤ 400) (hi : i ≤ 1) (l : p.length ≤ 50) (h : ∀ n ∈ p, n ≤ 1) : ErOk (.term (k :: i :: p)) := by
  refine ⟨by show p.length + 2 ≤ 60; omega, fun n hn => ?_⟩
  rcases List.mem_cons.mp hn with z | z
  · omega
  · rcases List.mem_cons.mp z with z | z
    · omega
    · have := h n z; omega
theorem due_ok {xs : List Str} {ls : List Lt} : ∀ {rs : List (Sd × Sd)} {k : Nat}, RowsD xs ls rs → k + rs.length ≤ 300 → ∀ e, dueL k rs = some e → ErOk e
  | [], _, _, _, e, h => by cases h
  | r :: rs, k, hr, l, e, h => by
    obtain ⟨⟨o1, _, p1⟩, ⟨o2, _, p2⟩⟩ := hr r List.mem_cons_self
    rw [List.length_cons] at l
    unfold dueL at h
    cases ed : dueP k r.1 r.2 with
    | none =>
      rw [ed] at h
      exact due_ok (fun x hx => hr x (List.mem_cons_of_mem _ hx)) (by omega) e h
    | some e' =>
      rw [ed] at h
      cases h
      obtain ⟨s1, s2⟩ := r
      cases s1 with
      | bad d p =>
        have z := ErOk.path (k := k) (i := 0) (p := p) (by omega) (by omega) o1.2.2 (p1 d p rfl).1
        cases s2 <;> (cases ed; exact z)
      | ok t a b =>
        cases s2 with
        | bad d p =>
          cases ed
          exact ErOk.path (by omega) (by omega) o2.2.2 (p2 d p rfl).1
        | ok t2 a2 b2 =>
          replace ed : (if keptB t = false then some (Er.kept k) else if noneOf NF t2 = false then some (Er.flat k) else if (a, b) ≠ (a2, b2) then some (Er.ends k) else none) = some e := ed
          split at ed
          · cases ed; show k ≤ 400; omega
          · split at ed
            · cases ed; show k ≤ 400; omega
            · split at ed
              · cases ed; show k ≤ 400; omega
              · cases ed
end K37

namespace K37
open PySem PySem.Spec PyProof.Rows L2 Ow Xv LamX
/-! ### for the law: what is known in a turn, lists of rows -/
structure LwI (K : PySem.W.Frag) (Pt d m e b : Addr) (xs : List Str) (ls : List Lt) (G : Hp) : Prop where
  src : SrcAt G d m
  tab : Tabs [(Pt, qLam)] (hid d m G)
  fr : FrAt K (hid d m G) e xs ls
  md : ∃ s m' o t, hid d m G e = some (.dK (frV s m' o t b))
  frm : FrmA K (hid d m G) b xs ls
section
variable {K : PySem.W.Frag} {Pt d m e b : Addr} {xs : List Str} {ls : List Lt} {G G' : Hp}
theorem LwI.ext (I : LwI K Pt d m e b xs ls G) (src : SrcAt G' d m) (tab : Tabs [(Pt, qLam)] (hid d m G')) (x : ExtN (hid d m G) (hid d m G')) : LwI K Pt d m e b xs ls G' :=
  let ⟨s, m', o, t, h⟩ := I.md
  ⟨src, tab, ext_frat x I.fr, ⟨s, m', o, t, x _ _ h nofun⟩, ext_frmA x I.frm⟩
theorem LwI.step (I : LwI K Pt d m e b xs ls G) (src : SrcAt G' d m) (s : Same (hid d m G) (hid d m G')) : LwI K Pt d m e b xs ls G' := I.ext src (tabs_same s I.tab) (.of s)
theorem LwI.same (I : LwI K Pt d m e b xs ls G) (s : Same G G') : LwI K Pt d m e b xs ls G' := I.step (src_same s I.src) (hid_same s)
end
/-- at L stands a list of such -/
def LsI {α : Type} (P : Hp → Addr → α → Prop) (B : Hp) (L : Addr) (as : List Addr) (ys : List α) : Prop := B L = some (.lst (as.map V.ref)) ∧ Rs P B as ys
section
variable {K : PySem.W.Frag} {B B' : Hp} {L : Addr} {as : List Addr}
theorem LsI.pm {ps : List Pm} (x : ExtN B B') (h : LsI (PmAt K) B L as ps) : LsI (PmAt K) B' L as ps := ⟨x _ _ h.1 nofun, h.2.mono fun _ _ z => z.tx (ext_tx x)⟩
theorem LsI.rw {rs : List (Sd × Sd)} (x : ExtN B B') (h : LsI (RwAt K) B L as rs) : LsI (RwAt K) B' L as rs := ⟨x _ _ h.1 nofun, h.2.mono fun _ _ z => ext_rw x z⟩
theorem LsI.pr {rs : List (Sd × Sd)} (x : ExtN B B') (h : LsI (PrAt K) B L as rs) : LsI (PrAt K) B' L as rs := ⟨x _ _ h.1 nofun, h.2.mono fun _ _ z => ext_pr x z⟩
end
/-- the row of a right premise -/
def RmAt (K : PySem.W.Frag) (H : Hp) (a : Addr) (p : Pm) : Prop := ∃ u1 u2, SqT K H a [.ref u1, .non, .ref u2, .non] ∧ TmAt K H u1 p.1 ∧ TmAt K H u2 p.2.1
section
variable {K : PySem.W.Frag} {H H' : Hp} {a : Addr}
theorem RmAt.tx (x : TX H H') {p : Pm} (h : RmAt K H a p) : RmAt K H' a p := let ⟨u1, u2, e, f, g⟩ := h; ⟨u1, u2, x.sqt e, x.tm f, x.tm g⟩
theorem RmAt.rw {p : Pm} (h : RmAt K H a p) : RwAt K H a p.row := let ⟨u1, u2, e, f, g⟩ := h; ⟨.ref u1, .non, .ref u2, .non, e, tm_va f, rfl, tm_va g, rfl⟩
theorem rs_rm : ∀ {as : List Addr} {ps : List Pm}, Rs (RmAt K) H as ps → Rs (RwAt K) H as (ps.map Pm.row)
  | _, _, .nil => .nil
  | _, _, .cons h g => .cons h.rw (rs_rm g)
theorem rs_pr : ∀ {as : List Addr} {ps : List Pm}, Rs (PmAt K) H as ps → Rs (PrAt K) H as (ps.map Pm.row)
  | _, _, .nil => .nil
  | _, _, .cons h g => .cons h.pr (rs_pr g)
variable {D : Addr} {qs : List Addr} {o : HO} {xs : List Str} {ls : List Lt}
theorem rw_putR (e : H D = some (.lst (qs.map V.ref))) {r : Sd × Sd} (h : RwAt K H a r) (o1 : SdD xs ls r.1) (o2 : SdD xs ls r.2) : RwAt K (upd H D o) a r := by
  have pf : ∀ {f : V} {s : Sd}, PfAt K H f s → PfAt K (upd H D o) f s := fun {f s} z => by
    cases s with
    | ok t a b => exact z
    | bad d p => obtain ⟨q, x, y⟩ := z; exact ⟨q, x, sqt_put e y⟩
  obtain ⟨v1, f1, v2, f2, h0, h1, h2, h3, h4⟩ := h
  exact ⟨v1, f1, v2, f2, sqt_put e h0, va_putR e h1 o1.lf, pf h2, va_putR e h3 o2.lf, pf h4⟩
theorem pr_putR (e : H D = some (.lst (qs.map V.ref))) {r : Sd × Sd} (h : PrAt K H a r) (o1 : SdD xs ls r.1) (o2 : SdD xs ls r.2) : PrAt K (upd H D o) a r := by
  obtain ⟨v1, v2, h0, h1, h3⟩ := h
  exact ⟨v1, v2, sqt_put e h0, va_putR e h1 o1.lf, va_putR e h3 o2.lf⟩
theorem rws_putR (e : H D = some (.lst (qs.map V.ref))) : ∀ {as : List Addr} {rs : List (Sd × Sd)}, Rs (RwAt K) H as rs → RowsD xs ls rs → Rs (RwAt K) (upd H D o) as rs
  | _, _, .nil, _ => .nil
  | _, _, .cons h g, r => .cons (rw_putR e h (r _ List.mem_cons_self).1 (r _ List.mem_cons_self).2) (rws_putR e g fun x hx => r x (List.mem_cons_of_mem _ hx))
theorem prs_putR (e : H D = some (.lst (qs.map V.ref))) : ∀ {as : List Addr} {rs : List (Sd × Sd)}, Rs (PrAt K) H as rs → RowsD xs ls rs → Rs (PrAt K) (upd H D o) as rs
  | _, _, .nil, _ => .nil
  | _, _, .cons h g, r => .cons (pr_putR e h (r _ List.mem_cons_self).1 (r _ List.mem_cons_self).2) (prs_putR e g fun x hx => r x (List.mem_cons_of_mem _ hx))
theorem Rs.drop {α : Type} {P : Hp → Addr → α → Prop} : ∀ {as : List Addr} {ys : List α} (n : Nat), Rs P H as ys → Rs P H (as.drop n) (ys.drop n)
  | _, _, 0, h => h
  | _, _, _ + 1, .nil => .nil
  | _, _, n + 1, .cons _ g => Rs.drop n g
theorem Rs.take {α : Type} {P : Hp → Addr → α → Prop} : ∀ {as : List Addr} {ys : List α} (n : Nat), Rs P H as ys → Rs P H (as.take n) (ys.take n)
  | _, _, 0, _ => .nil
  | _, _, _ + 1, .nil => .nil
  | _, _, n + 1, .cons h g => .cons h (Rs.take n g)
end
theorem pm_rowsD {xs : List Str} {ls : List Lt} (ok : FrOk xs ls) {ps : List Pm} (h : ∀ p ∈ ps, PmOk xs ls p) : RowsD xs ls (ps.map Pm.row) := fun r hr => by
  obtain ⟨p, hp, rfl⟩ := List.mem_map.mp hr
  obtain ⟨a, b, _, _, e, f⟩ := h p hp
  exact ⟨sdd_ok ok a e, sdd_ok ok b f⟩
theorem pm_due {xs : List Str} {ls : List Lt} : ∀ {ps : List Pm} {k : Nat}, (∀ p ∈ ps, PmOk xs ls p) → dueL k (ps.map Pm.row) = none
  | [], _, _ => rfl
  | p :: ps, k, h => by
    obtain ⟨a, b, c, d, e, f⟩ := h p List.mem_cons_self
    rw [List.map_cons]
    unfold dueL
    have z : dueP k p.row.1 p.row.2 = none := by
      show (if keptB p.1 = false then some (Er.kept k) else if noneOf NF p.2.1 = false then some (Er.flat k) else if (p.2.2.1, p.2.2.2) ≠ (p.2.2.1, p.2.2.2) then some (Er.ends k) else none) = none
      rw [c, d]
      simp
    rw [z]
    exact pm_due fun x hx => h x (List.mem_cons_of_mem _ hx)
theorem cutV_drop (xs : List V) (n : Nat) : cutV xs (some (n : Int)) none = xs.drop n := by
  unfold cutV
  rw [HT.sIx_none, HT.sIx_nat]
  by_cases h : n ≤ xs.length
  · rw [Nat.min_eq_left h, List.take_of_length_le (by rw [List.length_drop]; exact Nat.le_refl _)]
  · rw [Nat.min_eq_right (by omega), List.drop_of_length_le (Nat.le_refl _), List.drop_of_length_le (by omega), List.take_nil]
theorem RowsD.drop {xs : List Str} {ls : List Lt} {rs : List (Sd × Sd)} (h : RowsD xs ls rs) (n : Nat) : RowsD xs ls (rs.drop n) := fun r hr => h r (List.mem_of_mem_drop hr)
theorem RowsD.take {xs : List Str} {ls : List Lt} {rs : List (Sd × Sd)} (h : RowsD xs ls rs) (n : Nat) : RowsD xs ls (rs.take n) := fun r hr => h r (List.mem_of_mem_take hr)
theorem RowsD.app {xs : List Str} {ls : List Lt} {rs qs : List (Sd × Sd)} (h : RowsD xs ls rs) (g : RowsD xs ls qs) : RowsD xs ls (rs ++ qs) := fun r hr => (List.mem_append.mp hr).elim (h r) (g r)
theorem bk_word {K : PySem.W.Frag} {H : Hp} {b p : Addr} {xs : List Str} {ls : List Lt} {as : List Addr} {rs : List (Sd × Sd)} {Q : VK} (hF : FrmA K H b xs ls) (ok : FrOk xs ls) (hp : SqL K H p (as.map V.ref)) (hR : Rs (PrAt K) H as rs) (ro : RowsOk xs ls rs) (l50 : rs.length ≤ 50)
    (k : ∀ (L : Addr) (H' : Hp), Same H H' → Va K H' (.ref L) (erD (dueL 0 rs)) → Q (.ref L) H') : ∀ x dx, H x = none → H dx = none → dx ≠ x → spBI K (.ref x :: ([.ref b, .ref p] ++ [])) (upd (upd H dx (.own x)) x (.ins (CBook K) dx [])) (fun v H2 => v = .non ∧ KWd Q (.ref x) H2) (EWd K Q) :=
  mk_bk2 (Q := fun x H2 => KWd Q (.ref x) H2) hF ok hp hR ro l50 (fun e he => rz_word fun L H' s hv => k L H' s (by rw [he]; exact hv)) fun hn b H' s _ _ => kw_word s fun L H'' s'' hv => k L H'' s'' (by rw [hn]; exact hv)
theorem wp_word {K : PySem.W.Frag} {H : Hp} {B b : Addr} {v1 v2 : V} {xs : List Str} {ls : List Lt} {rs : List (Sd × Sd)} {s1 s2 : Sd} {Q : VK} (hB : BkAt K H B b rs) (hF : FrmA K H b xs ls) (ok : FrOk xs ls) (h1 : Va K H v1 s1.val) (h2 : Va K H v2 s2.val) (ro : RowsOk xs ls rs) (o1 : SdOk xs ls s1) (o2 : SdOk xs ls s2) (l49 : rs.length ≤ 49)
    (k : ∀ (L : Addr) (H' : Hp), Same H H' → Va K H' (.ref L) (erD (dueL 0 (rs ++ [(s1, s2)]))) → Q (.ref L) H') : spWP K [.ref B, v1, v2] H (KWd Q) (EWd K Q) :=
  ⟨B, b, v1, v2, xs, ls, rs, s1, s2, rfl, hB, hF, ok, h1, h2, ro, o1, o2, l49, fun e he => rz_word fun L H' s hv => k L H' s (by rw [he]; exact hv), fun hn c H' s => kw_word s fun L H'' s'' hv => k L H'' s'' (by rw [hn]; exact hv)⟩
theorem pr_hid {K : PySem.W.Frag} {H : Hp} {d m a : Addr} {p : Pm} (src : SrcAt H d m) (h : PrAt K H a p.row) : PrAt K (hid d m H) a p.row := by
  have x := tx_hid src
  obtain ⟨v1, v2, h0, h1, h2⟩ := h
  obtain ⟨u1, rfl, k1⟩ := va_tm (t := p.1) h1
  obtain ⟨u2, rfl, k2⟩ := va_tm (t := p.2.1) h2
  exact ⟨_, _, x.sqt h0, tm_va (x.tm k1), tm_va (x.tm k2)⟩
theorem prs_hid {K : PySem.W.Frag} {H : Hp} {d m : Addr} (src : SrcAt H d m) : ∀ {as : List Addr} {ps : List Pm}, Rs (PrAt K) H as (ps.map Pm.row) → Rs (PrAt K) (hid d m H) as (ps.map Pm.row)
  | _, [], .nil => .nil
  | _, _ :: _, .cons h g => .cons (pr_hid src h) (prs_hid src g)
theorem bk_hid {K : PySem.W.Frag} {H : Hp} {d m B b : Addr} {ps : List Pm} (src : SrcAt H d m) (h : BkAt K H B b (ps.map Pm.row)) : BkAt K (hid d m H) B b (ps.map Pm.row) := by
  have x := tx_hid src
  obtain ⟨dx, T, as, h0, h1, h2⟩ := h
  refine ⟨dx, T, as, (hid_at (fun z => ?_) fun z => ?_).trans h0, x.sqt h1, prs_hid src h2⟩
  · obtain ⟨_, _, _, _, _, _, e⟩ := src
    rw [z, e] at h0
    cases h0
  · obtain ⟨_, _, _, _, e, _, _⟩ := src
    rw [z, e] at h0
    cases h0
end K37

namespace K37
open PySem PySem.Spec PyProof.Rows L2 Ow Xv LamX
/-! ### the law -/
section
variable {P : Program} {w : World} {K : PySem.W.Frag} {mg : Str → Option Value} {base : Heap}
theorem okGc {x qual : Str} {params : Arguments} {body : List Stmt} {scope : Scope} {dvs : List V} {kws : List (Str × V)} {f : Addr} {fd : FuncData} {N ps : List Str} {k : Nat} {sp : Sp} (F : FunD K x qual params body scope dvs kws f fd) (S : FnScope N ps scope) (len : ∀ vs H Q E, sp vs H Q E → vs.length = ps.length)
    (hb : ∀ (cdv : Value) (A : Around) (outer : List Env) (s : Shared) (H : Hp) (vs : List V) (Q : VK) (E : XK), A.guards = some [] → fd.code = cdv → Room k (A.deeper (envOfC qual scope s.heap.objs.size f cdv)) → sp vs H Q E →
      ∃ t, PSs (cxOf CX0 P w K mg base N qual scope f cdv A outer s H E).nox body t ∧ t { nx := fun _ H' => Q .non H', rt := Q } (start N vs) H) : FnG P w K mg base (k + 1) f fd ps sp := by
  obtain ⟨oc, od, dV, kV, doc, pm, an, cdv, ct, osl, rfl, lk, hcd, _, _⟩ := F.ex
  refine ⟨len, fun A outer s H args us vs Q E hg hr e0 bt r hsp => ?_⟩
  have KX : K.In s.heap := e0.mod.kin.keeps fun b o e => (e0.bs b o e).1
  have kinds : ∀ y ∈ ps.zip us, scope.names.lookup y.1 = some .local ∨ (scope.names.lookup y.1 = some .cell ∧ ((cellsFrom (s.heap.objs.size + 1) scope.names []).lookup y.1).isSome = true) := fun y hy =>
    (S.par y.1 (List.of_mem_zip (show (y.1, y.2) ∈ ps.zip us from hy)).1).elim .inl fun q => .inr ⟨q, PySem.W.cellsFrom_some _ _ _ (.inl q)⟩
  refine codeAny_call_function hr.depth (KX _ _ lk) rfl S.co S.gen rfl (PySem.W.codeRec_of KX hcd) (bt _ _ _ _ (wpAny_newFunctionEnv_cells S.kind kinds fun env he s1 z => ?_))
  subst he
  refine ⟨(e0.mod.nolimit.keeps fun b o e => (e0.bs b o e).1).keeps z.toInCall.keep, codeAny_func ?_⟩
  obtain ⟨t, ht, hq⟩ := hb cdv A outer s H vs Q E hg rfl (hr.deeper _) hsp
  refine wpAny_mono (ht.nox.run [] s1 (start N vs) H _ (inv_start S hr.hd e0 (len _ _ _ _ hsp) r z) hq) (fun fl s' hs => ?_) fun _ _ hs => hs
  cases fl with
  | ret u => exact let ⟨v, _, H', J, rv, q⟩ := hs; ⟨v, H', J.os, J.bare, J.base, J.hok, rv, q⟩
  | next => exact let ⟨_, H', J, q⟩ := hs; ⟨V.non, H', J.os, J.bare, J.base, J.hok, rfl, q⟩
  | brk => exact let ⟨_, _, _, q⟩ := hs; False.elim q
  | cont => exact let ⟨_, _, _, q⟩ := hs; False.elim q
end
abbrev NLz : List Str := ["_law_script", "_law_source_here", "_law_turn", "_law_frame_here", "_law_some", "_law_rows", "_law_at", "_law_premises_here", "_law_stayed", "_law_book", "_law_p", "_law_first", "_law_q", "_law_second", "_law_due_here", "_law_again", "_law_early", "_law_late"]
abbrev l18 (a d : Addr) (v2 v3 v4 v5 v6 v7 v8 v9 v10 v11 v12 v13 v14 : Option V) : L2.St := [some (.ref a), some (.ref d), v2, v3, v4, v5, v6, v7, v8, v9, v10, v11, v12, v13, v14, none, none, none]
theorem scLz : FnScope NLz ["_law_script"] (defScope sLaw) := ⟨rfl, rfl, rfl, by decide +kernel, rfl, by decide +kernel, by decide +kernel⟩
def spLaw (K : PySem.W.Frag) (P : Addr) : Sp := fun vs H Q _ => ∃ (a : Addr) (ns : List Int), vs = [.ref a] ∧ SqL K H a (ns.map V.int) ∧ ns.length ≤ 63 ∧ H P = some (.tbl #[]) ∧ ∀ H', Q (.bl true) H'
section
variable {P : Program} {w : World} {K : PySem.W.Frag} {mg : Str → Option Value} {base : Heap}
theorem ok_law {c Pt : Addr} {f : Addr} {fd : FuncData} (F : FnP K "law" sLaw f fd) (Y : Fx w K mg) (hcode : fd.code = .ref c) (TB : TabB base mg c Pt) : FnG P w K mg base 128 f fd ["_law_script"] (spLaw K Pt) := by
  obtain ⟨dS, FS⟩ := Y.dLawSource
  obtain ⟨dP, FP⟩ := Y.dLawPick
  obtain ⟨dF, FF⟩ := Y.dLawFrame
  obtain ⟨dPm, FPm⟩ := Y.dLawPremises
  obtain ⟨dRo, FRo⟩ := Y.dLawRow
  obtain ⟨dDu, FDu⟩ := Y.dLawDue
  obtain ⟨dBI, FBI⟩ := Y.dBook_Init
  obtain ⟨dWP, FWP⟩ := Y.dWithPremise
  have bS := FunD.bindsN (ps := ["_law_script"]) FS fun _ _ _ _ _ _ us hl => match us, hl with | [_], _ => rfl
  have bP := FunD.bindsN (ps := ["_law_source_here", "_law_many"]) FP fun _ _ _ _ _ _ us hl => match us, hl with | [_, _], _ => rfl
  have bF := FunD.bindsN (ps := ["_law_source_here", "_law_sorts", "_law_letters"]) FF fun _ _ _ _ _ _ us hl => match us, hl with | [_, _, _], _ => rfl
  have bPm := FunD.bindsN (ps := PPm) FPm fun _ _ _ _ _ _ us hl => match us, hl with | [_, _, _], _ => rfl
  have bRo := FunD.bindsN (ps := ["_law_source_here", "_law_frame_here"]) FRo fun _ _ _ _ _ _ us hl => match us, hl with | [_, _], _ => rfl
  have bDu := FunD.bindsN (ps := PDu) FDu fun _ _ _ _ _ _ us hl => match us, hl with | [_, _], _ => rfl
  have bBI := FunD.bindsN (ps := ["self", "frame", "premises"]) FBI fun _ _ _ _ _ _ us hl => match us, hl with | [_, _, _], _ => rfl
  have bWP := FunD.bindsN (ps := ["book", "p", "q"]) FWP fun _ _ _ _ _ _ us hl => match us, hl with | [_, _, _], _ => rfl
  have GS : FnOk P w K mg base CX0 1 _ dS ["_law_script"] (spSrc K) := ok_src FS Y.bl
  have GP : FnOk P w K mg base CX0 1 _ dP ["_law_source_here", "_law_many"] spPick := ok_pick FP Y.bl
  have GF : FnOk P w K mg base CX0 7 _ dF ["_law_source_here", "_law_sorts", "_law_letters"] (spFr3 K) := ok_fr3 FF Y
  have GPm : FnOk P w K mg base CX0 27 _ dPm PPm (spPm K) := ok_pm FPm Y
  have GRo : FnOk P w K mg base CX0 28 _ dRo ["_law_source_here", "_law_frame_here"] (spRo K) := ok_ro FRo Y
  have GDu : FnOk P w K mg base CX0 126 _ dDu PDu (spDu K) := ok_du FDu Y
  have GBI : FnOk P w K mg base (L2.CX P w) 9 _ dBI ["self", "frame", "premises"] (spBI K) := ok_bi FBI Y
  have GWP : FnOk P w K mg base (L2.CX P w) 11 _ dWP ["book", "p", "q"] (spWP K) := ok_wp FWP Y
  refine okGc F scLz (fun vs H Q E h => ?_) (fun cdv A outer s H vs Q E hgd hcd hr h => ?_)
  · obtain ⟨a, ns, rfl, _⟩ := h
    rfl
  · have nd := scLz.nd
    have hu := hu_of hr
    have hu66 : (A.deeper (envOfC "law" (defScope sLaw) s.heap.objs.size f cdv)).units + 66 < cLine := by have := hr.un; omega
    have hr1 : Room 1 _ := hr.mono (by decide)
    have hr7 : Room 7 _ := hr.mono (by decide)
    have hr10 : Room 10 _ := hr.mono (by decide)
    have hr16 : Room 16 _ := hr.mono (by decide)
    have hr27 : Room 27 _ := hr.mono (by decide)
    have hr28 : Room 28 _ := hr.mono (by decide)
    have hr126 : Room 126 _ := hr.mono (by decide)
    rw [hcd] at hcode
    refine ⟨_, pss_cons (ps_set (i := 1) nd rfl (Or.inr rfl) (pe_call GS hr1 (by rfl) Y.gLawSource FS.kp bS .nil pass0 (pa_cons (pv 0) pa_nil)))
      (pss_cons (ps_for PassesOwn.never rfl (pi_range1 (by rfl) Y.bRange (pa_cons pe_int pa_nil)) (pg_name (i := 2) nd rfl (Or.inl rfl))
        (pss_cons (ps_set (i := 3) nd rfl (Or.inr rfl) (pe_call GF hr7 (by rfl) Y.gLawFrame FF.kp bF .nil pass0 (pa_cons (pv 1) (pa_cons (pe_op op_add pe_int (pe_call GP hr1 (by rfl) Y.gLawPick FP.kp bP .nil pass0 (pa_cons (pv 1) (pa_cons pe_int pa_nil)))) (pa_cons (pe_op op_add pe_int (pe_call GP hr1 (by rfl) Y.gLawPick FP.kp bP .nil pass0 (pa_cons (pv 1) (pa_cons pe_int pa_nil)))) pa_nil)))))
        (pss_cons (ps_set (i := 4) nd rfl (Or.inl rfl) (pe_call GPm hr27 (by rfl) Y.gLawPremises FPm.kp bPm .nil pass0 (pa_cons (pv 1) (pa_cons (pv 3) (pa_cons pe_int pa_nil)))))
        (pss_cons (ps_set (i := 5) nd rfl (Or.inl rfl) (pe_op op_cat
            (pe_lc (own := [("_law_p", 10), ("_law_q", 12)]) (g := gTup K 2 (gCons (gName 10) (gCons (gName 12) gNil))) (tt := tYes) (te := tTup (tCons (tVar 10) (tCons (tC .non) (tCons (tVar 12) (tCons (tC .non) tNil))))) rfl nd (pi_list (pv 4)) (blkOk_by (N := NLz) (sc := defScope sLaw) (by decide +kernel))
              (fun _ _ _ _ _ => pg_tup rfl (pgs_cons (pg_name (i := 10) nd rfl (Or.inl rfl)) (pgs_cons (pg_name (i := 12) nd rfl (Or.inl rfl)) pgs_nil))) (fun _ _ _ _ _ => pts_nil) (fun _ _ _ _ _ => pe_tup (pa_cons (pv 10) (pa_cons pe_non (pa_cons (pv 12) (pa_cons pe_non pa_nil))))))
            (pe_lc (own := [("_law_again", 15)]) (g := gName 15) (tt := tYes) (te := tCall (spRo K) [] E0 (tCons (tVar 1) (tCons (tVar 3) tNil))) rfl nd (pi_range1 (by rfl) Y.bRange (pa_cons pe_int pa_nil)) (blkOk_by (N := NLz) (sc := defScope sLaw) (by decide +kernel))
              (fun _ _ _ _ _ => pg_name (i := 15) nd rfl (Or.inl rfl)) (fun _ _ _ _ _ => pts_nil) (fun _ _ _ _ _ => pe_call GRo (hr28.mono (by decide)) (by rfl) Y.gLawRow FRo.kp bRo .nil pass0 (pa_cons (pv 1) (pa_cons (pv 3) pa_nil))))))
        (pss_cons (ps_set (i := 6) nd rfl (Or.inl rfl) (pe_call GP hr1 (by rfl) Y.gLawPick FP.kp bP .nil pass0 (pa_cons (pv 1) (pa_cons (pe_callB call_len_seq (by rfl) Y.bLen PySem.boot_len (pa_cons (pv 5) pa_nil)) pa_nil))))
        (pss_cons (ps_set (i := 5) nd rfl (Or.inl rfl) (pe_op op_cat (pe_slice sl_list (pv 5) (po_some (pv 6)) po_none) (pe_slice sl_list (pv 5) po_none (po_some (pv 6)))))
        (pss_cons (ps_set (i := 7) nd rfl (Or.inr rfl) (pe_lc (own := [("_law_p", 10), ("_law_first", 11), ("_law_q", 12), ("_law_second", 13)]) (g := gTup K 4 (gCons (gName 10) (gCons (gName 11) (gCons (gName 12) (gCons (gName 13) gNil))))) (tt := tYes) (te := tTup (tCons (tVar 10) (tCons (tVar 12) tNil))) rfl nd (pi_list (pv 5)) (blkOk_by (N := NLz) (sc := defScope sLaw) (by decide +kernel))
              (fun _ _ _ _ _ => pg_tup rfl (pgs_cons (pg_name (i := 10) nd rfl (Or.inl rfl)) (pgs_cons (pg_name (i := 11) nd rfl (Or.inl rfl)) (pgs_cons (pg_name (i := 12) nd rfl (Or.inl rfl)) (pgs_cons (pg_name (i := 13) nd rfl (Or.inl rfl)) pgs_nil))))) (fun _ _ _ _ _ => pts_nil) (fun _ _ _ _ _ => pe_tup (pa_cons (pv 10) (pa_cons (pv 12) pa_nil)))))
        (pss_cons (ps_set (i := 8) nd rfl (Or.inl rfl) (pe_callB (call_reprV hgd hu66) (by rfl) Y.bRepr (by decide +kernel) (pa_cons (pv 7) pa_nil)))
        (pss_cons (ps_if (pt_cmpR op_ne (pe_callB (call_reprV hgd hu66) (by rfl) Y.bRepr (by decide +kernel) (pa_cons (pe_word (X := (cxOf CX0 P w K mg base NLz "law" (defScope sLaw) f cdv A outer s H E).nox) (c := c) (Pt := Pt) (t := fun E => tMakeS (CBook K) (spBI K) (fun _ => E) (tCons (tDGet (tVar 3) (tC (.str "made"))) (tCons (tVar 7) tNil))) Y (by rfl) TB hcode rfl rfl hr16 lamL1 (by rfl) (fun _ _ _ _ _ => rfl)
              (fun A outer s H E f c' hr2 => pe_makeS Y.mBook GBI (hr2.mono (by decide)) (by rfl) Y.gBook bBI (fun σ => passAt (takes_of rfl rfl rfl rfl) σ) (pa_cons (pe_dget (hu_of hr2) (pv 3) pe_str nosl) (pa_cons (pv 7) pa_nil)))) pa_nil))
            (pe_callB (call_reprV hgd hu66) (by rfl) Y.bRepr (by decide +kernel) (pa_cons (pe_call GDu hr126 (by rfl) Y.gLawDue FDu.kp bDu .nil pass0 (pa_cons (pv 3) (pa_cons (pv 5) pa_nil))) pa_nil)) (nomark _)) (pss_one (ps_ret pe_bl)) pss_nil)
        (pss_cons (ps_set (i := 9) nd rfl (Or.inr rfl) (pe_make Y.mBook GBI hr10 (by rfl) Y.gBook bBI .nil passX (pa_cons (pe_dget hu (pv 3) pe_str nosl) (pa_cons (pv 4) pa_nil))))
        (pss_cons (ps_asg (pe_call GRo hr28 (by rfl) Y.gLawRow FRo.kp bRo .nil pass0 (pa_cons (pv 1) (pa_cons (pv 3) pa_nil))) (pg_tup rfl (pgs_cons (pg_name (i := 10) nd rfl (Or.inr rfl)) (pgs_cons (pg_name (i := 11) nd rfl (Or.inl rfl)) (pgs_cons (pg_name (i := 12) nd rfl (Or.inr rfl)) (pgs_cons (pg_name (i := 13) nd rfl (Or.inl rfl)) pgs_nil))))))
        (pss_cons (ps_set (i := 14) nd rfl (Or.inl rfl) (pe_call GDu hr126 (by rfl) Y.gLawDue FDu.kp bDu .nil pass0 (pa_cons (pv 3) (pa_cons (pe_op op_cat
            (pe_lc (own := [("_law_early", 16), ("_law_late", 17)]) (g := gTup K 2 (gCons (gName 16) (gCons (gName 17) gNil))) (tt := tYes) (te := tTup (tCons (tVar 16) (tCons (tC .non) (tCons (tVar 17) (tCons (tC .non) tNil))))) rfl nd (pi_list (pv 4)) (blkOk_by (N := NLz) (sc := defScope sLaw) (by decide +kernel))
              (fun _ _ _ _ _ => pg_tup rfl (pgs_cons (pg_name (i := 16) nd rfl (Or.inl rfl)) (pgs_cons (pg_name (i := 17) nd rfl (Or.inl rfl)) pgs_nil))) (fun _ _ _ _ _ => pts_nil) (fun _ _ _ _ _ => pe_tup (pa_cons (pv 16) (pa_cons pe_non (pa_cons (pv 17) (pa_cons pe_non pa_nil))))))
            (pe_lst (pa_cons (pe_tup (pa_cons (pv 10) (pa_cons (pv 11) (pa_cons (pv 12) (pa_cons (pv 13) pa_nil))))) pa_nil))) pa_nil))))
        (pss_one (ps_if (pw_or (pt_cmpR op_ne (pe_callB (call_reprV hgd hu66) (by rfl) Y.bRepr (by decide +kernel) (pa_cons (pe_word (X := (cxOf CX0 P w K mg base NLz "law" (defScope sLaw) f cdv A outer s H E).nox) (c := c) (Pt := Pt) (t := fun E => tCallS (spWP K) (fun _ => E) (tCons (tVar 9) (tCons (tVar 10) (tCons (tVar 12) tNil)))) Y (by rfl) TB hcode rfl rfl hr16 lamL2 (by rfl) (fun _ _ _ _ _ => rfl)
              (fun A outer s H E f c' hr2 => pe_callS GWP (hr2.mono (by decide)) (by rfl) Y.gWithPremise FWP.kp bWP (fun σ => passAt (takes_of rfl rfl rfl rfl) σ) (pa_cons (pv 9) (pa_cons (pv 10) (pa_cons (pv 12) pa_nil))))) pa_nil))
            (pe_callB (call_reprV hgd hu66) (by rfl) Y.bRepr (by decide +kernel) (pa_cons (pv 14) pa_nil)) (nomark _))
          (pw_or1 (pt_cmpR op_ne (pe_callB (call_reprV hgd hu66) (by rfl) Y.bRepr (by decide +kernel) (pa_cons (pv 7) pa_nil)) (pv 8) (nomark _)))).pt (pss_one (ps_ret pe_bl)) pss_nil))))))))))))))
      (pss_one (ps_ret pe_bl))), ?_⟩
    obtain ⟨a, ns, rfl, hsq, ln, hPt, k⟩ := h
    refine ⟨_, rfl, a, ns, rfl, hsq, ln, fun d m H1 s1 hd hc src => ?_⟩
    dsimp only [gName]
    have tab0 : Tabs [(Pt, qLam)] H1 := fun p hp => by
      obtain rfl := List.mem_singleton.mp hp
      exact TabS.nil (s1 _ _ hPt)
    refine seq_any (fun σ G => ∃ v2 v3 v4 v5 v6 v7 v8 v9 v10 v11 v12 v13 v14 : Option V, σ = l18 a d v2 v3 v4 v5 v6 v7 v8 v9 v10 v11 v12 v13 v14) ?_ ?_
    rotate_left
    · intro nx0 hnx0
      refine ⟨6, rfl, by decide, by decide, for_range (lo := 0) (n := 6) (fun i σ G => (∃ v2 v3 v4 v5 v6 v7 v8 v9 v10 v11 v12 v13 v14 : Option V, σ = l18 a d v2 v3 v4 v5 v6 v7 v8 v9 v10 v11 v12 v13 v14) ∧ SrcAt G d m ∧ Tabs [(Pt, qLam)] G) ⟨⟨none, none, none, none, none, none, none, none, none, none, none, none, none, rfl⟩, src, tab0⟩ ?_ (fun σ G q => hnx0 _ _ q.1)⟩
      clear src tab0 s1 hd hc
      rintro i σ G hi ⟨⟨v2, v3, v4, v5, v6, v7, v8, v9, v10, v11, v12, v13, v14, rfl⟩, src, tab⟩
      dsimp only [gName]
      obtain ⟨I, eI⟩ : ∃ I : Option V, I = some (.int (0 + (i : Int))) := ⟨_, rfl⟩
      rw [← eI]
      clear eI hi
      -- the frame
      refine seq_any (fun σ' G' => ∃ (e b : Addr) (xs : List Str) (ls : List Lt), σ' = l18 a d I (some (.ref e)) v4 v5 v6 v7 v8 v9 v10 v11 v12 v13 v14 ∧ LwI K Pt d m e b xs ls G' ∧ 1 ≤ ls.length) ?_ ?_
      rotate_left
      · intro nx hnx
        refine ⟨_, rfl, _, rfl, d, m, 3, rfl, src, by decide, by decide, fun r1 G1 r10 r11 src1 keep1 => ⟨_, _, rfl, rfl, _, rfl, d, m, 3, rfl, src1, by decide, by decide, fun r2 G2 r20 r21 src2 keep2 => ⟨_, _, rfl, rfl, ?_⟩⟩⟩
        obtain ⟨j1, rfl⟩ : ∃ j : Nat, r1 = (j : Int) := ⟨r1.toNat, by omega⟩
        obtain ⟨j2, rfl⟩ : ∃ j : Nat, r2 = (j : Int) := ⟨r2.toNat, by omega⟩
        have eh : hid d m G2 = hid d m G := (hid_pick keep2).trans (hid_pick keep1)
        have tab2 := tab_hid src tab
        rw [← eh] at tab2
        refine ⟨d, m, 1 + j1, 1 + j2, by rw [Int.natCast_add, Int.natCast_add]; rfl, src2, by omega, by omega, by omega, by omega, fun e b xs ls G3 src3 sm3 fr md _ hl => ?_⟩
        exact hnx _ _ ⟨e, b, xs, ls, rfl, ⟨src3, tabs_same sm3 tab2, fr, let ⟨s, m', o, t, h, _⟩ := md.1; ⟨s, m', o, t, h⟩, ⟨_, md.2.1⟩⟩, by omega⟩
      clear src tab G v3
      rintro σ G ⟨e, b, xs, ls, rfl, I0, l1⟩
      have ok := I0.fr.ok
      -- right premises
      refine seq_any (fun σ' G' => ∃ (S : Addr) (as : List Addr) (ps : List Pm), σ' = l18 a d I (some (.ref e)) (some (.ref S)) v5 v6 v7 v8 v9 v10 v11 v12 v13 v14 ∧ LwI K Pt d m e b xs ls G' ∧ LsI (PmAt K) (hid d m G') S as ps ∧ (∀ p ∈ ps, PmOk xs ls p) ∧ ps.length ≤ 2) ?_ ?_
      rotate_left
      · intro nx hnx
        exact ⟨_, rfl, _, rfl, d, m, e, xs, ls, rfl, I0.src, I0.fr, l1, fun S as ps G1 src1 sm1 hS hA hps lps => hnx _ _ ⟨S, as, ps, rfl, I0.step src1 sm1, ⟨hS, hA⟩, hps, lps⟩⟩
      clear I0 G v4
      rintro σ G ⟨S, as, ps, rfl, I0, hS, hps, lps⟩
      have rps := pm_rowsD ok hps
      -- the rows
      refine seq_any (fun σ' G' => ∃ (R : Addr) (bs : List Addr) (rs : List (Sd × Sd)), σ' = l18 a d I (some (.ref e)) (some (.ref S)) (some (.ref R)) v6 v7 v8 v9 v10 v11 v12 v13 v14 ∧ LwI K Pt d m e b xs ls G' ∧ LsI (PmAt K) (hid d m G') S as ps ∧ LsI (RwAt K) (hid d m G') R bs rs ∧ RowsD xs ls rs ∧ 3 ≤ rs.length ∧ rs.length ≤ 5) ?_ ?_
      rotate_left
      · intro nx hnx
        have lS := hS.2.len
        refine ⟨_, rfl, S, rfl, ⟨_, SqL.of (hid_sub _ _ hS.1)⟩, fun D hD => ?_⟩
        have nD := new_h (.lst []) I0.src hD
        have hDh : hid d m G D = none := (hid_at nD.nd nD.nc).trans hD
        refine lc_list (K := K) (a := S) (xs := as.map V.ref) (fun i G' => SrcAt G' d m ∧ Same (hid d m G) (hid d m G') ∧ ∃ qs : List Addr, hid d m G' D = some (.lst (qs.map V.ref)) ∧ Rs (RmAt K) (hid d m G') qs (ps.take i) ∧ qs.length = i) ⟨nD.src, nD.sm, [], nD.at_, .nil, rfl⟩ (fun i G' _ q => SqL.of (hid_sub _ _ (q.2.1 _ _ hS.1))) ?_ ?_
        · rintro i v G' hi ⟨src', sm, qs, eq, hq, lq⟩
          obtain ⟨a1, ea, rfl⟩ := ref_at hi
          obtain ⟨p, ep, u1, u2, h1, h2, h3⟩ := hS.2.get ea
          refine ⟨a1, _, rfl, sqt_same hid_sub (sqt_same sm h1), rfl, _, _, rfl, _, _, rfl, rfl, rfl, _, rfl, _, rfl, szl (by show 4 ≤ 1000; decide), fun T hT => ?_⟩
          have nT := new_h (.tup [V.ref u1, V.non, V.ref u2, V.non]) src' hT
          have eq2 := nT.sm _ _ eq
          have li := (List.getElem?_eq_some_iff.mp ep).1
          have x : TX (hid d m (upd G' T (.tup [V.ref u1, V.non, V.ref u2, V.non]))) (upd (hid d m (upd G' T (.tup [V.ref u1, V.non, V.ref u2, V.non]))) D (.lst (qs.map V.ref ++ [V.ref T]))) := .putL eq2
          refine ⟨_, hid_sub _ _ eq2, by rw [List.length_map]; exact small1000 (by omega), src_put nD.nd nD.nc nT.src, ?_, qs ++ [T], ?_, ?_, by rw [List.length_append, lq]; rfl⟩
          · rw [hid_upd nD.nd nD.nc]
            exact same_put hDh (sm.trans nT.sm)
          · rw [hid_upd nD.nd nD.nc, upd_same, List.map_append]
            rfl
          · rw [hid_upd nD.nd nD.nc, List.take_add_one, ep]
            have s2 := sm.trans nT.sm
            exact (hq.mono fun _ _ z => (z.tx (.of nT.sm)).tx x).app (.one ⟨u1, u2, x.sqt (SqT.of nT.at_), x.tm (h2.same s2), x.tm (h3.same s2)⟩)
        rintro G1 ⟨src1, sm1, qs, eq, hq, lq⟩
        rw [List.length_map, lS, List.take_length] at hq
        rw [List.length_map] at lq
        have I1 := I0.step src1 sm1
        have hS1 := hS.pm (.of sm1)
        clear nD hDh hD
        refine ⟨3, rfl, by decide, by decide, fun D2 hD2 => ?_⟩
        have nD := new_h (.lst []) src1 hD2
        have hDh : hid d m G1 D2 = none := (hid_at nD.nd nD.nc).trans hD2
        refine lc_range (lo := 0) (n := 3) (fun i G' => SrcAt G' d m ∧ Same (hid d m G1) (hid d m G') ∧ ∃ (cs : List Addr) (rs : List (Sd × Sd)), hid d m G' D2 = some (.lst (cs.map V.ref)) ∧ Rs (RwAt K) (hid d m G') cs rs ∧ RowsD xs ls rs ∧ rs.length = i) ⟨nD.src, nD.sm, [], [], nD.at_, .nil, fun r hr => absurd hr List.not_mem_nil, rfl⟩ ?_ ?_
        · rintro i G' hi ⟨src', sm, cs, rs, ec, hc, rd, lr⟩
          refine ⟨rfl, _, rfl, _, rfl, d, m, e, xs, ls, rfl, src', I1.fr.same sm, l1, fun T r G2 src2 sm2 hT o1 o2 => ?_⟩
          have ec2 := sm2 _ _ ec
          have lc := hc.len
          refine ⟨_, hid_sub _ _ ec2, by rw [List.length_map]; exact small1000 (by omega), src_put nD.nd nD.nc src2, ?_, cs ++ [T], rs ++ [r], ?_, ?_, ?_, by rw [List.length_append, lr]; rfl⟩
          · rw [hid_upd nD.nd nD.nc]
            exact same_put hDh (sm.trans sm2)
          · rw [hid_upd nD.nd nD.nc, upd_same, List.map_append]
            rfl
          · rw [hid_upd nD.nd nD.nc]
            exact (rws_putR ec2 (hc.mono fun _ _ z => z.same sm2) rd).app (.one (rw_putR ec2 hT o1 o2))
          · intro q hq
            rcases List.mem_append.mp hq with z | z
            · exact rd q z
            · rw [List.mem_singleton.mp z]; exact ⟨o1, o2⟩
        rintro G2 ⟨src2, sm2, cs, rs, ec, hc, rd, lr⟩
        have I2 := I1.step src2 sm2
        have lc := hc.len
        refine ⟨D, D2, _, _, rfl, rfl, hid_sub _ _ (sm2 _ _ eq), hid_sub _ _ ec, szl (by rw [List.length_map, List.length_map]; omega), fun R hR => ?_⟩
        have nR := new_h (.lst (qs.map V.ref ++ cs.map V.ref)) src2 hR
        have s2 := sm2.trans nR.sm
        refine hnx _ _ ⟨R, qs ++ cs, ps.map Pm.row ++ rs, rfl, I2.step nR.src nR.sm, hS1.pm (.of s2), ⟨by rw [nR.at_, List.map_append], ((rs_rm hq).mono fun _ _ z => z.same s2).app (hc.mono fun _ _ z => z.same nR.sm)⟩, ?_, by rw [List.length_append, lr]; omega, by rw [List.length_append, List.length_map, lr]; omega⟩
        intro r hr
        rcases List.mem_append.mp hr with z | z
        · exact rps r z
        · exact rd r z
      clear I0 hS G v5
      rintro σ G ⟨R, bs, rs, rfl, I0, hS, hR, rd, lr3, lr5⟩
      -- turned about
      refine seq_any (fun σ' G' => ∃ j : Nat, σ' = l18 a d I (some (.ref e)) (some (.ref S)) (some (.ref R)) (some (.int (j : Int))) v7 v8 v9 v10 v11 v12 v13 v14 ∧ LwI K Pt d m e b xs ls G' ∧ LsI (PmAt K) (hid d m G') S as ps ∧ LsI (RwAt K) (hid d m G') R bs rs) ?_ ?_
      rotate_left
      · intro nx hnx
        have lb := hR.2.len
        refine ⟨_, rfl, _, rfl, R, _, rfl, .inl (SqL.of (hid_sub _ _ hR.1)), ?_⟩
        rw [List.length_map]
        refine ⟨d, m, (bs.length : Int), rfl, I0.src, by omega, by omega, fun r2 G2 q0 q1 src2 keep2 => ?_⟩
        obtain ⟨j, rfl⟩ : ∃ j : Nat, r2 = (j : Int) := ⟨r2.toNat, by omega⟩
        have eh := hid_pick keep2
        exact hnx _ _ ⟨j, rfl, I0.step src2 (by rw [eh]; exact Same.refl _), by rw [eh]; exact hS, by rw [eh]; exact hR⟩
      clear I0 hS hR G v6
      rintro σ G ⟨j, rfl, I0, hS, hR⟩
      refine seq_any (fun σ' G' => ∃ (R : Addr) (bs : List Addr) (rs : List (Sd × Sd)), σ' = l18 a d I (some (.ref e)) (some (.ref S)) (some (.ref R)) (some (.int (j : Int))) v7 v8 v9 v10 v11 v12 v13 v14 ∧ LwI K Pt d m e b xs ls G' ∧ LsI (PmAt K) (hid d m G') S as ps ∧ LsI (RwAt K) (hid d m G') R bs rs ∧ RowsD xs ls rs ∧ rs.length ≤ 10) ?_ ?_
      rotate_left
      · intro nx hnx
        have lb := hR.2.len
        refine ⟨_, rfl, _, rfl, (j : Int), rfl, R, _, rfl, SqL.of (hid_sub _ _ hR.1), fun p1 hp1 => ?_⟩
        rw [cutV_drop, ← List.map_drop]
        have n1 := new_h (.lst ((bs.drop j).map V.ref)) I0.src hp1
        have hR1 := hR.rw (.of n1.sm)
        refine ⟨_, rfl, _, rfl, (j : Int), rfl, R, _, rfl, SqL.of (hid_sub _ _ hR1.1), fun p2 hp2 => ?_⟩
        rw [cutV_take, ← List.map_take]
        have n2 := new_h (.lst ((bs.take j).map V.ref)) n1.src hp2
        refine ⟨p1, p2, _, _, rfl, rfl, hid_sub _ _ (n2.sm _ _ n1.at_), hid_sub _ _ n2.at_, szl (by rw [List.length_map, List.length_map, List.length_drop, List.length_take]; omega), fun p3 hp3 => ?_⟩
        have n3 := new_h (.lst ((bs.drop j).map V.ref ++ (bs.take j).map V.ref)) n2.src hp3
        have sA := n1.sm.trans (n2.sm.trans n3.sm)
        have hR3 := hR.rw (.of sA)
        exact hnx _ _ ⟨p3, bs.drop j ++ bs.take j, rs.drop j ++ rs.take j, rfl, I0.step n3.src sA, hS.pm (.of sA), ⟨by rw [n3.at_, List.map_append], (hR3.2.drop j).app (hR3.2.take j)⟩, (rd.drop j).app (rd.take j), by rw [List.length_append, List.length_drop, List.length_take]; omega⟩
      clear I0 hS hR rd lr3 lr5 rs bs R G
      rintro σ G ⟨R, bs, rs, rfl, I0, hS, hR, rd, lr⟩
      -- the premises alone
      refine seq_any (fun σ' G' => ∃ (M : Addr) (cs : List Addr), σ' = l18 a d I (some (.ref e)) (some (.ref S)) (some (.ref R)) (some (.int (j : Int))) (some (.ref M)) v8 v9 v10 v11 v12 v13 v14 ∧ LwI K Pt d m e b xs ls G' ∧ LsI (PmAt K) (hid d m G') S as ps ∧ LsI (RwAt K) (hid d m G') R bs rs ∧ LsI (PrAt K) (hid d m G') M cs rs) ?_ ?_
      rotate_left
      · intro nx hnx
        have lb := hR.2.len
        refine ⟨_, rfl, R, rfl, ⟨_, SqL.of (hid_sub _ _ hR.1)⟩, fun D hD => ?_⟩
        have nD := new_h (.lst []) I0.src hD
        have hDh : hid d m G D = none := (hid_at nD.nd nD.nc).trans hD
        refine lc_list (K := K) (a := R) (xs := bs.map V.ref) (fun i G' => SrcAt G' d m ∧ Same (hid d m G) (hid d m G') ∧ ∃ qs : List Addr, hid d m G' D = some (.lst (qs.map V.ref)) ∧ Rs (PrAt K) (hid d m G') qs (rs.take i) ∧ qs.length = i) ⟨nD.src, nD.sm, [], nD.at_, .nil, rfl⟩ (fun i G' _ q => SqL.of (hid_sub _ _ (q.2.1 _ _ hR.1))) ?_ ?_
        · rintro i v G' hi ⟨src', sm, qs, eq, hq, lq⟩
          obtain ⟨a1, ea, rfl⟩ := ref_at hi
          obtain ⟨r, er, w1, f1, w2, f2, h0, h1, h2, h3, h4⟩ := hR.2.get ea
          refine ⟨a1, _, rfl, sqt_same hid_sub (sqt_same sm h0), rfl, _, _, rfl, _, _, rfl, _, _, rfl, _, _, rfl, rfl, rfl, _, rfl, _, rfl, szl (by show 2 ≤ 1000; decide), fun T hT => ?_⟩
          have nT := new_h (.tup [w1, w2]) src' hT
          have eq2 := nT.sm _ _ eq
          have li := (List.getElem?_eq_some_iff.mp er).1
          have s2 := sm.trans nT.sm
          have rr := rd r (List.mem_of_getElem? er)
          refine ⟨_, hid_sub _ _ eq2, by rw [List.length_map]; exact small1000 (by omega), src_put nD.nd nD.nc nT.src, ?_, qs ++ [T], ?_, ?_, by rw [List.length_append, lq]; rfl⟩
          · rw [hid_upd nD.nd nD.nc]
            exact same_put hDh s2
          · rw [hid_upd nD.nd nD.nc, upd_same, List.map_append]
            rfl
          · rw [hid_upd nD.nd nD.nc, List.take_add_one, er]
            exact (prs_putR eq2 (hq.mono fun _ _ z => z.same nT.sm) (rd.take i)).app (.one (pr_putR eq2 ⟨w1, w2, SqT.of nT.at_, h1.mono s2, h3.mono s2⟩ rr.1 rr.2))
        rintro G1 ⟨src1, sm1, qs, eq, hq, lq⟩
        rw [List.length_map, lb, List.take_length] at hq
        exact hnx _ _ ⟨D, qs, rfl, I0.step src1 sm1, hS.pm (.of sm1), hR.rw (.of sm1), eq, hq⟩
      clear I0 hS hR G v7
      rintro σ G ⟨M, cs, rfl, I0, hS, hR, hM⟩
      obtain ⟨sh1, sh2, sh3⟩ := show_prs rd (by omega)
      have vM : ∀ {G' : Hp}, LsI (PrAt K) G' M cs rs → Va K G' (.ref M) (.list (rs.map rowD)) := fun h => .lst (SqL.of h.1) (va_prs h.2)
      refine seq_any (fun σ' G' => σ' = l18 a d I (some (.ref e)) (some (.ref S)) (some (.ref R)) (some (.int (j : Int))) (some (.ref M)) (some (.str (PyData.list (rs.map rowD)).shown)) v9 v10 v11 v12 v13 v14 ∧ LwI K Pt d m e b xs ls G' ∧ LsI (PmAt K) (hid d m G') S as ps ∧ LsI (RwAt K) (hid d m G') R bs rs ∧ LsI (PrAt K) (hid d m G') M cs rs) ?_ ?_
      rotate_left
      · intro nx hnx
        exact ⟨_, rfl, _, _, rfl, (vM hM).mono hid_sub, sh1, sh2, sh3, hnx _ _ ⟨rfl, I0, hS, hR, hM⟩⟩
      clear I0 hS hR hM G v8
      rintro σ G ⟨rfl, I0, hS, hR, hM⟩
      obtain ⟨er1, er2, er3⟩ := show_er (o := dueL 0 rs) (due_ok rd (by omega))
      -- a book of wrong premises
      refine seq_any (fun σ' G' => σ' = l18 a d I (some (.ref e)) (some (.ref S)) (some (.ref R)) (some (.int (j : Int))) (some (.ref M)) (some (.str (PyData.list (rs.map rowD)).shown)) v9 v10 v11 v12 v13 v14 ∧ LwI K Pt d m e b xs ls G' ∧ LsI (PmAt K) (hid d m G') S as ps ∧ LsI (PrAt K) (hid d m G') M cs rs) ?_ ?_
      rotate_left
      · intro nx hnx
        obtain ⟨s0, m0, o0, t0, hd⟩ := I0.md
        have hd' := hid_sub _ _ hd
        refine ⟨tabs_same hid_sub I0.tab, fun H1 x1 tb1 => ?_⟩
        refine ⟨_, rfl, e, .ref b, rfl, fr_made (x1 _ _ hd' nofun), _, rfl, bk_word (ext_frmA x1 (I0.frm.same hid_sub)) ok (ext_sql x1 (SqL.of (hid_sub _ _ hM.1))) (hM.2.mono fun _ _ z => ext_pr x1 (z.same hid_sub)) rd.ok (by omega) fun L2 H2 s2 hv2 => ?_⟩
        have x2 : ExtN G H2 := x1.trans (.of s2)
        refine ⟨_, _, rfl, hv2, er1, er2, er3, ?_⟩
        refine ⟨_, rfl, _, rfl, e, R, xs, ls, bs, rs, rfl, ext_frat x2 (I0.fr.same hid_sub), ext_sql x2 (SqL.of (hid_sub _ _ hR.1)), hR.2.mono fun _ _ z => ext_rw x2 (z.same hid_sub), rd.ok, by omega, fun L3 H3 s3 hv3 => ⟨_, _, rfl, hv3, er1, er2, er3, rfl, _, rfl, ?_⟩⟩
        rw [decide_eq_true rfl]
        have x3 := x2.trans (.of s3)
        have src3 := ext_src x3 I0.src
        exact iteF (hnx _ _ ⟨rfl, I0.ext src3 (tab_hid src3 (tabs_same (s2.trans s3) tb1)) (ext_hid x3), hS.pm (ext_hid x3), hM.pr (ext_hid x3)⟩)
      clear I0 hS hR hM G er1 er2 er3
      rintro σ G ⟨rfl, I0, hS, hM⟩
      -- a book of right ones
      refine seq_any (fun σ' G' => ∃ B : Addr, σ' = l18 a d I (some (.ref e)) (some (.ref S)) (some (.ref R)) (some (.int (j : Int))) (some (.ref M)) (some (.str (PyData.list (rs.map rowD)).shown)) (some (.ref B)) v10 v11 v12 v13 v14 ∧ LwI K Pt d m e b xs ls G' ∧ LsI (PmAt K) (hid d m G') S as ps ∧ LsI (PrAt K) (hid d m G') M cs rs ∧ BkAt K (hid d m G') B b (ps.map Pm.row)) ?_ ?_
      rotate_left
      · intro nx hnx
        obtain ⟨s0, m0, o0, t0, hd⟩ := I0.md
        exact ⟨_, rfl, e, .ref b, rfl, fr_made (hid_sub _ _ hd), _, rfl, mk_bk2 (I0.frm.same hid_sub) ok (SqL.of (hid_sub _ _ hS.1)) (rs_pr (hS.2.mono fun _ _ z => z.same hid_sub)) rps.ok (by rw [List.length_map]; omega) (fun e he => by rw [pm_due hps] at he; cases he)
          fun _ B H' s' _ hB => hnx _ _ ⟨B, rfl, I0.same s', hS.pm (.of (hid_same s')), hM.pr (.of (hid_same s')), bk_hid (src_same s' I0.src) hB⟩⟩
      clear I0 hS hM G v9
      rintro σ G ⟨B, rfl, I0, hS, hM, hB⟩
      -- one premise more
      refine seq_any (fun σ' G' => ∃ (w1 f1 w2 f2 : V) (r : Sd × Sd), σ' = l18 a d I (some (.ref e)) (some (.ref S)) (some (.ref R)) (some (.int (j : Int))) (some (.ref M)) (some (.str (PyData.list (rs.map rowD)).shown)) (some (.ref B)) (some w1) (some f1) (some w2) (some f2) v14 ∧ LwI K Pt d m e b xs ls G' ∧ LsI (PmAt K) (hid d m G') S as ps ∧ LsI (PrAt K) (hid d m G') M cs rs ∧ BkAt K (hid d m G') B b (ps.map Pm.row) ∧
        Va K (hid d m G') w1 r.1.val ∧ PfAt K (hid d m G') f1 r.1 ∧ Va K (hid d m G') w2 r.2.val ∧ PfAt K (hid d m G') f2 r.2 ∧ SdD xs ls r.1 ∧ SdD xs ls r.2) ?_ ?_
      rotate_left
      · intro nx hnx
        refine ⟨_, rfl, _, rfl, d, m, e, xs, ls, rfl, I0.src, I0.fr, l1, fun T r G1 src1 sm1 hT o1 o2 => ?_⟩
        obtain ⟨w1, f1, w2, f2, h0, h1, h2, h3, h4⟩ := hT
        exact ⟨T, _, rfl, sqt_same hid_sub h0, rfl, _, _, rfl, _, _, rfl, _, _, rfl, _, _, rfl, rfl, hnx _ _ ⟨w1, f1, w2, f2, r, rfl, I0.step src1 sm1, hS.pm (.of sm1), hM.pr (.of sm1), hB.same sm1, h1, h2, h3, h4, o1, o2⟩⟩
      clear I0 hS hM hB G v10 v11 v12 v13
      rintro σ G ⟨w1, f1, w2, f2, r, rfl, I0, hS, hM, hB, h1, h2, h3, h4, o1, o2⟩
      have rdr : RowsD xs ls (ps.map Pm.row ++ [r]) := rps.app fun q hq => by rw [List.mem_singleton.mp hq]; exact ⟨o1, o2⟩
      obtain ⟨er1, er2, er3⟩ := show_er (o := dueL 0 (ps.map Pm.row ++ [r])) (due_ok rdr (by rw [List.length_append, List.length_map]; show 0 + (ps.length + 1) ≤ 300; omega))
      -- what is due then
      refine seq_any (fun σ' G' => ∃ U : Addr, σ' = l18 a d I (some (.ref e)) (some (.ref S)) (some (.ref R)) (some (.int (j : Int))) (some (.ref M)) (some (.str (PyData.list (rs.map rowD)).shown)) (some (.ref B)) (some w1) (some f1) (some w2) (some f2) (some (.ref U)) ∧ SrcAt G' d m ∧ Tabs [(Pt, qLam)] G' ∧ FrmA K G' b xs ls ∧ LsI (PrAt K) G' M cs rs ∧ BkAt K G' B b (ps.map Pm.row) ∧ Va K G' w1 r.1.val ∧ Va K G' w2 r.2.val ∧ Va K G' (.ref U) (erD (dueL 0 (ps.map Pm.row ++ [r])))) ?_ ?_
      rotate_left
      · intro nx hnx
        have lS := hS.2.len
        refine ⟨_, rfl, _, rfl, S, rfl, ⟨_, SqL.of (hid_sub _ _ hS.1)⟩, fun D hD => ?_⟩
        have nD := new_h (.lst []) I0.src hD
        have hDh : hid d m G D = none := (hid_at nD.nd nD.nc).trans hD
        refine lc_list (K := K) (a := S) (xs := as.map V.ref) (fun i G' => SrcAt G' d m ∧ Same (hid d m G) (hid d m G') ∧ ∃ qs : List Addr, hid d m G' D = some (.lst (qs.map V.ref)) ∧ Rs (RmAt K) (hid d m G') qs (ps.take i) ∧ qs.length = i) ⟨nD.src, nD.sm, [], nD.at_, .nil, rfl⟩ (fun i G' _ q => SqL.of (hid_sub _ _ (q.2.1 _ _ hS.1))) ?_ ?_
        · rintro i v G' hi ⟨src', sm, qs, eq, hq, lq⟩
          obtain ⟨a1, ea, rfl⟩ := ref_at hi
          obtain ⟨p, ep, u1, u2, h1, h2, h3⟩ := hS.2.get ea
          refine ⟨a1, _, rfl, sqt_same hid_sub (sqt_same sm h1), rfl, _, _, rfl, _, _, rfl, rfl, rfl, _, rfl, _, rfl, szl (by show 4 ≤ 1000; decide), fun T hT => ?_⟩
          have nT := new_h (.tup [V.ref u1, V.non, V.ref u2, V.non]) src' hT
          have eq2 := nT.sm _ _ eq
          have li := (List.getElem?_eq_some_iff.mp ep).1
          have x : TX (hid d m (upd G' T (.tup [V.ref u1, V.non, V.ref u2, V.non]))) (upd (hid d m (upd G' T (.tup [V.ref u1, V.non, V.ref u2, V.non]))) D (.lst (qs.map V.ref ++ [V.ref T]))) := .putL eq2
          refine ⟨_, hid_sub _ _ eq2, by rw [List.length_map]; exact small1000 (by omega), src_put nD.nd nD.nc nT.src, ?_, qs ++ [T], ?_, ?_, by rw [List.length_append, lq]; rfl⟩
          · rw [hid_upd nD.nd nD.nc]
            exact same_put hDh (sm.trans nT.sm)
          · rw [hid_upd nD.nd nD.nc, upd_same, List.map_append]
            rfl
          · rw [hid_upd nD.nd nD.nc, List.take_add_one, ep]
            have s2 := sm.trans nT.sm
            exact (hq.mono fun _ _ z => (z.tx (.of nT.sm)).tx x).app (.one ⟨u1, u2, x.sqt (SqT.of nT.at_), x.tm (h2.same s2), x.tm (h3.same s2)⟩)
        rintro G1 ⟨src1, sm1, qs, eq, hq, lq⟩
        rw [List.length_map, lS, List.take_length] at hq
        rw [List.length_map] at lq
        have I1 := I0.step src1 sm1
        refine ⟨_, rfl, _, rfl, _, rfl, _, rfl, szl (by show 4 ≤ 1000; decide), fun T hT => ⟨szl (by show 1 ≤ 1000; decide), fun L2 hL2 => ?_⟩⟩
        have nT := new_h (.tup [w1, f1, w2, f2]) src1 hT
        have nL := new_h (.lst [V.ref T]) nT.src hL2
        have sA := nT.sm.trans nL.sm
        refine ⟨D, L2, _, _, rfl, rfl, hid_sub _ _ (sA _ _ eq), hid_sub _ _ nL.at_, szl (by rw [List.length_map]; show qs.length + 1 ≤ 1000; omega), fun L3 hL3 => ?_⟩
        have n3 := new_h (.lst (qs.map V.ref ++ [V.ref T])) nL.src hL3
        have sB := sA.trans n3.sm
        have sC := sm1.trans sB
        have I3 := I1.step n3.src sB
        have hrow : Rs (RwAt K) (hid d m (upd (upd (upd G1 T (.tup [w1, f1, w2, f2])) L2 (.lst [V.ref T])) L3 (.lst (qs.map V.ref ++ [V.ref T])))) (qs ++ [T]) (ps.map Pm.row ++ [r]) := ((rs_rm hq).mono fun _ _ z => z.same sB).app (.one ⟨w1, f1, w2, f2, SqT.of (n3.sm _ _ (nL.sm _ _ nT.at_)), h1.mono sC, h2.same sC, h3.mono sC, h4.same sC⟩)
        refine ⟨e, L3, xs, ls, qs ++ [T], _, rfl, I3.fr.same hid_sub, SqL.of (by rw [hid_sub _ _ n3.at_, List.map_append]; rfl), hrow.mono fun _ _ z => z.same hid_sub, rdr.ok, by rw [List.length_append, List.length_map]; show ps.length + 1 ≤ 50; omega, fun U G4 s4 hU => ?_⟩
        have sD := (hid_sub (d := d) (c := m)).trans s4
        exact hnx _ _ ⟨U, rfl, src_same s4 n3.src, tabs_same sD I3.tab, I3.frm.same sD, hM.pr (.of (sC.trans sD)), hB.same (sC.trans sD), h1.mono (sC.trans sD), h3.mono (sC.trans sD), hU⟩
      clear I0 hS hM hB h1 h2 h3 h4 G v14
      rintro σ G ⟨U, rfl, src, tab, hF, hM, hB, h1, h3, hU⟩
      refine ⟨tab, fun H1 x1 tb1 => ?_⟩
      refine ⟨_, rfl, _, rfl, _, rfl, wp_word (ext_bk x1 hB) (ext_frmA x1 hF) ok (ext_va x1 h1) (ext_va x1 h3) rps.ok o1.1 o2.1 (by rw [List.length_map]; omega) fun L2 H2 s2 hv2 => ?_⟩
      have x2 : ExtN G H2 := x1.trans (.of s2)
      refine ⟨_, _, rfl, hv2, er1, er2, er3, _, rfl, _, _, rfl, ext_va x2 hU, er1, er2, er3, rfl, _, rfl, ?_⟩
      rw [decide_eq_true rfl]
      refine iteF ⟨_, rfl, _, _, rfl, vM (hM.pr x2), sh1, sh2, sh3, _, rfl, rfl, _, rfl, ?_⟩
      rw [decide_eq_true rfl]
      exact iteF ⟨⟨_, _, _, _, _, _, _, _, _, _, _, _, _, rfl⟩, ext_src x2 src, tabs_same s2 tb1⟩
    rintro σ G ⟨v2, v3, v4, v5, v6, v7, v8, v9, v10, v11, v12, v13, v14, rfl⟩
    exact k G
end
end K37

namespace K37
open PySem PySem.Spec PyProof.Rows L2 Ow Xv LamX
/-! ### the end: the law's def is called at the bottom, where nothing is being shown and its table of code objects is empty -/
section
variable {P : Program} {w : World} {K : PySem.W.Frag} {mg mb : Str → Option Value} {f a c Pt : Addr} {fd : FuncData} {s : Shared} {us : List Value} {ks : List Int}
/-- what the row asks of that call -/
def Done (P : Program) (w : World) (f a : Addr) (s : Shared) : Prop :=
  codeAny (model P w) callerA (.call (.ref f) ⟨[.ref a], []⟩) (fun r t => r = .ok (.ret (.bool true)) ∧ OldK s.heap t.heap ∧ t.os = s.os ∧ AllBare t.gens) s
abbrev tabO : Obj := { cls := .none, data := .fields #[] }
/-- where the builtins' module stands -/
def BmAt0 (h : Heap) (mg : Str → Option Value) : Prop := ∃ (bm : Addr) (ob : Obj), mg ("__builtins__" : Str) = some (.ref bm) ∧ bm ≠ builtinsNs ∧ h.get? bm = some ob ∧ ob.cls = .type "module" ∧ ob.dict = some builtinsNs ∧ ob.data = .plain
/-- over a reading that tracks the table and, it may be, the script -/
theorem done_at (kx : K.In s.heap) (gN : s.heap.Ns mainGlobals mg) (bN : s.heap.Ns builtinsNs mb) (bQ : ∀ y : Str, y ≠ "__name__" → mb y = bootBuiltins y) (nl : s.heap.NoLimit) (ge : s.gens = #[])
    (aO : s.heap.get? a = some { cls := .type "list", data := .seq us.toArray }) (bmn : BmAt0 s.heap mg) (tO : s.heap.get? Pt = some tabO) (tK : K.lookup Pt = none) (tC : PySem.W.CodeHd s.heap c Pt)
    (law : ∀ B : Heap, K.In B → B.Ns mainGlobals mg → TabB B mg c Pt → FnG P w K mg B 128 f fd ["_law_script"] (spLaw K Pt))
    (bd : BindsTo s fd ⟨[.ref a], []⟩ [("_law_script", .ref a)]) (H : Hp) (tr : ∀ b, H b = none ∨ b = Pt ∨ ∃ p xs, H b = some (.frz p (.lst xs))) (tT : H Pt = some (.tbl #[])) (rd : SqL K H a (ks.map V.int)) (ln : ks.length ≤ 63) (ok : HOk P w H s.heap)
    (one : ∀ b, b ≠ a → b ≠ Pt → H b = none) (un : H a ≠ none → K.lookup a = none) : Done P w f a s := by
  have free : ∀ {b : Addr} {o : Obj}, s.heap.get? b = some o → (∀ x n, o.data ≠ .seq x n) → o.data ≠ .fields #[] → H b = none := fun {b o} g n1 n2 => one b
    (fun e => by rw [e, aO] at g; cases g; exact n1 _ _ rfl) (fun e => by rw [e, tO] at g; cases g; exact n2 rfl)
  have nsB : ∀ {b : Addr} {m : Str → Option Value}, s.heap.Ns b m → (hidT s.heap H).Ns b m := fun {b m} z => by
    obtain ⟨o, es, ep, g, d, r⟩ := z
    exact ⟨o, es, ep, hidT_get g (free g (fun _ _ e => nomatch d.symm.trans e) fun e => nomatch d.symm.trans e), d, r⟩
  have kB : K.In (hidT s.heap H) := fun b o g => hidT_get (kx b o g) (Classical.byContradiction fun z => by
    by_cases e1 : b = Pt
    · rw [e1, tK] at g
      cases g
    · by_cases e2 : b = a
      · rw [e2] at z g
        exact nomatch (un z).symm.trans g
      · exact z (one b e2 e1))
  have md : Mod K mg (hidT s.heap H) := ⟨kB, nsB gN, ⟨mb, nsB bN, bQ⟩, by obtain ⟨m, g1, g2⟩ := nl; exact ⟨m, nsB g1, g2⟩⟩
  have en : Env0 P w K mg (hidT s.heap H) callerA [] s H := ⟨rfl, md, fun b o g => of_hidT g, Nat.le_of_eq (hidT_size _ _), trivial, fun b z => (List.not_mem_nil z).elim, ok, .of_eq ge⟩
  have tb : TabB (hidT s.heap H) mg c Pt := by
    refine ⟨?_, ?_, fun z => ?_⟩
    · obtain ⟨o, vs, f1, f2, f3, f4, f5, f6, f7, g, c1, d1, i1, r⟩ := tC
      refine ⟨o, vs, f1, f2, f3, f4, f5, f6, f7, hidT_get g (free g (fun _ _ e => nomatch d1.symm.trans e) fun e => ?_), c1, d1, i1, r⟩
      have q : vs = #[] := by
        have z := d1.symm.trans e
        cases z
        rfl
      rw [q] at i1
      simp at i1
    · obtain ⟨bm, ob, b1, b2, b3, b4, b5, b6⟩ := bmn
      refine ⟨bm, ob, b1, b2, fun z => ?_, fun z => ?_, hidT_get b3 (free b3 (fun _ _ e => nomatch b6.symm.trans e) fun e => nomatch b6.symm.trans e), b4, b5, b6⟩
      · obtain ⟨o, es, ep, g, d, _⟩ := gN
        rw [z, g] at b3
        cases b3
        exact nomatch d.symm.trans b6
      · rw [z, tO] at b3
        cases b3
        cases b6
    · obtain ⟨o, es, ep, g, d, _⟩ := gN
      rw [z, tO] at g
      cases g
      cases d
  have go := (law _ kB (nsB gN) tb).run callerA [] s H ⟨[.ref a], []⟩ [.ref a] [.ref a] (fun v _ => v = .bl true) (fun _ _ _ => False) rfl ⟨rfl, by decide, by decide⟩ en bd (.cons rfl .nil) ⟨a, ks, rfl, rd, ln, tT, fun _ => rfl⟩
  refine codeAny_mono go fun res t z => ?_
  match res, z with
  | .error _, z => exact False.elim z
  | .ok .next, z => exact False.elim z
  | .ok .brk, z => exact False.elim z
  | .ok .cont, z => exact False.elim z
  | .ok (.ret u), ⟨v, G, os, bare, base, okG, rv, e⟩ =>
    cases (show v = V.bl true from e)
    cases (show u = Value.bool true from rv)
    have stay : ∀ b o, b ≠ Pt → s.heap.get? b = some o → t.heap.get? b = some o := fun b o nP g => by
      by_cases n : H b = none
      · exact base.keep b o g n (fun z => (List.not_mem_nil z).elim) (by simp)
      · rcases tr b with z | z | ⟨p, xs, z⟩
        · exact (n z).elim
        · exact (nP z).elim
        · have g1 := (ok b _ z).1
          have g2 := (okG b _ (base.frzs b p _ z)).1
          rw [g] at g1
          cases g1
          exact g2
    obtain ⟨more, gP⟩ := base.tbls Pt #[] tT
    have gT : t.heap.get? Pt = some { cls := .none, data := .fields (#[] ++ more) } := okG Pt _ gP
    refine ⟨rfl, ⟨fun b o g => ?_, fun b o g => ?_⟩, os, bare⟩
    · by_cases e : b = Pt
      · rw [e] at g ⊢
        rw [tO] at g
        cases g
        exact .inr (.inl ⟨(tC.tab tO).isCodeTable, rfl, #[], more, rfl, gT⟩)
      · exact .inl (stay b o e g)
    · by_cases e : b = Pt
      · rw [e]
        exact ⟨_, gT⟩
      · exact ⟨o, stay b o e g⟩
theorem done (kx : K.In s.heap) (gN : s.heap.Ns mainGlobals mg) (bN : s.heap.Ns builtinsNs mb) (bQ : ∀ y : Str, y ≠ "__name__" → mb y = bootBuiltins y) (nl : s.heap.NoLimit) (ge : s.gens = #[])
    (aO : s.heap.get? a = some { cls := .type "list", data := .seq us.toArray }) (ia : IntsAre us ks) (ln : ks.length ≤ 63) (bmn : BmAt0 s.heap mg) (tO : s.heap.get? Pt = some tabO) (tK : K.lookup Pt = none) (tC : PySem.W.CodeHd s.heap c Pt)
    (law : ∀ B : Heap, K.In B → B.Ns mainGlobals mg → TabB B mg c Pt → FnG P w K mg B 128 f fd ["_law_script"] (spLaw K Pt))
    (bd : BindsTo s fd ⟨[.ref a], []⟩ [("_law_script", .ref a)]) : Done P w f a s := by
  have vi := vals_ints ia
  have l1 : us.length = ks.length := ia.length
  have sz : ks.length ≤ sizeLine := Nat.le_trans ln (by decide)
  have at_ := done_at (ks := ks) kx gN bN bQ nl ge aO bmn tO tK tC law bd
  have ne : a ≠ Pt := fun z => by rw [z, tO] at aO; cases aO
  by_cases kn : K.lookup a = none
  · refine at_ (fun b => if b = a then some (.frz { cls := .type "list", data := .seq us.toArray } (.lst (ks.map V.int))) else if b = Pt then some (.tbl #[]) else none) (fun b => ?_) ((if_neg ne.symm).trans (if_pos rfl)) (.inl (.inr ⟨_, if_pos rfl⟩)) ln (fun b u z => ?_) (fun b n m => (if_neg n).trans (if_neg m)) fun _ => kn
    · by_cases e : b = a
      · exact .inr (.inr ⟨_, _, if_pos e⟩)
      · by_cases e2 : b = Pt
        · exact .inr (.inl e2)
        · exact .inl ((if_neg e).trans (if_neg e2))
    · by_cases e : b = a
      · cases (if_pos e).symm.trans z
        cases e
        exact ⟨aO, by rw [List.length_map]; exact sz, us, _, vi, aO⟩
      · have z2 := (if_neg e).symm.trans z
        by_cases e2 : b = Pt
        · cases (if_pos e2).symm.trans z2
          cases e2
          exact tO
        · exact nomatch (if_neg e2).symm.trans z2
  · obtain ⟨o, lk⟩ := Option.ne_none_iff_exists'.mp kn
    have e := (kx a o lk).symm.trans aO
    cases e
    refine at_ (fun b => if b = Pt then some (.tbl #[]) else none) (fun b => ?_) (if_pos rfl) (.inr ⟨_, us.toArray, _, lk, rfl, rfl, rfl, by rw [List.size_toArray, l1]; exact sz, by simpa using vi⟩) ln (fun b u z => ?_) (fun _ _ m => if_neg m) fun z => (z (if_neg ne)).elim
    · by_cases e2 : b = Pt
      · exact .inr (.inl e2)
      · exact .inl (if_neg e2)
    · by_cases e2 : b = Pt
      · cases (if_pos e2).symm.trans z
        cases e2
        exact tO
      · exact nomatch (if_neg e2).symm.trans z
end
abbrev dfLaw : He.Defn := ("law", none)
/-- what the head has told of the law's def -/
theorem told_law {P : Program} {w : World} {K : PySem.W.Frag} {h : Heap} {mg : Str → Option Value} {f : Addr} (X : K.In h) (G : h.Ns mainGlobals mg) (at_ : mg ("law" : Str) = some (.ref f)) (c : He.SaysX fa fn tabs tf exB w h K) :
    ∃ fd : FuncData, (∀ (s : Shared) (v : Value), BindsTo s fd ⟨[v], []⟩ [("_law_script", v)]) ∧ ∀ B : Heap, TabB B mg (He.cT K dfLaw).1 (He.cT K dfLaw).2 → FnG P w K mg B 128 f fd ["_law_script"] (spLaw K (He.cT K dfLaw).2) := by
  have Y := Fx.of X G c.t c.more
  obtain ⟨fd, F⟩ := Y.dLaw
  have z := at_.symm.trans Y.gLaw
  cases z
  have b := FunD.bindsA (ps := ["_law_script"]) F fun _ _ _ _ _ _ us hl => match us, hl with | [_], _ => rfl
  have hc : fd.code = .ref (He.cT K dfLaw).1 := by
    obtain ⟨oc, od, dV, kV, doc, pm, an, cdv, ct, osl, e, lk, hcd, _, _⟩ := F.ex
    obtain ⟨c0, e0⟩ := He.codeIn_ref hcd
    have e1 : fd.code = .ref c0 := by rw [e]; exact e0
    rw [e1]
    exact congrArg Value.ref (He.codeOf_eq (p := dfLaw) (fd := fd) lk e1).symm
  exact ⟨fd, fun s v => b s [v] rfl, fun B TB => ok_law F Y hc TB⟩
theorem walkG {q : Program} {loose : List Str} {XP : (Str → Option Value) → Heap → Prop} {d : DefRec} (df : d.params.defaults = []) (nme : d.name = ("law" : Str)) :
    PySem.W.WalkO q loose XP hk.says (PySem.Challenge.rw_pairlaws_k37_books_refused).row.toRowW d [] (fun f vs => PySem.call f vs) := by
  refine Att.attach_call (n := 63) rfl df fun w s₀ s mg mb f o pm cd doc a us ks G Y ho hd hcd at_ aO ia ln ge => ?_
  obtain ⟨K, kx, c⟩ := Y
  rw [nme] at at_
  obtain ⟨fd, bd, law⟩ := told_law (P := (PySem.Challenge.rw_pairlaws_k37_books_refused).prog) (w := w) kx G.T.g at_ c
  have hm : dfLaw ∈ tf := List.mem_singleton.mpr rfl
  exact done kx G.T.g G.T.b G.T.builtins G.T.nolimit ge aO ia ln G.T.bmain (c.empty _ hm) (c.out _ hm) (PySem.W.codeHd_of_K kx (c.hd _ hm)) (fun B _ _ TB => law B TB) (bd s (.ref a))
end K37

open PySem PySem.W PySem.Calls PyProof.Rows
set_option maxRecDepth 100000 in
set_option maxHeartbeats 0 in
theorem PySem.Challenge.cw_pairlaws_k37_books_refused_holds : PySem.Challenge.rw_pairlaws_k37_books_refused.Holds := by
  w_on; o_law
  refine HandSHeadRun.head_any (r := OpenLaw.row PySem.Challenge.rw_pairlaws_k37_books_refused) (q := view (OpenLaw.row PySem.Challenge.rw_pairlaws_k37_books_refused).prog [69]) (H := K37.hk) (ob := K37.ob) (M := 40000) (loose := K37.nm) (d := HandSHeadRun.topDef (OpenLaw.row PySem.Challenge.rw_pairlaws_k37_books_refused).prog 69) (kwd := []) K37.ob_eq
    (by kernel_rfl) (fun s => by kernel_rfl) K37.run (by kernel_rfl) (by kernel_rfl) (by kernel_rfl) (by rfl) (by first | assumption | decide +kernel) (by decide +kernel) ⟨rfl, rfl, rfl, rfl, rfl, by decide +kernel⟩ ?hw ?hc
  case hw => w_witness2
  case hc => exact K37.walkG (by kernel_rfl) (by kernel_rfl)
