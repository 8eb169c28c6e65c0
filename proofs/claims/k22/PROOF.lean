import PyProof.Rows.All
import Wide.All
import OpenK.AllK
import Wide.FinOn
import KE.KStateDown
import KE.KExcInit
import KE.KExcIs
import HandS.ForMost
import HandS.ForExc
import HandS.ExcInit
import HandS.ExcValue
import HandS.ExcField
import HandS.IsInst
import HandS.Conv
import HandS.Defaults
import HandS.Wide
import HandS.Head0
import HandS.Head1
import HandS.Head2
import HandS.HeadEnd
import HandS.HeadHook1
import HandS.HeadHook2
import HandS.HeadHook3
import KE.GoesEnum
import HandS.OwnEq
import HandS.Zip
import HandS.Strs
import HandS.DictComp
import HandS.Flow
import HandS.Style
import HandS.More
import HandS.NoneIn
import HandS.WideBits
import HandS.Codes
import HandS.TupAny
import HandS.Star
import HandS.RevTup
import PyProof.ReprRoads
import HandS.Walk
import KE.KRevSl
import HandS.TryMany
import PyProof.P3In
import PyProof.EqKinds
import PyProof.FactsAll.dict
import HandS.Exc
import HandS.Deep
import HandS.RevRange
import PySem.Challenge.RW_pairlaws_k22_frames
set_option Elab.async false
set_option linter.all false
set_option maxRecDepth 100000
set_option maxHeartbeats 0
/-! Exceptions of the program as plain values: made, stored into, read, asked for their class; repr of data. -/
namespace Xv
open PySem PySem.Spec PyProof.Rows L2
/-- what the written part says of an exception class -/
structure EC (K : PySem.W.Frag) (C : Addr) : Prop where
  cl : (PySem.W.clsIn K C).isSome = true
  hd : PySem.W.hasDictIn K C = true
  ga : PySem.W.findIn K (.ref C) "__getattribute__" = some (some (.builtin "BaseException.__getattribute__"))
  gg : PySem.W.findIn K (.ref C) "__getattr__" = some none
  sa : PySem.W.findIn K (.ref C) "__setattr__" = some (some (.builtin "object.__setattr__"))
  ca : PySem.W.findIn K (.ref C) "__class__" = some (some (.builtin "object.__class__"))
  be : PySem.W.subIn K (.ref C) (.type "BaseException") = some true
  ob : PySem.W.mroIn K C (.type "object") = some true
  kp : PySem.W.keepIn K (.ref C) = true
/-- and of object.__class__ -/
structure OC (K : PySem.W.Frag) : Prop where
  g : PySem.W.specialIn K (.builtin "object.__class__") "__get__" = some (some (.builtin "getset_descriptor.__get__"))
  t : PySem.W.takesIn K (.builtin "object.__class__") = some true
/-- an exception of the class at C at a, with no dict as yet or with the fields fs -/
def IsX (H : Hp) (a C : Addr) (fs : List (Str × V)) : Prop := (H a = some (exo a C none) ∧ fs = []) ∨ ∃ dx, H a = some (exo a C (some dx)) ∧ H dx = some (exd dx fs)
section
variable {X : Cx} {pins : List (Addr × Obj)} {σ : L2.St} {H : Hp} {s : Shared} {a C : Addr} {fs : List (Str × V)}
theorem IsX.at (I : Inv X pins σ H s) (e : IsX H a C fs) : ∃ (ox : Obj) (od : Option Obj), PySem.W.InstAt s.heap a ox C od := by
  rcases e with ⟨e, _⟩ | ⟨dx, e, d⟩
  · obtain ⟨t, h⟩ := exo_at I.hok e
    exact ⟨_, none, h, rfl, rfl, trivial⟩
  · obtain ⟨t, h⟩ := exo_at I.hok e
    obtain ⟨mA, hn, _⟩ := exd_at I.hok d
    obtain ⟨o, _, _, ho, _⟩ := hn
    exact ⟨_, some o, h, rfl, rfl, ho⟩
/-- isinstance(e, c) of such an exception -/
def rIsX (K : PySem.W.Frag) : List V → Hp → VK → Prop := fun xs H Q => ∃ (a C : Addr) (fs : List (Str × V)) (c : V) (u : Value) (b : Bool), xs = [.ref a, c] ∧ IsX H a C fs ∧ EC K C ∧ ClsV c u ∧ PySem.W.kitOne K (.ref C) u = some b ∧ Q (.bl b) H
theorem call_isX (O : OC X.K) : CallR X (.builtin "isinstance") (rIsX X.K) := by
  intro pins s σ H xs us Q I r ⟨a, C, fs, c, u, b, e, hx, T, k, ek, q⟩
  subst e
  obtain ⟨u1, u2, rfl, r1, r2⟩ := vals2 r
  obtain rfl : u1 = Value.ref a := r1
  have e2 := k.eq r2
  subst e2
  obtain ⟨ox, od, J⟩ := hx.at I
  exact PySem.W.kia_one (PySem.W.kitx_exc T.cl T.ga T.gg T.be T.ca O.g O.t T.ob) I.kIn J ek (fun z => nomatch z) fun tk => ⟨.bl b, H, I.tok tk, rfl, q⟩
/-- C(), the class without an __init__ of its own -/
theorem pe_exc0 {bmB : List Value} {B newId initId : String} {x : Str} {p pos : Pos} (F : ExcBaseFacts B newId initId bmB) (q : PySem.W.excIn X.K C bmB newId = true) (gC : X.mg x = some (.ref C)) (kC : PySem.W.keepIn X.K (.ref C) = true) (hg : Gl X x)
    (hdb : (x == ("__debug__" : Str)) = false := by decide) : PE X (.Call (.Name x p) [] [] pos) (fun _ H Q => ∀ a, H a = none → Q (.ref a) (upd H a (exo a C none))) := by
  refine ⟨fun pins s σ H Q I h => wpAny_Call_Name_kw (ld_glob I hg gC ?_ hdb)⟩
  refine PySem.W.callWith_K0 I.kIn kC ?_
  obtain ⟨bm, N, nm, qn, bs, hdct, sn, sub, abt, col, dd, k0, k1, k2, k3, k5, mN, hC, hN, hni, T⟩ := exc_obj I.kIn q
  refine wpAny_call_exc_subT F T hC hN hni (fun h' e hm => ?_) (by show 0 ≤ sizeLine; rw [sizeLine_eq]; omega)
  have hn : H e = none := I.hok.gone hm.new
  obtain ⟨t, ht, _, _⟩ := hm.there
  exact ⟨.ref e, upd H e (exo e C none), I.laidN hm.keeps hm.new hn (exo_ok ht), rfl, h e hn⟩
/-- C(e, ..), the class's own __init__ keeping sp -/
theorem pe_excI {CX : CXT} {bmB : List Value} {B newId initId : String} {x : Str} {fI : Addr} {k : Nat} {fd : FuncData} {ps : List Str} {sp : Sp} {p pos : Pos} {e : Expr} {es : List Expr} {ta : TA} (F : ExcBaseFacts B newId initId bmB)
    (q : PySem.W.excInitIn X.K C bmB newId = true) (iC : PySem.W.findIn X.K (.ref C) "__init__" = some (some (.ref fI))) (tI : PySem.W.typeIn X.K (.ref fI) = some (.type "function")) (kC : PySem.W.keepIn X.K (.ref C) = true)
    (F1 : FnOk X.prog X.w X.K X.mg X.base CX k fI fd ps sp) (hr : Room (k + 1) X.A) (hb : Binds X.K fd ps []) (hx : Passes CX X (fun _ _ _ => False)) (hg : Gl X x) (hm : X.mg x = some (.ref C)) (ha : PA X (e :: es) ta)
    (hdb : (x == ("__debug__" : Str)) = false := by decide) (he : starEach (e :: es) X.env = (false, eval e X.env) :: starEach es X.env := by rfl) (hpl : (backTo pos (starEach es X.env)).any (·.1) = false := by rfl) :
    PE X (.Call (.Name x p) (e :: es) [] pos) (fun σ H Q => ta σ H fun vs H1 => vs.length ≤ 1000 ∧ ∀ a, H1 a = none → sp (.ref a :: vs) (upd H1 a (exo a C none)) (fun v H2 => v = .non ∧ Q (.ref a) H2) (fun _ _ _ => False)) := by
  refine ⟨fun pins s σ H Q I h => wpAny_Call_Name_kw (ld_glob I hg hm ?_ hdb)⟩
  refine PySem.W.callWith_K (h₀ := X.base) I.ok.mod.kin kC (thn (ha.run pos pins s σ H _ I h) fun us s1 ⟨vs, H1, I1, r1, hz, q1⟩ => ⟨I1.kIn, ?_⟩) he hpl
  show wpAny _ _ (call (.ref C) us) _ _ _
  obtain ⟨hp, g, dr, tk, os⟩ := s1
  have sz1 : hp.objs.size ≤ hp.objs.size + 1 := Nat.le_succ _
  have spq := q1 (hp.objs.size + 1) (I1.hok.fresh sz1)
  obtain ⟨nm, N', qn, bs, bm, hdct, sn, sub, abt, col, dd, k0, k1, k2, k3, k5, hC, hT⟩ := PySem.W.excInit_of I1.kIn q
  have kept : ∀ b o, hp.get? b = some o → ((hp.push (PySem.W.kdv_tup us)).push (PySem.HandSPX.excO C hp.objs.size)).get? b = some o := fun b o z => Heap.get?_push_of_some _ (Heap.get?_push_of_some _ z)
  have there : ((hp.push (PySem.W.kdv_tup us)).push (PySem.HandSPX.excO C hp.objs.size)).get? (hp.objs.size + 1) = some (PySem.HandSPX.excO C hp.objs.size) := by heap_get
  have I2 := I1.laid (t' := tk) (a := hp.objs.size + 1) (o := exo (hp.objs.size + 1) C none) kept sz1 (exo_ok there)
  have rl : Vals (V.ref (hp.objs.size + 1) :: vs) (Value.ref (hp.objs.size + 1) :: us) := .cons rfl r1
  have ln : (Value.ref (hp.objs.size + 1) :: us).length = ps.length := by rw [← rl.length]; exact F1.len _ _ _ _ spq
  have uz : us.length ≤ sizeLine := by rw [← Paired.length r1, sizeLine_eq]; omega
  have bd := hb _ (Value.ref (hp.objs.size + 1) :: us) I2.kIn (by rw [List.append_nil]; exact ln)
  rw [List.append_nil] at bd
  refine wpAny_call (PySem.HandSPX.call_own F hT hC (PySem.W.looks_findIn I1.kIn iC) (fun self => PySem.W.bind_fn I1.kIn self tI) uz
    (codeAny_mono (F1.run _ X.stack _ _ ⟨Value.ref (hp.objs.size + 1) :: us, []⟩ _ _ _ (fun _ _ _ => False) (hr.make C us []) (I2.env0.make C us []) bd rl spq) fun r s' z => ?_))
  cases r with
  | error er => exact hx pins σ _ _ er s' I2 z
  | ok fl =>
    cases fl with
    | ret u =>
      obtain ⟨v, H', J, rv, ev, q3⟩ := I2.after z
      subst ev
      exact ⟨rv, .ref (hp.objs.size + 1), H', J, rfl, q3⟩
    | next => exact False.elim z
    | brk => exact False.elim z
    | cont => exact False.elim z

/-- the object's dict is made: what the abstract heap says behind the first store -/
theorem stored {h' : Heap} {hp : Heap} {g : Array GenState} {dr : Drawn} {t t' : Nat} {os : OsState} {dx t1 : Addr} {mA : Str → Option Value} (I : Inv X pins σ H ⟨hp, g, dr, t, os⟩) (e : H a = some (exo a C none)) (hk : ∀ b o, b ≠ a → hp.get? b = some o → h'.get? b = some o)
    (dn : hp.objs.size ≤ dx) (hx : h'.get? a = some ({ cls := .ref C, dict := some dx, data := .fields #[.ref t1, .none, .none, .none, .bool false, .none] } : Obj)) (hn : h'.Ns1 dx mA) (rel : ∀ g, RelO (fs.lookup g) (mA g)) :
    Inv X pins σ (upd (upd H dx (exd dx fs)) a (exo a C (some dx))) ⟨h', g, dr, t', os⟩ := by
  have fr : H dx = none := I.hok.fresh dn
  have old : ∀ {b : Addr} {o : Obj}, hp.get? b = some o → b ≠ dx := fun z => Nat.ne_of_lt (Nat.lt_of_lt_of_le (Heap.lt_size z) dn)
  have na : ∀ {b : Addr}, H b = none → b ≠ a := fun n z => nomatch (show (none : Option HO) = some _ from n.symm.trans ((congrArg H z).trans e))
  have up : ∀ {b : Addr} {u : HO}, H b = some u → b ≠ a → upd (upd H dx (exd dx fs)) a (exo a C (some dx)) b = some u := fun z hb => (upd_ne hb).trans ((upd_ne (ne_of_none z fr)).trans z)
  have U : Un X.fs [] H (upd (upd H dx (exd dx fs)) a (exo a C (some dx))) hp h' :=
    ⟨fun b o q n _ _ => hk b o (na n) q, fun b o q n _ _ => ⟨o.slots, hk b o (na n) q⟩, fun b o q n _ => (upd_ne (na n)).trans ((upd_ne (old q)).trans n),
      fun b o q _ => if hb : b = a then ⟨_, hb ▸ hx⟩ else ⟨o, hk b o hb q⟩, fun b xs q => up q (at_ne e q exo_tup), fun b o v q => up q (at_ne e q exo_frz), fun b ps q => ⟨#[], (up q (at_ne e q exo_tbl)).trans (by simp)⟩⟩
  refine I.un U fun b o q => ?_
  by_cases hb : b = a
  · subst hb
    rw [upd_same] at q
    obtain rfl := Option.some.inj q
    exact exo_ok hx
  rw [upd_ne hb] at q
  by_cases hd : b = dx
  · subst hd
    rw [upd_same] at q
    obtain rfl := Option.some.inj q
    exact exd_ok hn rel
  rw [upd_ne hd] at q
  refine (I.hok b o q).stay (fun c v hc z => hk c v ?_ z) (fun c hc => up hc (at_ne e hc exo_own)) (fun c xs hc => up hc (at_ne e hc exo_tup))
  rcases hc with rfl | hc
  · exact hb
  · exact at_ne e hc exo_own
section
variable {B : String} {bmB : List Value} {f : Str} {y : V} {u : Value} {Q : Unit → Shared → Prop} {E : Value → Shared → Prop} {A : Around} {dx : Addr}
theorem st_new (SF : StoreFacts B bmB "object.__setattr__" "object") (T : EC X.K C) (ov : PySem.W.excOver X.K C bmB = true) (tk : PySem.W.takerIn X.K C f = some none) (I : Inv X pins σ H s) (e : H a = some (exo a C none)) (ry : RelV y u)
    (h : ∀ dx s', H dx = none → dx ≠ a → Inv X pins σ (upd (upd H dx (exd dx [(f, y)])) a (exo a C (some dx))) s' → Q () s') : wpAny (model X.prog X.w) A (setAttr (.ref a) f u) Q E s := by
  obtain ⟨t1, ho⟩ := exo_at I.hok e
  obtain ⟨hp, g, d, t, os⟩ := s
  obtain ⟨cd, hc, hd'⟩ := PySem.W.any_some T.hd
  have az : a ≠ hp.objs.size := Nat.ne_of_lt (Heap.lt_size ho)
  refine PySem.W.set_plain I.kIn (od := none) ⟨ho, rfl, rfl, trivial⟩ T.sa (PySem.W.osa_openX (s := ⟨hp, g, d, t + 1, os⟩) (od := none) SF I.kIn ⟨ho, rfl, rfl, trivial⟩ ov tk fun b => ?_)
  refine wpAny_bind (wpAny_pure (wpAny_bind (PySem.W.instanceDict_exc (t := t1) (c2 := .none) ho ((PySem.W.looks_clsIn I.kIn hc)) hd' ?_)))
  show wpAny _ _ (Builtin.ObjectAttr.storeInDict hp.objs.size (.str f _) f u) _ _ _
  refine PySem.HandSPX.store_in_new ⟨_, #[], _, (Heap.get?_update_ne _ _ _ _ az.symm).trans (Heap.get?_push_at rfl rfl), rfl, fun e he => absurd he (by simp), fun _ => rfl⟩ fun h' tk' hn' hs => ?_
  have ha : (hp.push (PySem.W.dictOf [] 0)).get? a = some _ := Heap.get?_push_of_some _ ho
  refine h hp.objs.size _ (I.hok.fresh (Nat.le_refl _)) az.symm (stored (t1 := t1) I e (fun b o hb q => ?_) (Nat.le_refl _) ?_ hn' (relO_put (fs := []) ry fun _ => True.intro))
  · exact (hs.2 b (Nat.ne_of_lt (Heap.lt_size q))).trans ((Heap.get?_update_ne _ _ _ _ hb).trans (Heap.get?_push_of_some _ q))
  · exact (hs.2 a az).trans (Heap.get?_update_self _ ha rfl)

theorem st_old (SF : StoreFacts B bmB "object.__setattr__" "object") (T : EC X.K C) (ov : PySem.W.excOver X.K C bmB = true) (tk : PySem.W.takerIn X.K C f = some none) (I : Inv X pins σ H s) (e : H a = some (exo a C (some dx))) (ed : H dx = some (exd dx fs)) (hl : fs.length ≤ 900) (ry : RelV y u)
    (h : ∀ s', Inv X pins σ (upd H dx (exd dx ((f, y) :: fs))) s' → Q () s') : wpAny (model X.prog X.w) A (setAttr (.ref a) f u) Q E s := by
  obtain ⟨t1, ho⟩ := exo_at I.hok e
  obtain ⟨mA, hns, rel⟩ := exd_at I.hok ed
  have hw := within_of rel
  obtain ⟨hp, g, d, t, os⟩ := s
  obtain ⟨cd, hc, hd'⟩ := PySem.W.any_some T.hd
  obtain ⟨oD, _, _, hoD, _, _⟩ := hns.count hw
  have Lc : PySem.W.Looks (model X.prog X.w) hp (classData C) cd := PySem.W.looks_clsIn I.kIn hc
  refine PySem.W.set_plain I.kIn (od := some oD) ⟨ho, rfl, rfl, hoD⟩ T.sa (PySem.W.osa_openX (s := ⟨hp, g, d, t + 1, os⟩) (od := some oD) SF I.kIn ⟨ho, rfl, rfl, hoD⟩ ov tk fun b => ?_)
  refine wpAny_bind (wpAny_pure (wpAny_bind (wpAny_bind (wpAny_loadPart ho (wpAny_bind (Lc.at ?_))))))
  rw [hd']
  refine wpAny_pure (a := some dx) ?_
  refine PySem.OEX.store_in_old hns hw (by rw [List.length_map]; omega) fun h' tk' hn' hs => ?_
  have there : ∃ o, h'.get? dx = some o := let ⟨o, _, _, q, _⟩ := hn'; ⟨o, q⟩
  exact h _ (I.write (t' := tk') (x := dx) (e := dx) (o := exd dx ((f, y) :: fs)) (by rw [ed]; exact True.intro) (.inl rfl) (fun b o hb q => (hs.2 b hb).trans q) there (exd_ok hn' (relO_put ry rel)))
end
/-- o.f = e, o an exception of the class at C -/
def tSt (C : Addr) (f : Str) (to te : TE) : TS := fun D σ H => te σ H fun y H1 => to σ H1 fun x H2 => ∃ a : Addr, x = .ref a ∧
  ((H2 a = some (exo a C none) ∧ ∀ dx, H2 dx = none → dx ≠ a → D.nx σ (upd (upd H2 dx (exd dx [(f, y)])) a (exo a C (some dx)))) ∨
    ∃ (dx : Addr) (fs : List (Str × V)), H2 a = some (exo a C (some dx)) ∧ H2 dx = some (exd dx fs) ∧ fs.length ≤ 900 ∧ D.nx σ (upd H2 dx (exd dx ((f, y) :: fs))))
theorem ps_st {B : String} {bmB : List Value} {f : Str} {o e : Expr} {to te : TE} {p' pos : Pos} (SF : StoreFacts B bmB "object.__setattr__" "object") (T : EC X.K C) (ov : PySem.W.excOver X.K C bmB = true) (tk : PySem.W.takerIn X.K C f = some none)
    (ho : PE X o to) (he : PE X e te) (hs : swapsWith e (some (.Attribute o f p')) pos.line X.env = pure false := by rfl) : PS X (.Assign [.Attribute o f p'] e pos) (tSt C f to te) := by
  refine ⟨fun pins s σ H D I h => plainObj_wpAny_Assign_Attribute (thn (he.run pins s σ H _ I h) fun v s1 ⟨y, H1, I1, r1, q1⟩ => thn (ho.run pins s1 σ H1 _ I1 q1) fun u s2 ⟨x, H2, I2, r2, a, ex, q⟩ => ?_) hs⟩
  subst ex
  obtain rfl : u = Value.ref a := r2
  rcases q with ⟨ea, q⟩ | ⟨dx, fs, ea, ed, hl, q⟩
  · exact st_new SF T ov tk I2 ea r1 fun dx s' n ne J => ⟨σ, _, J, q dx n ne⟩
  · exact st_old SF T ov tk I2 ea ed hl r1 fun s' J => ⟨σ, _, J, q⟩
/-- e.n, e an exception with its field n -/
def tXa (K : PySem.W.Frag) (n : Str) (te : TE) : TE := fun σ H Q => te σ H fun x H1 => ∃ (a C : Addr) (fs : List (Str × V)) (v : V), x = .ref a ∧ IsX H1 a C fs ∧ EC K C ∧ PySem.W.findIn K (.ref C) n = some none ∧ fs.lookup n = some v ∧ Q v H1
theorem pe_xa {e : Expr} {te : TE} {pos : Pos} {n : Str} (he : PE X e te) (hb : attributeBase e n X.env (eval e X.env) = eval e X.env := by rfl) : PE X (.Attribute e n pos) (tXa X.K n te) := by
  refine ⟨fun pins s σ H Q I h => attr_of hb (thn (he.run pins s σ H _ I h) fun u s1 ⟨x, H1, I1, rx, a, C, fs, v, ex, hx, T, hno, l, q⟩ => ?_)⟩
  subst ex
  obtain rfl : u = Value.ref a := rx
  rcases hx with ⟨_, rfl⟩ | ⟨dx, ea, ed⟩
  · cases l
  · obtain ⟨t1, ho⟩ := exo_at I1.hok ea
    obtain ⟨mA, hns, hr⟩ := exd_at I1.hok ed
    obtain ⟨od, hod, hl⟩ := lookIn_ns hns
    obtain ⟨w1, hw, rw1⟩ := RelO.some_of (v := v) (o := mA n) (by rw [← l]; exact hr n)
    have J : PySem.W.InstAt s1.heap a _ C (some od) := ⟨ho, rfl, rfl, hod⟩
    exact HandSPX.exc_get I1.kIn J T.ga T.gg T.be (PySem.W.findObj_own T.hd hno rfl (by rw [hl, hw])) (handed_of rw1) ⟨v, H1, I1.tok _, rw1, q⟩
/-- repr of data (lists, tuples of any depth) where nothing is being shown -/
def rRepr (K : PySem.W.Frag) : List V → Hp → VK → Prop := fun xs H Q => ∃ (x : V) (d : PyData), xs = [x] ∧ Dp K H x d ∧ (∃ a, x = .ref a) ∧ d.showable = true ∧ d.hasDict = false ∧ d.depth ≤ 8 ∧ d.shown.length ≤ sizeLine ∧ Q (.str d.shown) H
theorem call_repr (hg : X.A.guards = some []) (hu : X.A.units + 9 < cLine) : CallR X (.builtin "repr") (rRepr X.K) := by
  intro pins s σ H xs us Q I r ⟨x, d, e, hd, ⟨a, ea⟩, h1, h2, h3, h4, q⟩
  subst e
  subst ea
  obtain ⟨u1, rfl, r1⟩ := vals1 r
  obtain ⟨as, rd⟩ := Dp.reads I d (.ref a) u1 hd r1
  obtain rfl : u1 = Value.ref a := r1
  exact repr_of_reads' rd h1 (fun z => absurd (h2.symm.trans z) (by simp)) hg (by omega) (fun _ _ z => z) (fun h' u tk hk => ⟨.str d.shown, H, I.kept (t' := tk) hk, ⟨u, rfl⟩, q⟩) h4
end
end Xv

/-! raise C(e, ..), C an own exception class of any built-in base with an __init__ of its own. -/
namespace Xv
open PySem PySem.Spec PyProof.Rows L2
theorem pmk_excI {X : Cx} {C : Addr} {CX : CXT} {bmB : List Value} {B newId initId : String} {x : Str} {fI : Addr} {k : Nat} {fd : FuncData} {ps : List Str} {sp : Sp} {p pos : Pos} {e : Expr} {es : List Expr} {ta : TA} (F : ExcBaseFacts B newId initId bmB)
    (q : PySem.W.excInitIn X.K C bmB newId = true) (iC : PySem.W.findIn X.K (.ref C) "__init__" = some (some (.ref fI))) (tI : PySem.W.typeIn X.K (.ref fI) = some (.type "function")) (kC : PySem.W.keepIn X.K (.ref C) = true) (rC : Raises X (.ref C))
    (F1 : FnOk X.prog X.w X.K X.mg X.base CX k fI fd ps sp) (hr : Room (k + 1) X.A) (hb : Binds X.K fd ps []) (hx : Passes CX X (fun _ _ _ => False)) (hg : Gl X x) (hm : X.mg x = some (.ref C)) (ha : PA X (e :: es) ta)
    (hdb : (x == ("__debug__" : Str)) = false := by decide) (he : starEach (e :: es) X.env = (false, eval e X.env) :: starEach es X.env := by rfl) (hpl : (backTo pos (starEach es X.env)).any (·.1) = false := by rfl) :
    PMk X (.Call (.Name x p) (e :: es) [] pos) (tMkO C sp [] ta) := by
  intro pins s σ H Q I h
  refine wpAny_Call_Name_kw (ld_glob I hg hm ?_ hdb)
  refine PySem.W.callWith_K (h₀ := X.base) I.ok.mod.kin kC (thn (ha.run pos pins s σ H _ I h) fun us s1 ⟨vs, H1, I1, r1, hz, q1⟩ => ⟨I1.kIn, ?_⟩) he hpl
  show wpAny _ _ (call (.ref C) us) _ _ _
  obtain ⟨hp, g, dr, tk, os⟩ := s1
  have hsz : hp.objs.size ≤ hp.objs.size + 1 := Nat.le_succ _
  have hn : H1 (hp.objs.size + 1) = none := I1.hok.fresh hsz
  have hq := q1 (hp.objs.size + 1) hn
  rw [List.append_nil] at hq
  obtain ⟨nm, N', qn, bs, bm, hdct, sn, sub, abt, col, dd, k0, k1, k2, k3, k5, hC, hT⟩ := PySem.W.excInit_of I1.kIn q
  have kk : ∀ b o, hp.get? b = some o → ((hp.push (PySem.W.kdv_tup us)).push (PySem.HandSPX.excO C hp.objs.size)).get? b = some o := fun b o e => Heap.get?_push_of_some _ (Heap.get?_push_of_some _ e)
  have hget : ((hp.push (PySem.W.kdv_tup us)).push (PySem.HandSPX.excO C hp.objs.size)).get? (hp.objs.size + 1) = some (PySem.HandSPX.excO C hp.objs.size) := by heap_get
  have I2 : Inv X pins σ (upd H1 (hp.objs.size + 1) (exo (hp.objs.size + 1) C none)) ⟨(hp.push (PySem.W.kdv_tup us)).push (PySem.HandSPX.excO C hp.objs.size), g, dr, tk, os⟩ :=
    I1.laid (t' := tk) (a := hp.objs.size + 1) (o := exo (hp.objs.size + 1) C none) (h' := (hp.push (PySem.W.kdv_tup us)).push (PySem.HandSPX.excO C hp.objs.size)) kk hsz (exo_ok hget)
  have rl : Vals (V.ref (hp.objs.size + 1) :: vs) (Value.ref (hp.objs.size + 1) :: us) := .cons rfl r1
  have ln : (Value.ref (hp.objs.size + 1) :: us).length = ps.length := by rw [← rl.length]; exact F1.len _ _ _ _ hq
  have uz : us.length ≤ sizeLine := by rw [← Paired.length r1, sizeLine_eq]; omega
  have bd := hb _ (Value.ref (hp.objs.size + 1) :: us) I2.kIn (by rw [List.append_nil]; exact ln)
  rw [List.append_nil] at bd
  refine wpAny_call (PySem.HandSPX.call_own F hT hC (PySem.W.looks_findIn I1.kIn iC) (fun self => PySem.W.bind_fn I1.kIn self tI) uz
    (codeAny_mono (F1.run _ X.stack _ _ ⟨Value.ref (hp.objs.size + 1) :: us, []⟩ _ _ _ (fun _ _ _ => False) (hr.make C us []) (I2.env0.make C us []) bd rl hq) fun r s' hq' => ?_))
  cases r with
  | error er => exact hx pins σ _ _ er s' I2 hq'
  | ok fl =>
    cases fl with
    | ret u =>
      obtain ⟨v, H2, os2, bare2, un2, hok2, rv, ev, d, fs, ea, ed, hd1, q2⟩ := hq'
      subst ev
      obtain ⟨h2, g2, d2, t2, os'⟩ := s'
      exact ⟨rv, mk_end rC I1 hsz kk un2 hok2 os2 bare2 ea ed hd1 q2⟩
    | next => exact False.elim hq'
    | brk => exact False.elim hq'
    | cont => exact False.elim hq'
end Xv

/-! C(e, ..) and o.m(e, ..) where the def may raise: what it lets out depends on the slots. -/
namespace Xv
open PySem PySem.Spec PyProof.Rows L2
section
variable {X : Cx} {CX : CXT} {k : Nat} {f C : Addr} {fd : FuncData} {ps : List Str} {sp : Sp} {E : L2.St → XK} {x m : Str} {p pos apos : Pos} {e o : Expr} {es : List Expr} {ta : TE} {t : TA}
theorem run_makeS {pins : List (Addr × Obj)} {σ : L2.St} {H : Hp} {s : Shared} {Q : VK} {us : List Value} {vs : List V} (M : Mk X.K C f) (F : FnOk X.prog X.w X.K X.mg X.base CX k f fd ps sp) (hr : Room (k + 1) X.A) (hb : Binds X.K fd ps [])
    (hx : PassesAt CX X σ (E σ)) (I : Inv X pins σ H s) (r : Vals vs us)
    (h : ∀ x dx, H x = none → H dx = none → dx ≠ x → sp (.ref x :: vs) (upd (upd H dx (.own x)) x (.ins C dx [])) (fun v H2 => v = .non ∧ Q (.ref x) H2) (E σ)) :
    wpAny (model X.prog X.w) X.A (call (.ref C) us) (EP X pins σ Q) X.xe s := by
  have hq := h (s.heap.objs.size + 1) s.heap.objs.size (I.hok.fresh (Nat.le_succ _)) (I.hok.fresh (Nat.le_refl _)) (Nat.ne_of_lt (Nat.lt_succ_self _))
  have I2 := Inv.made (C := C) I
  have r2 : Vals (V.ref (s.heap.objs.size + 1) :: vs) (Value.ref (s.heap.objs.size + 1) :: us) := .cons rfl r
  have hl : (Value.ref (s.heap.objs.size + 1) :: us).length = ps.length := by
    rw [← r2.length]
    exact F.len _ _ _ _ hq
  have b := hb _ (Value.ref (s.heap.objs.size + 1) :: us) I2.kIn (by rw [List.append_nil]; exact hl)
  rw [List.append_nil] at b
  refine wpAny_call (make_map (f := f) I.kIn M.makes M.init (beq_iff_eq.mp M.fn) (codeAny_mono (F.run _ X.stack _ _ ⟨Value.ref (s.heap.objs.size + 1) :: us, []⟩ (Value.ref (s.heap.objs.size + 1) :: us) _ _ (E σ) (hr.make C us [])
    (I2.env0.make C us []) b r2 hq) fun r s' hq' => ?_))
  cases r with
  | error e => exact hx pins _ _ e s' I2 hq'
  | ok fl =>
    cases fl with
    | ret u =>
      obtain ⟨v, H', I3, rv, ev, q3⟩ := I2.after hq'
      subst ev
      exact ⟨rv, ⟨V.ref (s.heap.objs.size + 1), H', I3, rfl, q3⟩⟩
    | next => exact False.elim hq'
    | brk => exact False.elim hq'
    | cont => exact False.elim hq'
/-- C(..), its __init__ may raise -/
def tMakeS (C : Addr) (sp : Sp) (E : L2.St → XK) (t : TA) : TE := fun σ H Q => t σ H fun vs H1 => ∀ x dx, H1 x = none → H1 dx = none → dx ≠ x →
  sp (.ref x :: vs) (upd (upd H1 dx (.own x)) x (.ins C dx [])) (fun v H2 => v = .non ∧ Q (.ref x) H2) (E σ)
theorem pe_makeS (M : Mk X.K C f) (F : FnOk X.prog X.w X.K X.mg X.base CX k f fd ps sp) (hr : Room (k + 1) X.A) (hg : Gl X x) (hm : X.mg x = some (.ref C)) (hb : Binds X.K fd ps []) (hx : ∀ σ, PassesAt CX X σ (E σ))
    (ha : PA X (e :: es) t) (hdb : (x == ("__debug__" : Str)) = false := by decide) (he : starEach (e :: es) X.env = (false, eval e X.env) :: starEach es X.env := by rfl) (hpl : (backTo pos (starEach es X.env)).any (·.1) = false := by rfl) :
    PE X (.Call (.Name x p) (e :: es) [] pos) (tMakeS C sp E t) := by
  refine ⟨fun pins s σ H Q I h => ?_⟩
  refine wpAny_Call_Name_kw (ld_glob I hg hm ?_ hdb)
  refine PySem.W.callWith_K (h₀ := X.base) I.ok.mod.kin M.kp (thn (ha.run pos pins s σ H _ I h) fun us s1 ⟨vs, H1, I1, r, q⟩ => ⟨I1.kIn, ?_⟩) he hpl
  exact run_makeS M F hr hb (hx σ) I1 r q
/-- o.m(..), m may raise -/
def tMethE (C : Addr) (m : Str) (sp : Sp) (E : L2.St → XK) (ta : TE) (t : TA) : TE := fun σ H Q => ta σ H fun x H1 => ∃ a dx fs, x = .ref a ∧ H1 a = some (.ins C dx fs) ∧ fs.lookup m = none ∧
  t σ H1 fun vs H2 => sp (x :: vs) H2 Q (E σ)
theorem pe_methE {pl : Sem Bool} (he : PE X o ta) (c : Cls X.K C) (hm : Meth X.K C m f) (F : FnOk X.prog X.w X.K X.mg X.base CX k f fd ps sp) (hr : Room k X.A) (hb : Binds X.K fd ps []) (hx : ∀ σ, PassesAt CX X σ (E σ)) (ha : PA X (e :: es) t)
    (hst : starEach (e :: es) X.env = (false, eval e X.env) :: starEach es X.env := by rfl) (hpl : (backTo pos (starEach es X.env)).any (·.1) = false := by rfl)
    (ht : eval (.Call (.Attribute o m apos) (e :: es) [] pos) X.env = (do
      let ov ← eval o X.env
      standAt apos.atName
      let (f, first) ← holding [ov] (getMethod ov m pl)
      callWith pos f first (backTo pos (starEach (e :: es) X.env)) (backToKw pos (keywordEach [] X.env))) := by rfl) :
    PE X (.Call (.Attribute o m apos) (e :: es) [] pos) (tMethE C m sp E ta t) := by
  refine ⟨fun pins s σ H Q I h => ?_⟩
  refine PySem.W.methodCall_KW (pl := pl) (thn (he.run pins s σ H _ I h) fun u s1 ⟨x, H1, I1, rx, a, dx, fs, ex, ea, l, q⟩ => ?_) ht
  subst ex
  obtain rfl : u = Value.ref a := rx
  refine getmeth_ok I1 ea c hm l ?_
  refine PySem.W.callWith_K (first := [.ref a]) (h₀ := X.base) I.ok.mod.kin hm.kp (thn (ha.run pos pins s1 σ H1 _ I1 q) fun us s2 ⟨vs, H2, I2, r, q2⟩ => ⟨I2.kIn, ?_⟩) hst hpl
  exact run_fnS (us := .ref a :: us) (vs := .ref a :: vs) F hr hb (hx σ) I2 (.cons rfl r) q2
end
end Xv

/-! Operators and comparisons that a class of the text defines, between two of its instances; ~ of one. -/
namespace Ow
open PySem PySem.Spec PyProof.Rows L2
section
variable {X : Cx} {n : Nat} {C f : Addr} {fd : FuncData} {ps : List Str} {sp : Sp}
/-- what a class must tell for one of its special defs -/
structure OwnFn (X : Cx) (n : Nat) (C : Addr) (nm : Str) (f : Addr) (fd : FuncData) (ps : List Str) (sp : Sp) : Prop where
  ok : FnOk X.prog X.w X.K X.mg X.base CX0 n f fd ps sp
  rm : Room n X.A
  at_ : PySem.W.findIn X.K (.ref C) nm = some (some (.ref f))
  fn : PySem.W.isFn X.K (.ref f) = true
  bd : Binds X.K fd ps []
theorem backs {Q : VK} {pins : List (Addr × Obj)} {σ : L2.St} {u : Value} {s : Shared} (h : EP X pins σ Q u s) : PySem.W.CmpBack (EP X pins σ Q) u s := by
  cases u with
  | notImplemented =>
    obtain ⟨v, H, _, r, _⟩ := h
    cases v with
    | non => exact nomatch (show Value.notImplemented = Value.none from r)
    | bl b => exact nomatch (show Value.notImplemented = Value.bool b from r)
    | int i => obtain ⟨t, e⟩ := r; exact nomatch e
    | str x => obtain ⟨t, e⟩ := r; exact nomatch e
    | byt b => obtain ⟨t, e⟩ := r; exact nomatch e
    | flt b => obtain ⟨t, e⟩ := r; exact nomatch e
    | ref a => exact nomatch (show Value.notImplemented = Value.ref a from r)
    | ty m => exact nomatch (show Value.notImplemented = Value.type m from r)
  | _ => exact h
theorem OwnFn.run {nm : Str} (O : OwnFn X n C nm f fd ps sp) {pins : List (Addr × Obj)} {σ : L2.St} {H : Hp} {s : Shared} {Q : VK} {vs : List V} {us : List Value} (I : Inv X pins σ H s) (r : Vals vs us) (h : sp vs H Q E0) :
    wpAny (model X.prog X.w) X.A (call (.ref f) us) (EP X pins σ Q) X.xe s :=
  run_fn O.ok O.rm O.bd .nil pass0 I r (by rw [List.append_nil]; exact h)
/-- the two operands are instances of C -/
def rOwn (C : Addr) (sp : Sp) : R2 := fun x y H Q => ∃ a b dx dy fs gs, x = .ref a ∧ y = .ref b ∧ H a = some (.ins C dx fs) ∧ H b = some (.ins C dy gs) ∧ sp [.ref a, .ref b] H Q E0
def rOwn1 (C : Addr) (sp : Sp) : V → Hp → VK → Prop := fun x H Q => ∃ a dx fs, x = .ref a ∧ H a = some (.ins C dx fs) ∧ sp [.ref a] H Q E0
theorem op_own {op : Operator} (O : OwnFn X n C (PySem.dunder op.info.2) f fd ps sp) (hc : PySem.W.selfFirst X.K C = true) : OpR X (binaryOp op) (rOwn C sp) := by
  intro pins s σ H x y v u Q I rx ry hq
  obtain ⟨a, b, dx, dy, fs, gs, rfl, rfl, ha, hb, h⟩ := hq
  cases rx
  cases ry
  obtain ⟨mA, J, _⟩ := ins_get I.hok ha
  obtain ⟨mB, J', _⟩ := ins_get I.hok hb
  obtain ⟨od, J, _⟩ := J.look
  obtain ⟨od', J', _⟩ := J'.look
  obtain ⟨m, F⟩ := I.fr
  exact PySem.W.binop_K F I.ok.mod.kin J J'.type hc O.at_ O.fn (wpAny_mono (O.run (vs := [.ref a, .ref b]) I (.cons rfl (.cons rfl .nil)) h) (fun _ _ z => backs z) fun _ _ z => z)
theorem un_own (O : OwnFn X n C "__invert__" f fd ps sp) : UnR X (unaryOp .Invert) (rOwn1 C sp) := by
  intro pins s σ H x v Q I rx hq
  obtain ⟨a, dx, fs, rfl, ha, h⟩ := hq
  cases rx
  obtain ⟨mA, J, _⟩ := ins_get I.hok ha
  obtain ⟨od, J, _⟩ := J.look
  obtain ⟨m, F⟩ := I.fr
  exact PySem.W.ksp_inv F I.ok.mod.kin J O.at_ O.fn (O.run (vs := [.ref a]) I (.cons rfl .nil) h)
/-- a <= b and the like -/
theorem cmp_own {op : CmpOp} (he : ∀ u v, compareOp op u v = richCompare op u v) (O : OwnFn X n C (cmpInfo op).2.1 f fd ps sp) : OpR X (compareOp op) (rOwn C sp) := by
  intro pins s σ H x y v u Q I rx ry hq
  obtain ⟨a, b, dx, dy, fs, gs, rfl, rfl, ha, hb, h⟩ := hq
  cases rx
  cases ry
  obtain ⟨mA, J, _⟩ := ins_get I.hok ha
  obtain ⟨mB, J', _⟩ := ins_get I.hok hb
  obtain ⟨od, J, _⟩ := J.look
  obtain ⟨od', J', _⟩ := J'.look
  obtain ⟨m, F⟩ := I.fr
  rw [he]
  exact PySem.W.cmp_K (tb := .ref C) O.rm.units0 F I.ok.mod.kin J J'.type (by simp [PySem.W.notFirst]) O.at_ O.fn (wpAny_mono (O.run (vs := [.ref a, .ref b]) I (.cons rfl (.cons rfl .nil)) h) (fun _ _ z => backs z) fun _ _ z => z)
theorem op_own_le (O : OwnFn X n C "__le__" f fd ps sp) : OpR X (compareOp .LtE) (rOwn C sp) := cmp_own (fun _ _ => rfl) O
theorem op_own_lt (O : OwnFn X n C "__lt__" f fd ps sp) : OpR X (compareOp .Lt) (rOwn C sp) := cmp_own (fun _ _ => rfl) O
theorem op_own_eq (O : OwnFn X n C "__eq__" f fd ps sp) : OpR X (compareOp .Eq) (rOwn C sp) := cmp_own (fun _ _ => rfl) O
/-! != of two instances: object.__ne__ asks the class's own == -/
def rOwnNe (C : Addr) (sp : Sp) : R2 := fun x y H Q => ∃ a b dx dy fs gs, x = .ref a ∧ y = .ref b ∧ H a = some (.ins C dx fs) ∧ H b = some (.ins C dy gs) ∧ sp [.ref a, .ref b] H (fun v H' => ∃ k, v = .bl k ∧ Q (.bl (!k)) H') E0
theorem ne_bind (u : Value) : bindSpecial (.builtin "object.__ne__") u = pure (.builtin "object.__ne__", [u]) := by kernel_rfl
theorem op_own_ne (ok : FnOk X.prog X.w X.K X.mg X.base CX0 n f fd ps sp) (rm : Room (n + 1) X.A) (at_ : PySem.W.findIn X.K (.ref C) "__eq__" = some (some (.ref f))) (fn : PySem.W.isFn X.K (.ref f) = true) (bd : Binds X.K fd ps [])
    (ne_ : PySem.W.findIn X.K (.ref C) "__ne__" = some (some (.builtin "object.__ne__"))) (hm : PySem.W.mroIn X.K C (.type "object") = some true) : OpR X (compareOp .NotEq) (rOwnNe C sp) := by
  intro pins s σ H x y v u Q I rx ry hq
  obtain ⟨a, b, dx, dy, fs, gs, rfl, rfl, ha, hb, h⟩ := hq
  cases rx
  cases ry
  obtain ⟨mA, J, _⟩ := ins_get I.hok ha
  obtain ⟨mB, J', _⟩ := ins_get I.hok hb
  obtain ⟨od, J, _⟩ := J.look
  obtain ⟨od', J', _⟩ := J'.look
  have K' := I.kIn
  have hl := ok.len _ _ _ _ h
  have e0 : Env0 X.prog X.w X.K X.mg X.base X.A.in1 X.stack s H := by
    have e := I.env0
    exact ⟨e.frames, e.mod, e.bs, e.bsz, e.funs, e.frf, e.hok, e.bare⟩
  have r2 : Vals [V.ref a, V.ref b] [Value.ref a, Value.ref b] := .cons rfl (.cons rfl .nil)
  have go : wpAny (model X.prog X.w) X.A.in1 (call (.ref f) [.ref a, .ref b]) (fun v s' => ∃ k, v = .bool k ∧ EP X pins σ Q (.bool (!k)) s') X.xe s := by
    refine wpAny_call (codeAny_mono (ok.run X.A.in1 X.stack s H ⟨[.ref a, .ref b], []⟩ [.ref a, .ref b] [.ref a, .ref b] _ E0 rm.in1 e0 (by
      have z := bd s [.ref a, .ref b] I.kIn (by simpa using hl)
      simpa using z) r2 h) fun r s' hq => ?_)
    cases r with
    | error e => exact pass0 pins σ H s e s' I hq
    | ok fl =>
      cases fl with
      | ret w =>
        obtain ⟨z, H', I', rz, k, ez, q⟩ := I.after hq
        subst ez
        cases rz
        exact ⟨k, rfl, .bl (!k), H', I', rfl, q⟩
      | next => exact False.elim hq
      | brk => exact False.elim hq
      | cont => exact False.elim hq
  show wpAny (model X.prog X.w) X.A (richCompare .NotEq (.ref a) (.ref b)) (EP X pins σ Q) X.xe s
  have one : wpAny (model X.prog X.w) X.A (tryCompare (.ref a) "__ne__" (.ref b)) (fun r s' => ∃ v, r = some v ∧ EP X pins σ Q v s') X.xe s := by
    unfold tryCompare
    refine wpAny_bind (m := callSpecialIfBound? (.ref a) "__ne__" [.ref b]) ?_
    simp only [callSpecialIfBound?, bindSpecialIfBound?]
    refine wpAny_holding (wpAny_bind (wpAny_bind (wpAny_bind (J.type.here ((PySem.W.looks_findIn K' ne_).here ?_)))))
    refine wpAny_bind (wpAny_askSetting (wpAny_ite ?_))
    have fin : wpAny (model X.prog X.w) X.A (call (.builtin "object.__ne__") ([.ref a] ++ [.ref b]) >>= fun v => pure (some v)) (fun r s' => wpAny (model X.prog X.w) X.A (match r with | some .notImplemented | none => pure none | some v => pure (some v)) (fun r s' => ∃ v, r = some v ∧ EP X pins σ Q v s') X.xe s') X.xe s := by
      refine wpAny_bind (wpAny_call (codeAny_call_builtin PySem.F.cmp_object.ne.plain PySem.F.cmpEntry_ne (PySem.W.check_slot PySem.F.cmpKind_ne PySem.F.cmpSplit_ne (J.type.andThen (PySem.W.looks_mroIn K' hm)) (PySem.F.cmpArgs_ne _ _) ?_)))
      unfold Builtin.«object.__ne__»
      refine wpAny_bind (m := slotArgs "__ne__" 1 _) (wpAny_pure ?_)
      refine wpAny_bind (m := cRoomFor _ _) (wpAny_cRoomFor rm.in1.units0 ?_)
      refine wpAny_bind (m := callSpecialIfBound? (.ref a) (PySem.Str.ofString "__eq__") _) (PySem.W.ifBound_K K' J at_ fn (wpAny_mono go (fun r s' hq => ?_) fun _ _ y => y))
      obtain ⟨k, rfl, q⟩ := hq
      refine wpAny_bind (m := truthy (.bool k)) (wpAny_truthy_bool ?_)
      exact wpAny_pure (wpAny_pure (wpAny_pure ⟨_, rfl, q⟩))
    split
    · exact wpAny_bind ((PySem.W.Looks.of_pure (ne_bind _)).here (wpAny_pure (by exact fin)))
    · exact wpAny_tryCatch (wpAny_bind ((PySem.W.Looks.of_pure (ne_bind _)).here (wpAny_pure (by exact fin))))
  unfold richCompare
  simp only [oneThing_ref]
  refine wpAny_holding (wpAny_bind (wpAny_cRoomFor rm.units0 ?_))
  refine wpAny_bind (J.type.here (wpAny_bind (J'.type.here ?_)))
  rw [show (Value.ref C != Value.ref C) = false from by simp]
  simp only [Bool.false_eq_true, if_false]
  refine wpAny_bind (wpAny_pure ?_)
  simp only [Bool.false_eq_true, if_false]
  refine wpAny_bind (wpAny_mono one (fun r s' z => ?_) fun _ _ e => e)
  obtain ⟨v, rfl, hq⟩ := z
  exact wpAny_pure hq
end
end Ow

/-! for i, x in enumerate(a tuple) -/
namespace Ow
open PySem PySem.Spec PyProof.Rows L2
theorem enum_new1 {v : Value} {o : Obj} {H : Heap → Prop} (B : Begins v o H) :
    Meets (Builtin.«enumerate.__new__» ⟨[.type "enumerate", v], []⟩) (fun _ R s => H s.heap ∧
      R (.ok (.ret (.ref (s.heap.push o).objs.size))) { s with heap := (s.heap.push o).push { cls := .type "enumerate", data := .fields #[.none, .bool false, .ref s.heap.objs.size, rawInt 0, .none, .none] } }) :=
  .of_wp fun prog w A R s h => by
    obtain ⟨hp, g, d, tk, os⟩ := s
    obtain ⟨h1, h⟩ := h
    have hsub := sub_enumerate
    have q1 : ∀ {A' : Around} {E : Value → Shared → Prop} {Q : Value → Shared → Prop}, Q (.ref hp.objs.size) ⟨hp.push o, g, d, tk, os⟩ → wpAny (model prog w) A' (pyIter v) Q E ⟨hp, g, d, tk, os⟩ :=
      fun q => B.iter prog w _ _ ⟨hp, g, d, tk, os⟩ _ h1 q
    wp_walk using q1
    refine wpAny_stack_any fun st => wpAny_pure ?_
    split
    · rename_i c _ _ _ _ _
      cases (c == Value.type "enumerate")
      · wp_walk using q1
        exact ⟨_, rfl, h⟩
      · wp_walk using q1
        exact ⟨_, rfl, h⟩
    · wp_walk using q1
      exact ⟨_, rfl, h⟩
section
variable {prog : Program} {w : World} {A : Around} {E : Value → Shared → Prop} {s : Shared}
theorem enum_tup {l : Addr} {items : Array Value} {Q : Value → Shared → Prop} (hL : s.heap.IsTuple l items)
    (h : ∀ h', IsEnum h' (s.heap.objs.size + 1) s.heap.objs.size 0 .none → h'.IsTupleIter s.heap.objs.size l 0 → h'.objs.size = s.heap.objs.size + 2 →
      (∀ b o, s.heap.get? b = some o → h'.get? b = some o) → Q (.ref (s.heap.objs.size + 1)) { s with heap := h' }) :
    wpAny (model prog w) A (call (.type "enumerate") [.ref l]) Q E s := by
  refine callType_new F.called_enumerate (by decide) (F.typeCall_enumerate_1 _) (F.newCall_enumerate_1 _) (fun obj => F.args_object_init_2 obj _) F.entry_enumerate_new
    (enum_new1 (begins_tuple l items)) ⟨hL, ?_⟩
  have hz : (s.heap.push { cls := .type "tuple_iterator", data := .fields #[.ref l, .int 0 0] }).objs.size = s.heap.objs.size + 1 := Heap.size_push ..
  show _ ∧ _
  rw [hz]
  have he : IsEnum ((s.heap.push { cls := .type "tuple_iterator", data := .fields #[.ref l, .int 0 0] }).push
      { cls := .type "enumerate", data := .fields #[.none, .bool false, .ref s.heap.objs.size, rawInt 0, .none, .none] }) (s.heap.objs.size + 1) s.heap.objs.size 0 .none := by
    have z := Heap.get?_push_size (s.heap.push { cls := .type "tuple_iterator", data := .fields #[.ref l, .int 0 0] })
      (o := { cls := .type "enumerate", data := .fields #[.none, .bool false, .ref s.heap.objs.size, rawInt 0, .none, .none] }) rfl
    rw [hz] at z
    exact z
  refine ⟨⟨_, he, rfl⟩, h _ he ⟨_, Heap.get?_push_of_some _ (Heap.get?_push_size _ rfl), rfl, rfl⟩ (by rw [Heap.size_push, hz]) fun b o x => Heap.get?_push_of_some _ (Heap.get?_push_of_some _ x)⟩
end
/-- the tuple at a, each item in a new pair -/
def IteT (K : PySem.W.Frag) (a : Addr) : It :=
  ⟨fun i H => ∃ (xs : List V) (x : V), SqT K H a xs ∧ xs[i]? = some x, fun i H v H' => ∃ T x, v = .ref T ∧ H T = none ∧ H' = upd H T (.tup [.int (i : Nat), x]) ∧ ∀ xs, SqT K H a xs → xs[i]? = some x, fun i H => ∃ xs : List V, SqT K H a xs ∧ xs.length = i⟩
theorem turn_enumT {P : Program} {w : World} {K : PySem.W.Frag} {elts : List Expr} {kk : Nat} {tpos : Pos} (a e it : Addr) :
    Turn P w K (.Tuple elts kk tpos) (IteT K a) [e, it] e (fun i h => (∃ old, IsEnum h e it ((i : Nat) : Int) old) ∧ h.IsTupleIter it a i ∧ e ≠ it ∧ a ≠ it ∧ e ≠ a) where
  mem := by simp
  obj := fun i h st b hb => by
    obtain ⟨⟨old, he⟩, ⟨o, ho, hc, hd⟩, _⟩ := st
    have e' : b = e ∨ b = it := by simpa using hb
    rcases e' with z | z
    · rw [z]; exact ⟨_, he, fun v q => nomatch q⟩
    · rw [z]; exact ⟨o, ho, fun v q => by rw [hd] at q; cases q⟩
  keep := fun i h h' st k => by
    obtain ⟨⟨old, he⟩, hi, hne⟩ := st
    exact ⟨⟨old, k e (by simp) _ he⟩, hi.at fun o q => k it (by simp) o q, hne⟩
  item := by
    intro X hP hw hK hc i pins s σ H E I hf st hg
    subst hP hw hK
    obtain ⟨⟨old, he⟩, hit, hne, hai, hea⟩ := st
    obtain ⟨xs, x, hq, hx⟩ := hg
    obtain ⟨its, rv, p, hz⟩ := I.tuple hq
    obtain ⟨u, hu, ru⟩ := rv.get hx
    have p : s.heap.IsTuple a its.toArray := p
    have hel : e < s.heap.objs.size := Heap.lt_size he
    have hil : it < s.heap.objs.size := by obtain ⟨_, q, _⟩ := hit; exact Heap.lt_size q
    have hlt : i < its.toArray.size := by
      have z : i < its.length := List.getElem?_eq_some_iff.mp hu |>.1
      simpa using z
    refine wpAny_pyNext_enum_itemD (Draws.tuple (A := X.A.in1) (show X.A.in1.handled = none from I.ok.hd hc) it a hai its.toArray) he ⟨hit, p⟩ hlt hne (by simp [hne, hea]) fun u' h' tk hP ho hst' hT hsz hk => ?_
    have eu : u' = u := by
      have z : its.toArray[i]? = some u := by simpa using hu
      rw [z] at hP
      exact (Option.some.inj hP).symm
    subst eu
    have hit' := hst'.1
    refine ⟨_, rfl, wpAny_letOwnedTupleGo_enum (s := { s with heap := h', toks := tk + 1 }) ho fun h'' he' sb => ?_⟩
    have hT2 : h''.get? s.heap.objs.size = some { cls := .type "tuple", data := .seq #[.int i tk, u'] } := (sb.2 _ (Nat.ne_of_gt hel)).trans hT
    have new : ObjOk X.prog X.w (upd H s.heap.objs.size (.tup [.int (i : Nat), x])) h'' s.heap.objs.size (.tup [.int (i : Nat), x]) :=
      ⟨by show 2 ≤ sizeLine; decide, [.int i tk, u'], .cons ⟨_, rfl⟩ (.cons ru .nil), ⟨_, hT2, rfl, _, rfl⟩⟩
    have I1 : Inv X pins σ (upd H s.heap.objs.size (.tup [.int (i : Nat), x])) { s with heap := h'', toks := tk + 1 } :=
      I.turnedNew (ch := [e, it]) (fun b ob hb q => (sb.2 b (fun z => hb (by simp [z]))).trans (hk b ob (fun z => hb (by simp [z])) (fun z => hb (by simp [z])) q)) hf (Nat.le_refl _) new
    refine ⟨.ref s.heap.objs.size, _, I1, rfl, ⟨_, x, rfl, I.hok.fresh (Nat.le_refl _), rfl, fun ys hy => by rw [I.tuple_inj hy hq]; exact hx⟩, ⟨⟨u', ?_⟩, hit'.at fun o q => (sb.2 it (Ne.symm hne)).trans q, hne, hai, hea⟩, fun b hb => ?_⟩
    · have e1 : ((i + 1 : Nat) : Int) = (i : Int) + 1 := by omega
      rw [e1]; exact he'
    · have hb' : b < s.heap.objs.size := by
        have e' : b = e ∨ b = it := by simpa using hb
        rcases e' with z | z
        · rw [z]; exact hel
        · rw [z]; exact hil
      rw [upd_ne (Nat.ne_of_lt hb')]
      exact (hf b hb).1
  done := by
    intro X hP hw hK hc i pins s σ H E I hf st hg
    subst hP hw hK
    obtain ⟨⟨old, he⟩, hit, hne, hai, hea⟩ := st
    obtain ⟨xs, hq, hx⟩ := hg
    obtain ⟨its, rv, p, hz⟩ := I.tuple hq
    have p : s.heap.IsTuple a its.toArray := p
    obtain ⟨f0, f1, f2, f3, f4, f5⟩ := hf it (by simp)
    have hl := rv.length
    have ez : i = its.toArray.size := by simp; omega
    subst ez
    exact wpAny_pyNext_enum_endD (Draws.tuple (A := X.A.in1) (show X.A.in1.handled = none from I.ok.hd hc) it a hai its.toArray) he ⟨hit, p⟩ fun h' eb => ⟨rfl, I.turned (t' := s.toks) (fun b o hb q => eb b o hb q) f0 f1 f3 f4 f5⟩
  self := fun A i s Q E st h => let ⟨⟨_, he⟩, _⟩ := st; wpAny_pyIter_enum he h
def iEnumT (K : PySem.W.Frag) (ta : TA) : TI := fun σ H R => ta σ H fun vs H1 => ∃ a xs, vs = [.ref a] ∧ SqT K H1 a xs ∧ R (IteT K a) H1
theorem pi_enumT {X : Cx} {e : Expr} {ta : TA} {p pos tpos : Pos} {elts : List Expr} {kk : Nat} (hg : Gl X "enumerate") (hm : X.mg "enumerate" = none) (ha : PA X [e] ta) (hs : starEach [e] X.env = [(false, eval e X.env)] := by rfl) :
    PI X (.Tuple elts kk tpos) (.Call (.Name "enumerate" p) [e] [] pos) (iEnumT X.K ta) := by
  refine ⟨fun pins s σ H R I h => ?_⟩
  refine Call_ (ld_blt I hg hm boot_enumerate (PyProof.Rows.callWith_type1 (thn (ha.run pos pins s σ H _ I h) fun us s1 ⟨vs, H1, I1, r1, q1⟩ => ?_) hs rfl))
  obtain ⟨a, xs, ex, hq, q⟩ := q1
  subst ex
  cases r1 with
  | cons r rr =>
    cases rr
    cases r
    obtain ⟨its, rv, p', hz⟩ := I1.tuple hq
    have p' : s1.heap.IsTuple a its.toArray := p'
    have al : a < s1.heap.objs.size := by obtain ⟨o, q, _⟩ := p'; exact Heap.lt_size q
    refine enum_tup p' fun h' he hit hsz hk => wpAny_pyIter_enum he ?_
    have I2 : Inv X pins σ H1 { s1 with heap := h' } := I1.kept (t' := s1.toks) hk
    refine ⟨s1.heap.objs.size + 1, [s1.heap.objs.size + 1, s1.heap.objs.size], _, _, H1, rfl, I2, turn_enumT a (s1.heap.objs.size + 1) s1.heap.objs.size, ⟨⟨.none, he⟩, hit, Nat.succ_ne_self _, Nat.ne_of_lt al, Nat.ne_of_gt (Nat.lt_succ_of_lt al)⟩, fun b hb => ?_, q⟩
    have e' : b = s1.heap.objs.size + 1 ∨ b = s1.heap.objs.size := by simpa using hb
    have hle : s1.heap.objs.size ≤ b := by
      rcases e' with z | z
      · rw [z]; exact Nat.le_add_right _ _
      · rw [z]; exact Nat.le_refl _
    exact I1.fpOk hle (I1.hok.fresh hle)
end Ow

/-! len(set(xs)), xs a list or a tuple of unlike texts -/
namespace Ow
open PySem PySem.Spec PyProof.Rows L2
theorem nd_take {xs : List Str} (nd : xs.Nodup) {i : Nat} (hi : i < xs.length) : (xs.take i).any (· == xs.getD i Str.empty) = false := by
  have e : xs.getD i Str.empty = xs[i] := by rw [List.getD_eq_getElem?_getD, List.getElem?_eq_getElem hi]; rfl
  refine Bool.eq_false_iff.mpr fun h => ?_
  obtain ⟨y, hy, q⟩ := List.any_eq_true.mp h
  rw [e] at q
  have ey : y = xs[i] := beq_iff_eq.mp q
  obtain ⟨j, hj, e3⟩ := List.getElem_of_mem hy
  have hl : j < i := by rw [List.length_take] at hj; omega
  rw [List.getElem_take] at e3
  exact List.pairwise_iff_getElem.mp nd j i (Nat.lt_trans hl hi) hi hl (e3.trans ey)
theorem any_take {xs : List Str} {i : Nat} (hi : i < xs.length) (k : Str) : (xs.take (i + 1)).any (· == k) = ((xs.take i).any (· == k) || decide (k = xs.getD i Str.empty)) := by
  have e : xs.getD i Str.empty = xs[i] := by rw [List.getD_eq_getElem?_getD, List.getElem?_eq_getElem hi]; rfl
  rw [List.take_succ, List.getElem?_eq_getElem hi, List.any_append, e]
  congr 1
  show ((xs[i] == k) || false) = decide (k = xs[i])
  rw [Bool.or_false]
  by_cases z : k = xs[i]
  · rw [z]; simp
  · rw [decide_eq_false z]; exact beq_eq_false_iff_ne.mpr fun y => z y.symm
section
variable {prog : Program} {w : World} {A : Around} {R : Result → Shared → Prop} {I : Addr} {fp wr : List Addr} {G : Array GenState → Array GenState → Prop} {n : Nat} {P : Nat → Value → Prop} {St : Nat → Shared → Prop}
theorem grow_set (Wk : WalksS prog w A.in1 I fp wr G n P St) (D : Addr) (dF : D ∉ fp) (xs : List Str) (len : xs.length = n) (nd : xs.Nodup) (few : n < 64) (val : ∀ i v, P i v → ∃ t, v = .str (xs.getD i Str.empty) t) :
    ∀ (k i : Nat) (s : Shared), n - i = k → i ≤ n → St i s → s.heap.SetOf (PySem.strKind prog w) D (fun z => (xs.take i).any (· == z)) i →
      (∀ s', Moved (D :: wr) G s s' → s'.heap.SetOf (PySem.strKind prog w) D (fun z => (xs.take n).any (· == z)) n → R (.ok (.ret .none)) s') → codeAny (model prog w) A (.builtin "set.update.loop" ⟨[.ref D, .ref I], []⟩) R s := by
  have dW : D ∉ wr := fun z => dF (Wk.sub _ z)
  have up : ∀ b ∈ wr, b ∈ D :: wr := fun b z => List.mem_cons_of_mem _ z
  intro k
  induction k with
  | zero =>
    intro i s hk hi st hS fin
    have ein : i = n := by omega
    subst ein
    refine codeAny_builtin PyProof.Rows.F.entry_set_update_loop ?_
    rw [Around.under_plainId PyProof.Rows.F.plain_set_update_loop _]
    show wpAny _ A.in1 (pyNext (.ref I) >>= _) _ _ s
    refine wpAny_bind (Wk.done s _ _ st fun s' mv => wpAny_pure (fin s' (mv.mono up) ?_))
    obtain ⟨o, es, ep, t, ho, more⟩ := hS
    exact ⟨o, es, ep, t, mv.heap D _ dW ho, more⟩
  | succ k ih =>
    intro i s hk hi st hS fin
    have lt : i < n := by omega
    have lx : i < xs.length := by omega
    refine codeAny_builtin PyProof.Rows.F.entry_set_update_loop ?_
    rw [Around.under_plainId PyProof.Rows.F.plain_set_update_loop _]
    show wpAny _ A.in1 (pyNext (.ref I) >>= _) _ _ s
    refine wpAny_bind (Wk.item i s _ _ lt st fun v s' pv st' mv => ?_)
    obtain ⟨t, rfl⟩ := val i v pv
    have hS' : s'.heap.SetOf (PySem.strKind prog w) D (fun z => (xs.take i).any (· == z)) i := by
      obtain ⟨o, es, ep, tb, ho, more⟩ := hS
      exact ⟨o, es, ep, tb, mv.heap D _ dW ho, more⟩
    show wpAny _ A.in1 (holding [Value.str (xs.getD i Str.empty) t] (setAdd D (.str (xs.getD i Str.empty) t)) >>= _) _ _ s'
    refine wpAny_bind (wpAny_holding ?_)
    unfold setAdd
    refine wpAny_holding (wpAny_bind ((PySem.strKind prog w).pyHash (k := xs.getD i Str.empty) (strKind_is _ _ _ _) ?_))
    refine wpAny_setAddHashed_of (knd := PySem.strKind prog w) (s := { s' with toks := s'.toks + 1 }) (strKind_is _ _ _ _) rfl hS' (by unfold scanBound; omega) fun h' sb grown => ?_
    have grown' : h'.SetOf (PySem.strKind prog w) D (fun z => (xs.take (i + 1)).any (· == z)) (i + 1) :=
      PyProof.Rows.SetOf_congr grown (fun z => (any_take lx z).symm) (by rw [nd_take nd lx]; rfl)
    refine wpAny_pure ⟨plainId_quiet PyProof.Rows.F.plain_set_update_loop _, ih (i + 1) _ (by omega) lt (Wk.frame _ s' _ _ st' (Nat.le_succ _) fun b hb o e => ?_) grown' fun s'' mv2 done => ?_⟩
    · rw [sb.2 b (fun z : b = D => dF (by rw [← z]; exact hb))]
      exact e
    · refine fin s'' (Moved.trans Wk.gtrans ((mv.mono up).then_heap (Nat.le_succ _) fun b o hb e => ?_) mv2) done
      rw [sb.2 b (fun z : b = D => hb (by rw [z]; exact List.mem_cons_self))]
      exact e
end
section
variable {prog : Program} {w : World} {A : Around} {E : Value → Shared → Prop} {s : Shared}
/-- what set() asks of its argument -/
structure Src (prog : Program) (w : World) (T TI : String) (l : Addr) (items : Array Value) (Is : Heap → Prop) (At : Addr → Nat → Heap → Prop) : Prop where
  keep : ∀ h h', Is h → (∀ b o, h.get? b = some o → h'.get? b = some o) → Is h'
  obj : ∀ h, Is h → ∃ o, h.get? l = some o ∧ o.cls = .type T
  s1 : isSubtype (.type T) (.type "set") = pure false
  s2 : isSubtype (.type T) (.type "frozenset") = pure false
  s3 : (Value.type T == Value.type "dict") = false
  iter : ∀ (A' : Around) (E : Value → Shared → Prop) (s : Shared) (Q : Value → Shared → Prop), Is s.heap → Q (.ref s.heap.objs.size) { s with heap := s.heap.push { cls := .type TI, data := .fields #[.ref l, .int 0 0] } } → wpAny (model prog w) A' (pyIter (.ref l)) Q E s
  walk : ∀ (A' : Around) (I : Addr), A'.handled = none → l ≠ I → Walks prog w A' I [I, l] [I] items.size (fun i v => items[i]? = some v) (fun i h => At I i h ∧ Is h)
  at0 : ∀ (h : Heap) (I : Addr), h.get? I = some { cls := .type TI, data := .fields #[.ref l, .int 0 0] } → At I 0 h
set_option maxHeartbeats 3200000 in
theorem set_from {T TI : String} {l : Addr} {items : Array Value} {Is : Heap → Prop} {At : Addr → Nat → Heap → Prop} {xs : List Str} {Q : Value → Shared → Prop} (S : Src prog w T TI l items Is At) (hh : A.handled = none) (is0 : Is s.heap) (ia : StrsAre items.toList xs) (nd : xs.Nodup) (few : xs.length < 64)
    (h : ∀ (h' : Heap) (tk : Nat), h'.SetOf (PySem.strKind prog w) s.heap.objs.size (fun z => (xs.take items.size).any (· == z)) items.size → (∀ b o, b < s.heap.objs.size → s.heap.get? b = some o → h'.get? b = some o) → Q (.ref s.heap.objs.size) { s with heap := h', toks := tk }) :
    wpAny (model prog w) A (call (.type "set") [.ref l]) Q E s := by
  obtain ⟨c, tl, hmro⟩ := PySem.F.called_set.mro
  have hmade := PySem.F.called_set.made
  have hsub := PySem.F.called_set.sub
  refine wpAny_call (codeAny_of_tree ?_)
  show wpAny _ _ (callAny (.type "set") _) _ _ _
  refine wpAny_pure ⟨Code.quiet_builtin _ (by decide +kernel), codeAny_builtin PySem.F.entry_type_call ?_⟩
  rw [Around.under_plain (weight_type_call_type "set" [.ref l] []) rfl]
  have k1 := PySem.F.called_set.notType
  have k2 := PySem.F.called_set.canCreate
  have k3 := PySem.F.typeCall_set_1 (.ref l)
  repeat (any_goals (first | assumption | wp_step))
  refine codeAny_mono (code_set_new_1 (.ref l) (E := E) (Q₁ := fun obj z => ∃ led : Bool, obj = .ref s.heap.objs.size ∧ z = { s with heap := s.heap.push { cls := .type "set", dict := none, data := .set #[] 0 (.fresh 0 0 led) } }) fun led => ⟨led, rfl, rfl⟩) fun r z hr => ?_
  cases r with
  | error e => exact hr
  | ok fl =>
    cases fl with
    | ret obj =>
      obtain ⟨led, rfl, rfl⟩ := hr
      generalize eN : s.heap.push { cls := .type "set", dict := none, data := .set #[] 0 (.fresh 0 0 led) } = N
      have at_ : N.get? s.heap.objs.size = some { cls := .type "set", dict := none, data := .set #[] 0 (.fresh 0 0 led) } := by rw [← eN]; exact Heap.get?_push_size _ rfl
      have zN : N.objs.size = s.heap.objs.size + 1 := by rw [← eN]; exact Heap.size_push ..
      have kN : ∀ b o, s.heap.get? b = some o → N.get? b = some o := fun b o e => by rw [← eN]; exact Heap.get?_push_of_some _ e
      have ty : Shared.TypeIs { s with heap := N } (.ref s.heap.objs.size) "set" := ⟨_, at_, rfl⟩
      have isN : Is N := S.keep _ _ is0 kN
      have hli := PySem.F.called_set.init.lookup
      have hbi := PySem.F.called_set.init.bind (.ref s.heap.objs.size)
      repeat (any_goals (first | assumption | wp_step))
      refine codeAny_mono (codeAny_call_builtin (R := wants (fun r z => r = .none ∧ ∃ h' tk, z = { s with heap := h', toks := tk } ∧ h'.SetOf (PySem.strKind prog w) s.heap.objs.size (fun y => (xs.take items.size).any (· == y)) items.size ∧
          (∀ b o, b < s.heap.objs.size → s.heap.get? b = some o → h'.get? b = some o)) E) PySem.F.called_set.init.plain PySem.F.entry_set_init (check_set_init_1 ty ?_)) fun r₂ z hr₂ => ?_
      · obtain ⟨ol, gl, cl⟩ := S.obj _ isN
        obtain ⟨ocls, odict, odata, oslots⟩ := ol
        simp only at cl
        subst cl
        have g1 := S.s1
        have g2 := S.s2
        have g3 := S.s3
        unfold Builtin.«set.__init__» noKeywords Builtin.Frozenset.updateFrom
        generalize ePI : pyIter = PI
        wp_walk
        subst ePI
        refine S.iter _ _ _ _ isN ?_
        refine wpAny_bind (wpAny_runValue ?_)
        have lS : l < s.heap.objs.size := by
          obtain ⟨o, g, _⟩ := S.obj _ is0
          exact Heap.lt_size g
        have h3 : A.in1.in1.in1.handled = none := by simp [hh]
        have lI : l ≠ N.objs.size := by rw [zN]; exact Nat.ne_of_lt (Nat.lt_succ_of_lt lS)
        have dF : s.heap.objs.size ∉ [N.objs.size, l] := by
          rw [zN]
          simp only [List.mem_cons, List.mem_singleton, List.not_mem_nil, or_false, not_or]
          exact ⟨Nat.ne_of_lt (Nat.lt_succ_self _), Nat.ne_of_gt lS⟩
        have len : xs.length = items.size := by rw [← StrsAre.len_eq ia, Array.length_toList]
        have gI : (N.push { cls := .type TI, data := .fields #[.ref l, .int 0 0] }).get? N.objs.size = some { cls := .type TI, data := .fields #[.ref l, .int 0 0] } := Heap.get?_push_size _ rfl
        have kI : ∀ b o, N.get? b = some o → (N.push { cls := .type TI, data := .fields #[.ref l, .int 0 0] }).get? b = some o := fun b o e => Heap.get?_push_of_some _ e
        refine grow_set ((S.walk _ _ h3 lI).toS) s.heap.objs.size dF xs len nd (by rw [← len]; exact few) (fun i v hv => SS.strs_at ia i v (by rw [Array.getElem?_toList]; exact hv)) (items.size - 0) 0 _ (by omega) (Nat.zero_le _)
          ⟨S.at0 _ _ gI, S.keep _ _ isN kI⟩ ?start0 ?fin0
        case start0 => exact PyProof.Rows.SetOf_congr ((PyProof.Rows.setObjOf_fresh (knd := PySem.strKind prog w) led).setOf (kI _ _ at_) (by unfold scanBound; omega)) (fun _ => rfl) rfl
        case fin0 =>
          intro s' mv hS'
          obtain ⟨h', g', d', tk', os'⟩ := s'
          have eg : g' = s.gens := mv.gens
          have ed : d' = s.drawn := mv.drawn
          have eo : os' = s.os := mv.os
          subst eg; subst ed; subst eo
          show wpAny _ _ _ _ _ _
          refine wpAny_pure ?_
          show wpAny _ _ (ret Value.none) _ _ _
          refine wpAny_pure ⟨rfl, h', tk', rfl, hS', fun b o hb e => mv.heap b o ?_ (kI _ _ (kN _ _ e))⟩
          simp only [List.mem_cons, List.mem_singleton, List.not_mem_nil, or_false, not_or]
          exact ⟨Nat.ne_of_lt hb, by show b ≠ N.objs.size; rw [zN]; exact Nat.ne_of_lt (Nat.lt_succ_of_lt hb)⟩
      · cases r₂ with
        | error e => exact hr₂
        | ok fl₂ =>
          cases fl₂ with
          | ret r =>
            obtain ⟨rfl, h', tk, rfl, hS', hk'⟩ := hr₂
            repeat (any_goals (first | assumption | wp_step))
            exact h _ _ hS' hk'
          | _ => exact hr₂.elim
    | _ => exact hr.elim
end
end Ow

namespace Ow
open PySem PySem.Spec PyProof.Rows L2
section
variable {prog : Program} {w : World}
theorem src_list (l : Addr) (items : Array Value) : Src prog w "list" "list_iterator" l items (fun h => h.IsList l items) (fun I i h => h.IsListIter I l i) where
  keep := fun h h' z k => z.at fun o e => k l o e
  obj := fun h z => by obtain ⟨o, g, c, _⟩ := z; exact ⟨o, g, c⟩
  s1 := PySem.F.sub_list_set
  s2 := PySem.F.sub_list_frozenset
  s3 := by decide
  iter := fun A' E s Q z q => wpAny_pyIter_list z q
  walk := fun A' I hh ne => Walks.list hh I l ne items
  at0 := fun h I g => ⟨_, g, rfl, rfl⟩
theorem src_tup (l : Addr) (items : Array Value) : Src prog w "tuple" "tuple_iterator" l items (fun h => h.IsTuple l items) (fun I i h => h.IsTupleIter I l i) where
  keep := fun h h' z k => z.at fun o e => k l o e
  obj := fun h z => by obtain ⟨o, g, c, _⟩ := z; exact ⟨o, g, c⟩
  s1 := PySem.F.sub_tuple_set
  s2 := PySem.F.sub_tuple_frozenset
  s3 := by decide
  iter := fun A' E s Q z q => wpAny_pyIter_tuple z q
  walk := fun A' I hh ne => Walks.tuple hh I l ne items
  at0 := fun h I g => ⟨_, g, rfl, rfl⟩
end
section
variable {X : Cx}
def tLenSetT (K : PySem.W.Frag) (ta : TE) : TE := fun σ H Q => ta σ H fun x H1 => ∃ l, ∃ xs : List Str, x = .ref l ∧ (SqL K H1 l (xs.map V.str) ∨ SqT K H1 l (xs.map V.str)) ∧ xs.Nodup ∧ xs.length < 64 ∧ Q (.int xs.length) H1
theorem pe_lenSetT {a : Expr} {ta : TE} {p p2 q pos : Pos} (hc : X.calm = true) (hg : Gl X "len") (hm : X.mg "len" = none) (hg2 : Gl X "set") (hm2 : X.mg "set" = none) (ha : PE X a ta)
    (na : starEach [a] X.env = (false, eval a X.env) :: starEach [] X.env := by rfl) : PE X (.Call (.Name "len" p) [.Call (.Name "set" p2) [a] [] q] [] pos) (tLenSetT X.K ta) := by
  refine ⟨fun pins s σ H Q I h => ?_⟩
  refine Call_ (ld_blt I hg hm boot_len (PyProof.Rows.callWith_builtin1 (PyProof.Rows.args_cons ?_ rfl) rfl rfl))
  refine Call_ (ld_blt I hg2 hm2 boot_set ?_)
  refine PyProof.Rows.callWith_type1 (PyProof.Rows.args_cons (thn (ha.run pins s σ H _ I h) fun v s1 ⟨x, H1, I1, r1, q1⟩ => PyProof.Rows.args_nil ?_) na) na rfl
  obtain ⟨l, xs, rfl, hq, nd, few, q1⟩ := q1
  cases r1
  have last : ∀ (its : List Value), Vals (xs.map V.str) its → ∀ (h' : Heap) (tk : Nat), h'.SetOf (PySem.strKind X.prog X.w) s1.heap.objs.size (fun z => (xs.take its.toArray.size).any (· == z)) its.toArray.size →
      (∀ b o, b < s1.heap.objs.size → s1.heap.get? b = some o → h'.get? b = some o) →
      wpAny (model X.prog X.w) X.A (spliced (backTo pos (starEach [] X.env))) (fun vs z => wpAny (model X.prog X.w) X.A (call (.builtin "len") (Value.ref s1.heap.objs.size :: vs)) (EP X pins σ Q) X.xe z) X.xe { s1 with heap := h', toks := tk } := fun its r h' tk hS hk => by
    refine PyProof.Rows.args_nil ?_
    have hl : its.toArray.size = xs.length := by rw [List.size_toArray, ← r.length, List.length_map]
    rw [hl] at hS
    obtain ⟨o, es, ep, t, ho, hex, hd, _, _, _, hf, hn⟩ := hS
    have I2 : Inv X pins σ H1 { s1 with heap := h', toks := tk } := I1.kept fun b o e => hk b o (Heap.lt_size e) e
    exact call_len_set ho hex hd hf (by rw [hn]; omega) ⟨.int xs.length, H1, I2.tok _, ⟨_, by rw [hn]⟩, q1⟩
  rcases hq with hq | hq
  · obtain ⟨its, r, pl, hz⟩ := I1.list hq
    exact set_from (src_list l its.toArray) (I1.ok.hd hc) pl.isList (by simpa using strsAre_of r) nd few fun h' tk hS hk => last its r h' tk hS hk
  · obtain ⟨its, r, pl, hz⟩ := I1.tuple hq
    exact set_from (src_tup l its.toArray) (I1.ok.hd hc) pl (by simpa using strsAre_of r) nd few fun h' tk hS hk => last its r h' tk hS hk
end
end Ow

/-! len(set(xs)), xs a list or a tuple of unlike texts -/
namespace Ow
open PySem PySem.Spec PyProof.Rows L2
/-- how many unlike ones stand ahead of place i -/
def cn (xs : List Str) : Nat → Nat
  | 0 => 0
  | i + 1 => if (xs.take i).any (· == xs.getD i Str.empty) = true then cn xs i else cn xs i + 1
theorem cn_le (xs : List Str) : ∀ i, cn xs i ≤ i
  | 0 => Nat.le_refl _
  | i + 1 => by
    have := cn_le xs i
    unfold cn
    split <;> omega
section
variable {prog : Program} {w : World} {A : Around} {R : Result → Shared → Prop} {I : Addr} {fp wr : List Addr} {G : Array GenState → Array GenState → Prop} {n : Nat} {P : Nat → Value → Prop} {St : Nat → Shared → Prop}
theorem grow_setD (Wk : WalksS prog w A.in1 I fp wr G n P St) (D : Addr) (dF : D ∉ fp) (xs : List Str) (len : xs.length = n) (few : n < 64) (val : ∀ i v, P i v → ∃ t, v = .str (xs.getD i Str.empty) t) :
    ∀ (k i : Nat) (s : Shared), n - i = k → i ≤ n → St i s → s.heap.SetOf (PySem.strKind prog w) D (fun z => (xs.take i).any (· == z)) (cn xs i) →
      (∀ s', Moved (D :: wr) G s s' → s'.heap.SetOf (PySem.strKind prog w) D (fun z => (xs.take n).any (· == z)) (cn xs n) → R (.ok (.ret .none)) s') → codeAny (model prog w) A (.builtin "set.update.loop" ⟨[.ref D, .ref I], []⟩) R s := by
  have dW : D ∉ wr := fun z => dF (Wk.sub _ z)
  have up : ∀ b ∈ wr, b ∈ D :: wr := fun b z => List.mem_cons_of_mem _ z
  intro k
  induction k with
  | zero =>
    intro i s hk hi st hS fin
    have ein : i = n := by omega
    subst ein
    refine codeAny_builtin PyProof.Rows.F.entry_set_update_loop ?_
    rw [Around.under_plainId PyProof.Rows.F.plain_set_update_loop _]
    show wpAny _ A.in1 (pyNext (.ref I) >>= _) _ _ s
    refine wpAny_bind (Wk.done s _ _ st fun s' mv => wpAny_pure (fin s' (mv.mono up) ?_))
    obtain ⟨o, es, ep, t, ho, more⟩ := hS
    exact ⟨o, es, ep, t, mv.heap D _ dW ho, more⟩
  | succ k ih =>
    intro i s hk hi st hS fin
    have lt : i < n := by omega
    have lx : i < xs.length := by omega
    refine codeAny_builtin PyProof.Rows.F.entry_set_update_loop ?_
    rw [Around.under_plainId PyProof.Rows.F.plain_set_update_loop _]
    show wpAny _ A.in1 (pyNext (.ref I) >>= _) _ _ s
    refine wpAny_bind (Wk.item i s _ _ lt st fun v s' pv st' mv => ?_)
    obtain ⟨t, rfl⟩ := val i v pv
    have hS' : s'.heap.SetOf (PySem.strKind prog w) D (fun z => (xs.take i).any (· == z)) (cn xs i) := by
      obtain ⟨o, es, ep, tb, ho, more⟩ := hS
      exact ⟨o, es, ep, tb, mv.heap D _ dW ho, more⟩
    show wpAny _ A.in1 (holding [Value.str (xs.getD i Str.empty) t] (setAdd D (.str (xs.getD i Str.empty) t)) >>= _) _ _ s'
    refine wpAny_bind (wpAny_holding ?_)
    unfold setAdd
    refine wpAny_holding (wpAny_bind ((PySem.strKind prog w).pyHash (k := xs.getD i Str.empty) (strKind_is _ _ _ _) ?_))
    refine wpAny_setAddHashed_of (knd := PySem.strKind prog w) (s := { s' with toks := s'.toks + 1 }) (strKind_is _ _ _ _) rfl hS' (by have := cn_le xs i; unfold scanBound; omega) fun h' sb grown => ?_
    have grown' : h'.SetOf (PySem.strKind prog w) D (fun z => (xs.take (i + 1)).any (· == z)) (cn xs (i + 1)) :=
      PyProof.Rows.SetOf_congr grown (fun z => (any_take lx z).symm) (by first | rfl | (unfold cn; split <;> simp_all))
    refine wpAny_pure ⟨plainId_quiet PyProof.Rows.F.plain_set_update_loop _, ih (i + 1) _ (by omega) lt (Wk.frame _ s' _ _ st' (Nat.le_succ _) fun b hb o e => ?_) grown' fun s'' mv2 done => ?_⟩
    · rw [sb.2 b (fun z : b = D => dF (by rw [← z]; exact hb))]
      exact e
    · refine fin s'' (Moved.trans Wk.gtrans ((mv.mono up).then_heap (Nat.le_succ _) fun b o hb e => ?_) mv2) done
      rw [sb.2 b (fun z : b = D => hb (by rw [z]; exact List.mem_cons_self))]
      exact e
end
section
variable {prog : Program} {w : World} {A : Around} {E : Value → Shared → Prop} {s : Shared}
set_option maxHeartbeats 3200000 in
theorem set_fromD {T TI : String} {l : Addr} {items : Array Value} {Is : Heap → Prop} {At : Addr → Nat → Heap → Prop} {xs : List Str} {Q : Value → Shared → Prop} (S : Src prog w T TI l items Is At) (hh : A.handled = none) (is0 : Is s.heap) (ia : StrsAre items.toList xs) (few : xs.length < 64)
    (h : ∀ (h' : Heap) (tk : Nat), h'.SetOf (PySem.strKind prog w) s.heap.objs.size (fun z => (xs.take items.size).any (· == z)) (cn xs items.size) → (∀ b o, b < s.heap.objs.size → s.heap.get? b = some o → h'.get? b = some o) → Q (.ref s.heap.objs.size) { s with heap := h', toks := tk }) :
    wpAny (model prog w) A (call (.type "set") [.ref l]) Q E s := by
  obtain ⟨c, tl, hmro⟩ := PySem.F.called_set.mro
  have hmade := PySem.F.called_set.made
  have hsub := PySem.F.called_set.sub
  refine wpAny_call (codeAny_of_tree ?_)
  show wpAny _ _ (callAny (.type "set") _) _ _ _
  refine wpAny_pure ⟨Code.quiet_builtin _ (by decide +kernel), codeAny_builtin PySem.F.entry_type_call ?_⟩
  rw [Around.under_plain (weight_type_call_type "set" [.ref l] []) rfl]
  have k1 := PySem.F.called_set.notType
  have k2 := PySem.F.called_set.canCreate
  have k3 := PySem.F.typeCall_set_1 (.ref l)
  repeat (any_goals (first | assumption | wp_step))
  refine codeAny_mono (code_set_new_1 (.ref l) (E := E) (Q₁ := fun obj z => ∃ led : Bool, obj = .ref s.heap.objs.size ∧ z = { s with heap := s.heap.push { cls := .type "set", dict := none, data := .set #[] 0 (.fresh 0 0 led) } }) fun led => ⟨led, rfl, rfl⟩) fun r z hr => ?_
  cases r with
  | error e => exact hr
  | ok fl =>
    cases fl with
    | ret obj =>
      obtain ⟨led, rfl, rfl⟩ := hr
      generalize eN : s.heap.push { cls := .type "set", dict := none, data := .set #[] 0 (.fresh 0 0 led) } = N
      have at_ : N.get? s.heap.objs.size = some { cls := .type "set", dict := none, data := .set #[] 0 (.fresh 0 0 led) } := by rw [← eN]; exact Heap.get?_push_size _ rfl
      have zN : N.objs.size = s.heap.objs.size + 1 := by rw [← eN]; exact Heap.size_push ..
      have kN : ∀ b o, s.heap.get? b = some o → N.get? b = some o := fun b o e => by rw [← eN]; exact Heap.get?_push_of_some _ e
      have ty : Shared.TypeIs { s with heap := N } (.ref s.heap.objs.size) "set" := ⟨_, at_, rfl⟩
      have isN : Is N := S.keep _ _ is0 kN
      have hli := PySem.F.called_set.init.lookup
      have hbi := PySem.F.called_set.init.bind (.ref s.heap.objs.size)
      repeat (any_goals (first | assumption | wp_step))
      refine codeAny_mono (codeAny_call_builtin (R := wants (fun r z => r = .none ∧ ∃ h' tk, z = { s with heap := h', toks := tk } ∧ h'.SetOf (PySem.strKind prog w) s.heap.objs.size (fun y => (xs.take items.size).any (· == y)) (cn xs items.size) ∧
          (∀ b o, b < s.heap.objs.size → s.heap.get? b = some o → h'.get? b = some o)) E) PySem.F.called_set.init.plain PySem.F.entry_set_init (check_set_init_1 ty ?_)) fun r₂ z hr₂ => ?_
      · obtain ⟨ol, gl, cl⟩ := S.obj _ isN
        obtain ⟨ocls, odict, odata, oslots⟩ := ol
        simp only at cl
        subst cl
        have g1 := S.s1
        have g2 := S.s2
        have g3 := S.s3
        unfold Builtin.«set.__init__» noKeywords Builtin.Frozenset.updateFrom
        generalize ePI : pyIter = PI
        wp_walk
        subst ePI
        refine S.iter _ _ _ _ isN ?_
        refine wpAny_bind (wpAny_runValue ?_)
        have lS : l < s.heap.objs.size := by
          obtain ⟨o, g, _⟩ := S.obj _ is0
          exact Heap.lt_size g
        have h3 : A.in1.in1.in1.handled = none := by simp [hh]
        have lI : l ≠ N.objs.size := by rw [zN]; exact Nat.ne_of_lt (Nat.lt_succ_of_lt lS)
        have dF : s.heap.objs.size ∉ [N.objs.size, l] := by
          rw [zN]
          simp only [List.mem_cons, List.mem_singleton, List.not_mem_nil, or_false, not_or]
          exact ⟨Nat.ne_of_lt (Nat.lt_succ_self _), Nat.ne_of_gt lS⟩
        have len : xs.length = items.size := by rw [← StrsAre.len_eq ia, Array.length_toList]
        have gI : (N.push { cls := .type TI, data := .fields #[.ref l, .int 0 0] }).get? N.objs.size = some { cls := .type TI, data := .fields #[.ref l, .int 0 0] } := Heap.get?_push_size _ rfl
        have kI : ∀ b o, N.get? b = some o → (N.push { cls := .type TI, data := .fields #[.ref l, .int 0 0] }).get? b = some o := fun b o e => Heap.get?_push_of_some _ e
        refine grow_setD ((S.walk _ _ h3 lI).toS) s.heap.objs.size dF xs len (by rw [← len]; exact few) (fun i v hv => SS.strs_at ia i v (by rw [Array.getElem?_toList]; exact hv)) (items.size - 0) 0 _ (by omega) (Nat.zero_le _)
          ⟨S.at0 _ _ gI, S.keep _ _ isN kI⟩ ?start0 ?fin0
        case start0 => exact PyProof.Rows.SetOf_congr ((PyProof.Rows.setObjOf_fresh (knd := PySem.strKind prog w) led).setOf (kI _ _ at_) (by unfold scanBound; omega)) (fun _ => rfl) rfl
        case fin0 =>
          intro s' mv hS'
          obtain ⟨h', g', d', tk', os'⟩ := s'
          have eg : g' = s.gens := mv.gens
          have ed : d' = s.drawn := mv.drawn
          have eo : os' = s.os := mv.os
          subst eg; subst ed; subst eo
          show wpAny _ _ _ _ _ _
          refine wpAny_pure ?_
          show wpAny _ _ (ret Value.none) _ _ _
          refine wpAny_pure ⟨rfl, h', tk', rfl, hS', fun b o hb e => mv.heap b o ?_ (kI _ _ (kN _ _ e))⟩
          simp only [List.mem_cons, List.mem_singleton, List.not_mem_nil, or_false, not_or]
          exact ⟨Nat.ne_of_lt hb, by show b ≠ N.objs.size; rw [zN]; exact Nat.ne_of_lt (Nat.lt_succ_of_lt hb)⟩
      · cases r₂ with
        | error e => exact hr₂
        | ok fl₂ =>
          cases fl₂ with
          | ret r =>
            obtain ⟨rfl, h', tk, rfl, hS', hk'⟩ := hr₂
            repeat (any_goals (first | assumption | wp_step))
            exact h _ _ hS' hk'
          | _ => exact hr₂.elim
    | _ => exact hr.elim
end
end Ow

namespace Ow
open PySem PySem.Spec PyProof.Rows L2
section
variable {X : Cx}
def tLenSetD (K : PySem.W.Frag) (ta : TE) : TE := fun σ H Q => ta σ H fun x H1 => ∃ l, ∃ xs : List Str, x = .ref l ∧ (SqL K H1 l (xs.map V.str) ∨ SqT K H1 l (xs.map V.str)) ∧ xs.length < 64 ∧ Q (.int (cn xs xs.length)) H1
theorem pe_lenSetD {a : Expr} {ta : TE} {p p2 q pos : Pos} (hc : X.calm = true) (hg : Gl X "len") (hm : X.mg "len" = none) (hg2 : Gl X "set") (hm2 : X.mg "set" = none) (ha : PE X a ta)
    (na : starEach [a] X.env = (false, eval a X.env) :: starEach [] X.env := by rfl) : PE X (.Call (.Name "len" p) [.Call (.Name "set" p2) [a] [] q] [] pos) (tLenSetD X.K ta) := by
  refine ⟨fun pins s σ H Q I h => ?_⟩
  refine Call_ (ld_blt I hg hm boot_len (PyProof.Rows.callWith_builtin1 (PyProof.Rows.args_cons ?_ rfl) rfl rfl))
  refine Call_ (ld_blt I hg2 hm2 boot_set ?_)
  refine PyProof.Rows.callWith_type1 (PyProof.Rows.args_cons (thn (ha.run pins s σ H _ I h) fun v s1 ⟨x, H1, I1, r1, q1⟩ => PyProof.Rows.args_nil ?_) na) na rfl
  obtain ⟨l, xs, rfl, hq, few, q1⟩ := q1
  cases r1
  have last : ∀ (its : List Value), Vals (xs.map V.str) its → ∀ (h' : Heap) (tk : Nat), h'.SetOf (PySem.strKind X.prog X.w) s1.heap.objs.size (fun z => (xs.take its.toArray.size).any (· == z)) (cn xs its.toArray.size) →
      (∀ b o, b < s1.heap.objs.size → s1.heap.get? b = some o → h'.get? b = some o) →
      wpAny (model X.prog X.w) X.A (spliced (backTo pos (starEach [] X.env))) (fun vs z => wpAny (model X.prog X.w) X.A (call (.builtin "len") (Value.ref s1.heap.objs.size :: vs)) (EP X pins σ Q) X.xe z) X.xe { s1 with heap := h', toks := tk } := fun its r h' tk hS hk => by
    refine PyProof.Rows.args_nil ?_
    have hl : its.toArray.size = xs.length := by rw [List.size_toArray, ← r.length, List.length_map]
    rw [hl] at hS
    obtain ⟨o, es, ep, t, ho, hex, hd, _, _, _, hf, hn⟩ := hS
    have I2 : Inv X pins σ H1 { s1 with heap := h', toks := tk } := I1.kept fun b o e => hk b o (Heap.lt_size e) e
    have := cn_le xs xs.length
    exact call_len_set ho hex hd hf (by rw [hn]; omega) ⟨.int (cn xs xs.length), H1, I2.tok _, ⟨_, by rw [hn]⟩, q1⟩
  rcases hq with hq | hq
  · obtain ⟨its, r, pl, hz⟩ := I1.list hq
    exact set_fromD (src_list l its.toArray) (I1.ok.hd hc) pl.isList (by simpa using strsAre_of r) few fun h' tk hS hk => last its r h' tk hS hk
  · obtain ⟨its, r, pl, hz⟩ := I1.tuple hq
    exact set_fromD (src_tup l its.toArray) (I1.ok.hd hc) pl (by simpa using strsAre_of r) few fun h' tk hS hk => last its r h' tk hS hk
end
end Ow

/-! what walks lists and tuples alike -/
namespace Ow
open PySem PySem.Spec PyProof.Rows L2
def SqA (K : PySem.W.Frag) (H : Hp) (a : Addr) (xs : List V) : Prop := SqL K H a xs ∨ SqT K H a xs
theorem sqt_same {K : PySem.W.Frag} {H H' : Hp} {a : Addr} {xs : List V} (s : Same H H') (h : SqT K H a xs) : SqT K H' a xs :=
  h.elim (fun h => .inl (h.elim (fun h => .inl (s _ _ h)) fun ⟨o, h⟩ => .inr ⟨o, s _ _ h⟩)) fun h => .inr h
theorem SqA.same {K : PySem.W.Frag} {H H' : Hp} {a : Addr} {xs : List V} (s : Same H H') (h : SqA K H a xs) : SqA K H' a xs := h.elim (fun h => .inl (s.seq h)) fun h => .inr (sqt_same s h)
theorem walk_enumT {K : PySem.W.Frag} {a : Addr} {xs : List V} : Walk (IteT K a) xs.length (fun H => SqT K H a xs) (YPair (fun i => some (.int (i : Nat))) (fun i => xs[i]?)) := by
  refine ⟨fun i _ hi q => ⟨xs, xs[i], q, by simp [hi]⟩, fun _ q => ⟨xs, q, rfl⟩, fun i H v H' _ q y => ?_⟩
  obtain ⟨T, x, h1, h2, h3, h4⟩ := y
  exact ⟨T, .int (i : Nat), x, h1, h2, h3, rfl, h4 xs q⟩
/-- for x in a list or a tuple: the walker is one that gives xs[i] while the heap only grows -/
def iSeqA (K : PySem.W.Frag) (tl : TE) : TI := fun σ H R => tl σ H fun x H1 => ∃ a xs, x = .ref a ∧ SqA K H1 a xs ∧ ∀ (J : It) (G : Hp → Prop), Walk J xs.length G (YAt xs) → (∀ H', Same H1 H' → G H') → R J H1
theorem pi_seqA {X : Cx} {tg l : Expr} {tl : TE} (hl : PE X l tl) : PI X tg l (iSeqA X.K tl) := by
  refine ⟨fun pins s σ H R I h => ?_⟩
  refine thn (hl.run pins s σ H _ I h) fun v s1 ⟨x, H1, I1, r1, a, xs, e, hA, q⟩ => ?_
  subst e
  cases r1
  rcases hA with hq | hq
  · obtain ⟨its, rv, p, hz⟩ := I1.list hq
    refine wpAny_pyIter_list p.isList ?_
    refine ⟨s1.heap.objs.size, [s1.heap.objs.size], _, _, H1, rfl, I1.kept (t' := s1.toks) fun b o e => Heap.get?_push_of_some _ e, turn_list a _, ⟨_, Heap.get?_push_size _ rfl, rfl, rfl⟩, fun b hb => ?_, q _ _ walk_list fun H' z => z.seq hq⟩
    have e : b = s1.heap.objs.size := by simpa using hb
    subst e
    exact I1.fpOk (Nat.le_refl _) (I1.hok.fresh (Nat.le_refl _))
  · obtain ⟨its, rv, p, hz⟩ := I1.tuple hq
    refine wpAny_pyIter_tuple (show s1.heap.IsTuple a its.toArray from p) ?_
    refine ⟨s1.heap.objs.size, [s1.heap.objs.size], _, _, H1, rfl, I1.kept (t' := s1.toks) fun b o e => Heap.get?_push_of_some _ e, turn_tuple a _, ⟨_, Heap.get?_push_size _ rfl, rfl, rfl⟩, fun b hb => ?_, q _ _ walk_tup fun H' z => sqt_same z hq⟩
    have e : b = s1.heap.objs.size := by simpa using hb
    subst e
    exact I1.fpOk (Nat.le_refl _) (I1.hok.fresh (Nat.le_refl _))
/-- for i, x in enumerate(a list or a tuple) -/
def iEnumA (K : PySem.W.Frag) (ta : TA) : TI := fun σ H R => ta σ H fun vs H1 => ∃ a xs, vs = [.ref a] ∧ SqA K H1 a xs ∧ ∀ (J : It) (G : Hp → Prop), Walk J xs.length G (YPair (fun i => some (.int (i : Nat))) (fun i => xs[i]?)) → (∀ H', Same H1 H' → G H') → R J H1
theorem pi_enumA {X : Cx} {e : Expr} {ta : TA} {p pos tpos : Pos} {elts : List Expr} {kk : Nat} (hg : Gl X "enumerate") (hm : X.mg "enumerate" = none) (ha : PA X [e] ta) (hs : starEach [e] X.env = [(false, eval e X.env)] := by rfl) :
    PI X (.Tuple elts kk tpos) (.Call (.Name "enumerate" p) [e] [] pos) (iEnumA X.K ta) := by
  refine ⟨fun pins s σ H R I h => ?_⟩
  refine Call_ (ld_blt I hg hm boot_enumerate (PyProof.Rows.callWith_type1 (thn (ha.run pos pins s σ H _ I h) fun us s1 ⟨vs, H1, I1, r1, q1⟩ => ?_) hs rfl))
  obtain ⟨a, xs, ex, hA, q⟩ := q1
  subst ex
  cases r1 with
  | cons r rr =>
    cases rr
    cases r
    have fpo : ∀ b, b ∈ [s1.heap.objs.size + 1, s1.heap.objs.size] → s1.heap.objs.size ≤ b := fun b hb => by
      have e' : b = s1.heap.objs.size + 1 ∨ b = s1.heap.objs.size := by simpa using hb
      omega
    rcases hA with hq | hq
    · obtain ⟨its, rv, p', hz⟩ := I1.list hq
      refine call_enumerate_list p'.isList fun h' he hit hsz hk => wpAny_pyIter_enum he ?_
      have I2 : Inv X pins σ H1 { s1 with heap := h' } := I1.kept (t' := s1.toks) hk
      exact ⟨s1.heap.objs.size + 1, [s1.heap.objs.size + 1, s1.heap.objs.size], _, _, H1, rfl, I2, turn_enum a (s1.heap.objs.size + 1) s1.heap.objs.size, ⟨⟨.none, he⟩, hit, Nat.succ_ne_self _⟩, fun b hb => I1.fpOk (fpo b hb) (I1.hok.fresh (fpo b hb)), q _ _ walk_enum fun H' z => z.seq hq⟩
    · obtain ⟨its, rv, p', hz⟩ := I1.tuple hq
      have p' : s1.heap.IsTuple a its.toArray := p'
      have al : a < s1.heap.objs.size := by obtain ⟨o, q, _⟩ := p'; exact Heap.lt_size q
      refine enum_tup p' fun h' he hit hsz hk => wpAny_pyIter_enum he ?_
      have I2 : Inv X pins σ H1 { s1 with heap := h' } := I1.kept (t' := s1.toks) hk
      exact ⟨s1.heap.objs.size + 1, [s1.heap.objs.size + 1, s1.heap.objs.size], _, _, H1, rfl, I2, turn_enumT a (s1.heap.objs.size + 1) s1.heap.objs.size, ⟨⟨.none, he⟩, hit, Nat.succ_ne_self _, Nat.ne_of_lt al, Nat.ne_of_gt (Nat.lt_succ_of_lt al)⟩, fun b hb => I1.fpOk (fpo b hb) (I1.hok.fresh (fpo b hb)), q _ _ walk_enumT fun H' z => sqt_same z hq⟩
end Ow

/-! xs[::-1] of a list, of a tuple -/
namespace Ow
open PySem PySem.Spec PyProof.Rows L2 HT
section
variable {prog : Program} {w : World} {A : Around} {E : Value → Shared → Prop} {s : Shared}
theorem adj_rev (n : Nat) : Builtin.Slice.sliceAdjust none none (-1) (n : Int) = ((n : Int) - 1, -1) := by
  unfold Builtin.Slice.sliceAdjust
  simp
theorem plc_rev (n : Nat) : Builtin.Slice.slicePlaces ((n : Int) - 1) (-1) (-1) = n := by
  unfold Builtin.Slice.slicePlaces
  by_cases h : n = 0
  · subst h
    simp
  · have g : ((n : Int) - 1) > -1 := by omega
    simp
    omega
theorem appl_rev {sl : Addr} {tk : Tok} {n : Nat} {Q : Int × Int × Nat → Shared → Prop} (hs : s.heap.IsSliceOf sl .none .none (.int (-1) tk)) (q : Q ((n : Int) - 1, -1, n) s) :
    wpAny (model prog w) A (Builtin.Slice.sliceApplied (.ref sl) (pure (n : Int))) Q E s := by
  obtain ⟨ob, e1, e2, e3⟩ := id hs
  unfold Builtin.Slice.sliceApplied Builtin.Slice.sliceFields
  refine wpAny_bind (wpAny_bind (wpAny_field e1 e3 (x := .none) rfl (wpAny_bind (wpAny_field e1 e3 (x := .none) rfl (wpAny_bind (wpAny_field e1 e3 (x := .int (-1) tk) rfl (wpAny_pure ?_)))))))
  refine wpAny_bind (slicePart_int ?_)
  show wpAny _ _ (if ((-1 : Int) == 0) = true then _ else _) _ _ s
  rw [if_neg (by decide)]
  refine wpAny_bind (slicePart_none (wpAny_bind (slicePart_none (wpAny_bind (wpAny_pure ?_)))))
  show wpAny _ _ (match Builtin.Slice.sliceAdjust none none (-1) (n : Int) with | (l, h) => pure (l, (-1 : Int), Builtin.Slice.slicePlaces l h (-1))) _ _ s
  rw [adj_rev]
  show wpAny _ _ (pure ((n : Int) - 1, (-1 : Int), Builtin.Slice.slicePlaces ((n : Int) - 1) (-1) (-1))) _ _ s
  rw [plc_rev]
  exact wpAny_pure q
theorem pick_rev (xs : Array Value) : ((List.range xs.size).filterMap fun (m : Nat) => xs[((xs.size : Int) - 1 + (m : Int) * -1).toNat]?).toArray = xs.toList.reverse.toArray := by
  refine congrArg List.toArray ?_
  have e : ∀ n, n ≤ xs.size → (List.range n).filterMap (fun (m : Nat) => xs[((xs.size : Int) - 1 + (m : Int) * -1).toNat]?) = xs.toList.reverse.take n := by
    intro n
    induction n with
    | zero => intro _; rfl
    | succ n ih =>
      intro hn
      have j : ((xs.size : Int) - 1 + (n : Int) * -1).toNat = xs.size - 1 - n := by omega
      have l2 : xs.size - 1 - n < xs.size := by omega
      have r : xs.toList.reverse[n]? = some xs[xs.size - 1 - n] := by
        rw [List.getElem?_reverse (by simp; omega)]
        simp [Array.getElem?_eq_getElem l2]
      have q : xs[((xs.size : Int) - 1 + (n : Int) * -1).toNat]? = some xs[xs.size - 1 - n] := by
        rw [j]
        exact Array.getElem?_eq_getElem l2
      rw [List.range_succ, List.filterMap_append, ih (by omega), List.take_add_one, r]
      simp only [List.filterMap_cons, q, List.filterMap_nil]
      rfl
  rw [e xs.size (Nat.le_refl _)]
  exact List.take_of_length_le (by simp)
theorem item_rev {t sl : Addr} {items : Array Value} {tk : Tok} {Q : Value → Shared → Prop} (ht : IsTup s.heap t items) (hs : s.heap.IsSliceOf sl .none .none (.int (-1) tk))
    (q : Q (.ref s.heap.objs.size) { s with heap := s.heap.push { cls := .type "tuple", data := .seq items.toList.reverse.toArray } }) (hz : items.size ≤ sizeLine) : wpAny (model prog w) A (getItem (.ref t) (.ref sl)) Q E s := by
  have zz : sizeOk (.seq items.toList.reverse.toArray) := by
    show items.toList.reverse.toArray.size ≤ sizeLine
    simpa using hz
  obtain ⟨ob, e1, e2, e3⟩ := id hs
  have ty : s.TypeIs (.ref sl) "slice" := ⟨ob, e1, e2⟩
  unfold getItem
  try with_reducible refine wpAny_holding ?_
  first | refine wpAny_bind (wpAny_pure ?_) | skip
  refine wpAny_bind (wpAny_sequenceKey ht.typeIs (by decide) ?_)
  refine wpAny_bind (wpAny_callSpecial?_slot (name := Str.ofString "__getitem__") ht.typeIs PyProof.Rows.slot_tuple_getitem (wpAny_call_entry PyProof.Rows.slot_tuple_getitem ht.typeIs entry_tuple_getitem ?_ (args_tuple_getitem _ _)))
  show wpAny _ _ (Builtin.Tuple.tupleItemsOf (.ref t) >>= _) _ _ s
  refine wpAny_bind (tupleItemsOf_ ht (wpAny_bind (wpAny_typeOf ty ?_)))
  rw [if_pos (by decide)]
  refine wpAny_bind (appl_rev hs ?_)
  have no : ¬ ((((items.size : Int) - 1) == 0 && (-1 : Int) == 1 && items.size == items.size) = true) := by simp
  show wpAny _ _ (if (((items.size : Int) - 1) == 0 && (-1 : Int) == 1 && items.size == items.size) = true then _ else _) _ _ s
  rw [if_neg no, pick_rev]
  first
    | exact wpAny_bind (m := Builtin.Tuple.tupleExact _) (wpAny_newObj_type (wpAny_pure ⟨_, rfl, wpAny_pure q⟩) zz)
    | exact wpAny_bind (m := Builtin.Tuple.tupleExact _) (wpAny_newObj_type (wpAny_bind (wpAny_pure (wpAny_pure ⟨_, rfl, wpAny_pure q⟩))) zz)
    | exact wpAny_bind (wpAny_bind (m := Builtin.Tuple.tupleExact _) (wpAny_newObj_type (wpAny_pure (wpAny_pure ⟨_, rfl, wpAny_pure q⟩)) zz))
end
/-- the items the other way round -/
def rRev (K : PySem.W.Frag) : V → Hp → VK → Prop := fun x H Q => ∃ a xs, x = .ref a ∧ ((SqL K H a xs ∧ ∀ p, H p = none → Q (.ref p) (upd H p (.lst xs.reverse))) ∨ (SqT K H a xs ∧ ∀ p, H p = none → Q (.ref p) (upd H p (.tup xs.reverse))))
def tRev (K : PySem.W.Frag) (te ts : TE) : TE := fun σ H Q => te σ H fun x H1 => ts σ H1 fun i H2 => i = .int (-1) ∧ rRev K x H2 Q
section
variable {X : Cx} {e st : Expr} {te ts : TE} {pos p2 : Pos}
theorem pe_rev (he : PE X e te) (hst : PE X st ts) : PE X (.Subscript e (.Slice none none (some st) p2) pos) (tRev X.K te ts) := by
  refine ⟨fun pins s σ H Q I h => ?_⟩
  refine Subscript_ (thn (he.run pins s σ H _ I h) fun v s1 ⟨x, H1, I1, rx, q1⟩ => ?_)
  refine wpAny_Slice ?_
  simp only [evalPart_none, evalPart_some]
  refine wpAny_pure (wpAny_pure ?_)
  refine thn (hst.run pins s1 σ H1 _ I1 q1) fun vs s2 ⟨i, H2, I2, ri, ei, a, xs, ex, q2⟩ => ?_
  subst ei ex
  obtain ⟨tk, rfl⟩ := ri
  obtain rfl : v = Value.ref a := rx
  have I3 : Inv X pins σ H2 { s2 with heap := s2.heap.push { cls := .type "slice", data := .fields #[.none, .none, .int (-1) tk] } } := I2.kept (t' := s2.toks) fun b ob q => Heap.get?_push_of_some _ q
  have hsl : (s2.heap.push { cls := .type "slice", data := .fields #[.none, .none, .int (-1) tk] }).IsSliceOf s2.heap.objs.size .none .none (.int (-1) tk) := Heap.IsSliceOf.new ..
  show wpAny (model X.prog X.w) X.A (subscriptTail e (.Slice none none (some st) p2) (.ref a) (.ref s2.heap.objs.size)) (EP X pins σ Q) X.xe { s2 with heap := s2.heap.push { cls := .type "slice", data := .fields #[.none, .none, .int (-1) tk] } }
  rcases q2 with ⟨hx, q⟩ | ⟨hx, q⟩
  · obtain ⟨its, rv, pl, hz⟩ := I3.list hx
    refine tail_any pl.isList.typeIs slot_list_getitem.lookup (wpAny_getItem_list_slice (hsz := by rw [List.size_toArray, ← rv.length]; exact hz) pl.isList hsl .none .none (.int (-1) tk) (by decide) ?_) (by with_unfolding_all rfl)
    rw [PySem.W.krv_pick]
    refine ⟨.ref _, _, I3.laid (t' := s2.toks) (o := .lst xs.reverse) (fun b ob q => Heap.get?_push_of_some _ q) (Nat.le_refl _) ?_, rfl, q _ (I3.hok.fresh (Nat.le_refl _))⟩
    exact ⟨by rw [List.length_reverse]; exact hz, _, _, rv.reverse, Heap.get?_push_size _ rfl⟩
  · obtain ⟨its, rv, ht, hz⟩ := I3.tuple hx
    refine tail_any ht.typeIs PyProof.Rows.slot_tuple_getitem.lookup (item_rev ht hsl ?_ (by rw [List.size_toArray, ← rv.length]; exact hz)) (by with_unfolding_all rfl)
    refine ⟨.ref _, _, I3.laid (t' := s2.toks) (o := .tup xs.reverse) (fun b ob q => Heap.get?_push_of_some _ q) (Nat.le_refl _) ?_, rfl, q _ (I3.hok.fresh (Nat.le_refl _))⟩
    exact ⟨by rw [List.length_reverse]; exact hz, _, rv.reverse, IsTup.new _ _⟩
end
end Ow

/-! values of any kind: in a tuple of texts, their kind, their text; several except clauses with a name -/
namespace PySem.SeqAt
open AutoSeq1 (wpAny_loadPart')
open MeetsSeq
theorem dict_eq_declines_str (l : Addr) (es : Array DictEntry) (n : Nat) (dd : Option Addr) (sl : Array (Option Value)) (b : Str) (u : Tok) :
    Meets (Builtin.«dict.__eq__» ⟨[.ref l, .str b u], []⟩) (fun _ R s => s.heap.get? l = some { cls := .type "dict", dict := dd, data := .dict es n, slots := sl } ∧ R (.ok (.ret .notImplemented)) s) :=
  .of_wp fun prog w A R s h => by obtain ⟨hp, g, d, tk, os⟩ := s; obtain ⟨hl, h⟩ := h; have f1 := F.sub_str_dict; wp_walk using wpAny_loadPart' hl, wpAny_load hl; exact ⟨_, rfl, h⟩
theorem str_eq_declines_dict (b : Str) (u : Tok) (l : Addr) (c : Value) (es : Array DictEntry) (n : Nat) (dd : Option Addr) (sl : Array (Option Value)) :
    Meets (Builtin.«str.__eq__» ⟨[.str b u, .ref l], []⟩) (fun _ R s => s.heap.get? l = some { cls := c, dict := dd, data := .dict es n, slots := sl } ∧ R (.ok (.ret .notImplemented)) s) :=
  .of_wp fun prog w A R s h => by obtain ⟨hp, g, d, tk, os⟩ := s; obtain ⟨hl, h⟩ := h; wp_walk using wpAny_loadPart' hl, wpAny_load hl; exact ⟨_, rfl, h⟩
theorem RcAt.str_dict {A : Around} {s : Shared} {l : Addr} {o : Obj} {es : Array DictEntry} {n : Nat} (b : Str) (u : Tok) (ho : s.heap.get? l = some o) (hc : o.cls = .type "dict") (hd : o.data = .dict es n) (hu : A.units < cLine) : RcAt A s (.str b u) (.ref l) false := fun prog w E Q h => by
  obtain ⟨cls, dd, data, sl⟩ := o
  simp only at hc hd
  subst hc hd
  exact rc_eq_decline_or (k := false) (typeIs_str s b u) ⟨_, ho, rfl⟩ (by decide) F.sub_dict_str F.slot_str_eq F.slot_dict_eq_refl
    (fun _ hq => call_meets F.slot_str_eq (typeIs_str s b u) F.entry_str_eq (F.args_str_eq_2 _ _) (str_eq_declines_dict b u l (.type "dict") es n dd sl) ⟨ho, hq⟩)
    (fun _ hq => call_meets F.slot_dict_eq_refl ⟨_, ho, rfl⟩ F.entry_dict_eq (F.args_dict_eq_2 _ _) (dict_eq_declines_str l es n dd sl b u) ⟨ho, hq⟩)
    (fun _ hq => wpAny_of_eq (rfl : isSame (.str b u) (.ref l) = pure false) hq) (.inr hu) h
theorem EqAt.str_dict {A : Around} {s : Shared} {l : Addr} {o : Obj} {es : Array DictEntry} {n : Nat} (b : Str) (u : Tok) (ho : s.heap.get? l = some o) (hc : o.cls = .type "dict") (hd : o.data = .dict es n) (hu : A.units < cLine) : EqAt A s (.str b u) (.ref l) false := fun prog w E Q h => by
  unfold eqBool
  refine wpAny_holding ?_
  refine wpAny_ite_split (fun hab => absurd (eq_of_beq hab) nofun) (fun _ => ?_)
  exact wpAny_bind (RcAt.str_dict b u ho hc hd hu prog w E _ (wpAny_truthy_bool h))
end PySem.SeqAt
namespace Xv
open PySem PySem.Spec PyProof.Rows L2
/-- a value of any kind -/
inductive Any (K : PySem.W.Frag) (H : Hp) : V → PyData → Prop
  | non : Any K H .non .none
  | bl (b : Bool) : Any K H (.bl b) (.bool b)
  | int (i : Int) (h : i.natAbs.log2 < 1920) : Any K H (.int i) (.int i)
  | str (x : Str) : Any K H (.str x) (.str x)
  | lst {a : Addr} (xs : List Str) (h : SqL K H a (xs.map V.str)) : Any K H (.ref a) (.list (xs.map PyData.str))
  | tup {a : Addr} (xs : List Str) (h : SqT K H a (xs.map V.str)) : Any K H (.ref a) (.tuple (xs.map PyData.str))
  | dic {a : Addr} (e : H a = some (.dK [])) : Any K H (.ref a) (.dict [])
theorem dpa_str {K : PySem.W.Frag} {H : Hp} : ∀ xs : List Str, DpAll K H (xs.map V.str) (xs.map PyData.str)
  | [] => .nil
  | x :: xs => .cons (.str x) (dpa_str xs)
theorem Any.dp {K : PySem.W.Frag} {H : Hp} {v : V} {d : PyData} (h : Any K H v d) : Dp K H v d ∨ ∃ a, v = .ref a ∧ d = .dict [] ∧ H a = some (.dK []) := by
  cases h with
  | non => exact .inl .non
  | bl b => exact .inl (.bl b)
  | int i h => exact .inl (.int i)
  | str x => exact .inl (.str x)
  | lst xs h => exact .inl (.lst h (dpa_str xs))
  | tup xs h => exact .inl (.tup h (dpa_str xs))
  | dic e => exact .inr ⟨_, rfl, rfl, e⟩
section
variable {X : Cx} {pins : List (Addr × Obj)} {σ : L2.St} {H : Hp} {s : Shared}
theorem dk_nil (I : Inv X pins σ H s) {a : Addr} (e : H a = some (.dK [])) : a ≠ sysModules ∧ ∃ o es n, s.heap.get? a = some o ∧ o.cls = .type "dict" ∧ o.data = .dict es n ∧ es.toList = [] := by
  obtain ⟨_, hd, vs, rel, o, es, ep, h1, h2, h3, _, h5, _⟩ := dk_rd I.hok (.inl e)
  refine ⟨beq_eq_false_iff_ne.mp hd, o, es, ep, h1, h2.1, h3, ?_⟩
  cases rel
  generalize hes : es.toList = l at h5
  cases h5
  rfl
theorem no_dicts : ∀ xs : List Str, PyData.hasDictAll (xs.map PyData.str) = false
  | [] => by simp [PyData.hasDictAll]
  | x :: xs => by simp [PyData.hasDictAll, PyData.hasDict, no_dicts xs]
theorem show_strs : ∀ xs : List Str, PyData.showableAll (xs.map PyData.str) = true
  | [] => by simp [PyData.showableAll]
  | x :: xs => by simp [PyData.showableAll, PyData.showable, show_strs xs]
theorem deep_strs : ∀ xs : List Str, PyData.depthAll (xs.map PyData.str) = 0
  | [] => by simp [PyData.depthAll]
  | x :: xs => by simp [PyData.depthAll, PyData.depth, deep_strs xs]
theorem Any.show {K : PySem.W.Frag} {v : V} {d : PyData} (h : Any K H v d) : d.showable = true ∧ d.depth ≤ 1 := by
  cases h with
  | non => exact ⟨by simp [PyData.showable], by simp [PyData.depth]⟩
  | bl b => exact ⟨by simp [PyData.showable], by simp [PyData.depth]⟩
  | int i h => exact ⟨by simpa [PyData.showable] using h, by simp [PyData.depth]⟩
  | str x => exact ⟨by simp [PyData.showable], by simp [PyData.depth]⟩
  | lst xs h => exact ⟨by simp [PyData.showable, show_strs], by simp [PyData.depth, deep_strs]⟩
  | tup xs h => exact ⟨by simp [PyData.showable, show_strs], by simp [PyData.depth, deep_strs]⟩
  | dic e => exact ⟨by simp [PyData.showable, PyData.showableKv], by simp [PyData.depth, PyData.depthKv]⟩
theorem Any.reads (I : Inv X pins σ H s) {v : V} {d : PyData} {u : Value} (h : Any X.K H v d) (r : RelV v u) : ∃ as, Reads s.heap u d as ∧ (d.hasDict = true → sysModules ∉ as) := by
  have go : Dp X.K H v d → d.hasDict = false → ∃ as, Reads s.heap u d as ∧ (d.hasDict = true → sysModules ∉ as) := fun g n => by
    obtain ⟨as, q⟩ := Dp.reads I d v u g r
    exact ⟨as, q, fun z => absurd (n.symm.trans z) (by simp)⟩
  cases h with
  | non => exact go .non (by simp [PyData.hasDict])
  | bl b => exact go (.bl b) (by simp [PyData.hasDict])
  | int i h => exact go (.int i) (by simp [PyData.hasDict])
  | str x => exact go (.str x) (by simp [PyData.hasDict])
  | lst xs h => exact go (.lst h (dpa_str xs)) (by simp [PyData.hasDict, no_dicts])
  | tup xs h => exact go (.tup h (dpa_str xs)) (by simp [PyData.hasDict, no_dicts])
  | @dic a e =>
    obtain rfl : u = Value.ref a := r
    obtain ⟨n, o, es, ep, h1, h2, h3, h4⟩ := dk_nil I e
    refine ⟨[a], Reads.dict (as := []) (bs := []) h1 h2 h3 (by rw [h4]; exact .nil) (by rw [h4]; exact .nil), fun _ z => n (List.mem_singleton.mp z).symm⟩
end
theorem Any.same {K : PySem.W.Frag} {H H' : Hp} {v : V} {d : PyData} (s : ∀ b o, H b = some o → H' b = some o) (h : Any K H v d) : Any K H' v d := by
  cases h with
  | non => exact .non
  | bl b => exact .bl b
  | int i h => exact .int i h
  | str x => exact .str x
  | lst xs h => exact .lst xs (h.elim (fun h => .inl (h.elim (fun h => .inl (s _ _ h)) fun ⟨o, h⟩ => .inr ⟨o, s _ _ h⟩)) fun h => .inr h)
  | tup xs h => exact .tup xs (h.elim (fun h => .inl (h.elim (fun h => .inl (s _ _ h)) fun ⟨o, h⟩ => .inr ⟨o, s _ _ h⟩)) fun h => .inr h)
  | dic e => exact .dic (s _ _ e)
/-! ### in a tuple of texts -/
def isTx (v : V) (xs : List Str) : Bool := xs.any fun z => decide (v = .str z)
def rInAny (K : PySem.W.Frag) : R2 := fun x y H Q => ∃ (d : PyData) (a : Addr) (xs : List Str), y = .ref a ∧ SqT K H a (xs.map V.str) ∧ Any K H x d ∧ Q (.bl (isTx x xs)) H
theorem eq_any {X : Cx} {pins : List (Addr × Obj)} {σ : L2.St} {H : Hp} {s : Shared} (I : Inv X pins σ H s) {A : Around} {v : V} {d : PyData} {u : Value} (z : Str) (t : Tok) (h : Any X.K H v d) (r : RelV v u) (hu : A.units < cLine) : SeqAt.EqAt A s (.str z t) u (decide (v = .str z)) := by
  cases h with
  | non => cases r; rw [decide_eq_false nofun]; exact .str_none z t
  | bl b => cases r; rw [decide_eq_false nofun]; exact .str_bool z t b
  | int i h => obtain ⟨k, rfl⟩ := r; rw [decide_eq_false nofun]; exact .str_int z t i k
  | str x =>
    obtain ⟨k, rfl⟩ := r
    have e := SeqAt.EqAt.str_str (A := A) (s := s) z t x k
    have : decide ((V.str x) = V.str z) = (z == x) := by
      by_cases q : z = x
      · subst q; simp
      · rw [decide_eq_false (fun w => q (V.str.inj w).symm), beq_eq_false_iff_ne.mpr q]
    rw [this]
    exact e
  | @lst a xs h =>
    obtain rfl : u = Value.ref a := r
    obtain ⟨its, _, ⟨o, n, h1, h2, _, h3⟩, _⟩ := I.list h
    rw [decide_eq_false nofun]
    exact .str_list z t ⟨o, h1, h2, n, h3⟩ hu
  | @tup a xs h =>
    obtain rfl : u = Value.ref a := r
    obtain ⟨its, _, ⟨o, h1, h2, n, h3⟩, _⟩ := I.tuple h
    rw [decide_eq_false nofun]
    exact .str_tuple z t ⟨o, h1, h2, n, h3⟩ hu
  | @dic a e =>
    obtain rfl : u = Value.ref a := r
    obtain ⟨_, o, es, ep, h1, h2, h3, _⟩ := dk_nil I e
    rw [decide_eq_false nofun]
    exact .str_dict z t h1 h2 h3 hu
def txE (v : V) : Value → Bool
  | .str z _ => decide (v = .str z)
  | _ => false
theorem any_tx (v : V) : ∀ {xs : List Str} {its : List Value}, Vals (xs.map V.str) its → its.any (txE v) = isTx v xs ∧ ∀ y ∈ its, ∃ z t, y = .str z t
  | [], _, r => by cases r; exact ⟨rfl, fun _ h => nomatch h⟩
  | x :: xs, _, .cons r rs => by
    obtain ⟨t, rfl⟩ := r
    obtain ⟨a, b⟩ := any_tx v rs
    refine ⟨?_, fun y hy => ?_⟩
    · show (txE v (.str x t) || List.any _ (txE v)) = (decide (v = .str x) || isTx v xs)
      rw [a]
      rfl
    · rcases List.mem_cons.mp hy with h | h
      · exact ⟨x, t, h⟩
      · exact b y h
theorem op_inAny {X : Cx} (hu : X.A.units + 1 < cLine) : OpR X (compareOp .In) (rInAny X.K) := by
  intro pins s σ H x y v u Q I rx ry ⟨d, a, xs, e, ht, hx, q⟩
  subst e
  obtain rfl : u = Value.ref a := ry
  obtain ⟨its, rv, ⟨o, h1, h2, n, h3⟩, _⟩ := I.tuple ht
  obtain ⟨e1, e2⟩ := any_tx x rv
  refine SeqAt.in_tupleAt (txE x) (items := its.toArray) ⟨o, h1, h2, n, h3⟩ (fun y hy => ?_) ?_
  · obtain ⟨z, t, rfl⟩ := e2 y (by simpa using hy)
    exact eq_any I z t hx rx hu
  · rw [List.any_toArray, e1]
    exact ⟨.bl _, H, I, rfl, q⟩
/-! ### its text -/
def rReprA (K : PySem.W.Frag) : List V → Hp → VK → Prop := fun xs H Q => ∃ (x : V) (d : PyData), xs = [x] ∧ Any K H x d ∧ d.shown.length ≤ sizeLine ∧ Q (.str d.shown) H
theorem call_reprA {X : Cx} (hg : X.A.guards = some []) (hu : X.A.units + 66 < cLine) : CallR X (.builtin "repr") (rReprA X.K) := by
  intro pins s σ H xs us Q I r ⟨x, d, e, hd, h4, q⟩
  subst e
  obtain ⟨u1, rfl, r1⟩ := vals1 r
  obtain ⟨hs, hp⟩ := hd.show
  have big : ∀ a, x = .ref a → wpAny (model X.prog X.w) X.A (call (.builtin "repr") [u1]) (EP X pins σ Q) X.xe s := fun a ea => by
    subst ea
    obtain ⟨as, rd, hn⟩ := hd.reads I r1
    obtain rfl : u1 = Value.ref a := r1
    exact repr_of_reads' rd hs hn hg (by omega) (fun _ _ z => z) (fun h' u tk hk => ⟨.str d.shown, H, I.kept (t' := tk) hk, ⟨u, rfl⟩, q⟩) h4
  cases hd with
  | non =>
    cases r1
    refine PySem.P.repr_of_none ⟨.str (PyData.shown .none), H, I.tok _, ⟨s.toks, ?_⟩, q⟩
    first | done | simp [PyData.shown]
  | bl b =>
    cases r1
    refine PySem.P.repr_of_bool ⟨.str (PyData.shown (.bool b)), H, I.tok _, ⟨s.toks, ?_⟩, q⟩
    first | done | simp [PyData.shown]
  | int i h =>
    obtain ⟨t, rfl⟩ := r1
    refine PySem.P.repr_of_int h ⟨.str (PyData.shown (.int i)), H, I.tok _, ⟨s.toks, ?_⟩, q⟩
    first | done | simp [PyData.shown]
  | str x =>
    obtain ⟨t, rfl⟩ := r1
    refine PySem.P.repr_of_str ⟨.str (PyData.shown (.str x)), H, I.tok _, ⟨s.toks, ?_⟩, q⟩ (by simpa [PyData.shown] using h4)
    first | done | simp [PyData.shown]
  | lst xs h => exact big _ rfl
  | tup xs h => exact big _ rfl
  | dic e => exact big _ rfl
/-! ### its kind -/
theorem sql_ty {K : PySem.W.Frag} {H : Hp} {a : Addr} {xs : List V} (h : SqL K H a xs) : TyX K H (.ref a) (.type "list") := by
  rcases h with (h | ⟨o, h⟩) | ⟨o, its, n, h, c, _⟩
  · exact .base (.lst h)
  · exact .base (.frz h)
  · exact .kList h c
theorem sqt_tyX {K : PySem.W.Frag} {H : Hp} {a : Addr} {xs : List V} (h : SqT K H a xs) : TyX K H (.ref a) (.type "tuple") := by
  rcases h with (h | ⟨o, h⟩) | ⟨o, its, n, h, c, _⟩
  · exact .base (.tup h)
  · exact .fTuple h
  · exact .kTuple h c
theorem Any.ty {K : PySem.W.Frag} {H : Hp} {x : V} {d : PyData} (h : Any K H x d) : ∃ (T : String) (b : Bool), TyX K H x (.type T) ∧ kitB T "str" = some b ∧ ((b = true ∧ ∃ z, x = .str z) ∨ (b = false ∧ ∀ z, x ≠ .str z)) := by
  cases h with
  | non => exact ⟨"NoneType", false, .base .non, by decide +kernel, .inr ⟨rfl, nofun⟩⟩
  | bl b => exact ⟨"bool", false, .base (.bl b), by decide +kernel, .inr ⟨rfl, nofun⟩⟩
  | int i h => exact ⟨"int", false, .base (.int i), by decide +kernel, .inr ⟨rfl, nofun⟩⟩
  | str z => exact ⟨"str", true, .base (.str z), by decide +kernel, .inl ⟨rfl, z, rfl⟩⟩
  | lst xs h => exact ⟨"list", false, sql_ty h, by decide +kernel, .inr ⟨rfl, nofun⟩⟩
  | tup xs h => exact ⟨"tuple", false, sqt_tyX h, by decide +kernel, .inr ⟨rfl, nofun⟩⟩
  | dic e => exact ⟨"dict", false, .base (.dK e), by decide +kernel, .inr ⟨rfl, nofun⟩⟩
end Xv

/-! several except clauses, each with the same name; == with what is no instance -/
namespace Xv
open PySem PySem.Spec PyProof.Rows L2
/-- what the clauses wish of an exception of the body; slot i is the name's -/
def wManyA (K : PySem.W.Frag) (i : Nat) (Wout : WX) (D : Ends) : List (Value × (Addr → Value → Option Addr → TS)) → WX
  | [] => Wout
  | (c, ts) :: r => fun cls d σ H => ∃ b, PySem.W.exmOne K cls c = some b ∧ (b = true → ∀ a, H a = none → ts a cls d { nx := fun σ' H' => D.nx (σ'.set i none) H', rt := D.rt, bk := fun σ' H' => D.bk (σ'.set i none) H', ct := fun σ' H' => D.ct (σ'.set i none) H' } (σ.set i (some (.ref a))) H) ∧
    (b = false → wManyA K i Wout D r cls d σ H)
inductive HdsOkA (X : Cx) (n : Str) : List ExceptHandler → List (Value × (Addr → Value → Option Addr → TS)) → Prop
  | nil : HdsOkA X n [] []
  | cons {x : Str} {c : Value} {ts : Addr → Value → Option Addr → TS} {b₀ : Stmt} {suite : List Stmt} {np pos' : Pos} {hds : List ExceptHandler} {l : List (Value × (Addr → Value → Option Addr → TS))} (hc : Names X x c)
      (hsu : ∀ (a : Addr) (oe : Obj) (cls : Value) (d : Option Addr) (pn : List (Addr × Obj)), Zc cls d oe → (∃ vs, oe.data = .fields vs) → PSs (X.suite a ((a, oe) :: pn)) (b₀ :: suite) (ts a cls d)) (r : HdsOkA X n hds l) :
      HdsOkA X n (.ExceptHandler (some (.Name x np)) (some n) (b₀ :: suite) pos' :: hds) ((c, ts) :: l)
section
variable {X : Cx} {n : Str} {i : Nat} {body : List Stmt} {h₀ : ExceptHandler} {hds : List ExceptHandler} {l : List (Value × (Addr → Value → Option Addr → TS))} {pos : Pos} {tb : WX → TS} {Wout : WX}
theorem ps_try_manyA (hs : X.stack = X.env :: X.outer) (hf : X.env.frame = some X.env.locals) (hN : X.N.Nodup) (hi : X.N[i]? = some n) (hln : X.env.kindOf n = some .local) (tk : Takes X Wout)
    (hb : ∀ (W : WX) (pn : List (Addr × Obj)) (xe : Value → Shared → Prop), Takes (X.tr pn xe) W → PassesOwn (model X.prog X.w) X.A X.env xe → PSs (X.tr pn xe) body (tb W))
    (hh : HdsOkA X n (h₀ :: hds) l) : PS X (.Try body (h₀ :: hds) [] [] pos) (fun D σ H => tb (wManyA X.K i Wout D l) D σ H) := by
  refine ⟨fun pins s σ H D I h => ?_⟩
  have ok := I.ok
  have hfr : X.A.frames = some (X.env :: X.outer) := by rw [ok.frames, hs]
  have hloc : Loc X.env.scope n := .inl hln
  refine wpAny_Try_except ?_
  refine wpAny_mono ((hb (wManyA X.K i Wout D l) (X.pn ++ pins) (fun e s₁ => wpAny (model X.prog X.w) X.A (noteFrame e X.env) (fun _ s₂ => wpAny (model X.prog X.w) X.A (setFlight e none) (fun _ s₃ =>
    wpAny (model X.prog X.w) X.A (handleBy e X.env (h₀ :: hds)) (SP X pins D) X.xe s₃) X.xe s₂) X.xe s₁) (fun u s' xx => ?_) PassesOwn.looking).run [] s σ H D (I.toTry _) h) (fun f s1 hsp => ?_) (fun e s1 he => he)
  · obtain ⟨a, B, sI, pins', σ', H', cls, d, rfl, J', nb, up, sky, na, os, ag, w⟩ := xx
    have J : Inv X pins σ' H' sI := J'.ofTry ok
    have sky' : Sky B (X.env :: X.outer) a (Zc cls d) X.env.locals s'.heap := by rw [← hs]; exact sky
    show wpAny (model X.prog X.w) X.A (noteFrame (.ref a) X.env) _ _ _
    refine Sky.land Zc.steady hfr hf sky' fun h3 fl3 up3 => ?_
    have J3 : Inv X pins σ' H' { s' with heap := h3 } := J.landed nb fl3.1 (up.trans up3) os ag
    obtain ⟨oe3, vs3, he3, hz3, hd3⟩ := fl3.there
    have notFr : ∀ {h : Heap} {o : Obj} {vs : Array Value}, h.FunFrames B (X.env :: X.outer) → h.get? a = some o → o.data = .fields vs → a ∉ frs (X.env :: X.outer) := fun {h o vs} ff e dd hm => by
      obtain ⟨_, o', e', hnf⟩ := ff.mem hm
      rw [e] at e'; cases e'
      exact hnf _ dd
    have nfr := notFr fl3.2.2.1 he3 hd3
    have nL : a ≠ X.env.locals := fun z => nfr (List.mem_filterMap.mpr ⟨X.env, List.mem_cons_self, by rw [hf, z]⟩)
    have nF : a ∉ X.fs := fun hm => by
      obtain ⟨e, he, q⟩ := List.mem_filterMap.mp hm
      exact nfr (List.mem_filterMap.mpr ⟨e, List.mem_cons_of_mem _ he, q⟩)
    have S3 := J3.suite he3 hd3 na nL nF
    have go : ∀ {hds' : List ExceptHandler} {l' : List (Value × (Addr → Value → Option Addr → TS))}, HdsOkA X n hds' l' → wManyA X.K i Wout D l' cls d σ' H' →
        wpAny (model X.prog X.w) X.A (handleBy (.ref a) X.env hds') (SP X pins D) X.xe { s' with heap := h3 } := by
      intro hds' l' hk
      induction hk with
      | nil =>
        intro w
        refine wpAny_handleBy_nil ?_
        obtain ⟨k1, k2, k3, oe, vs, T, oT, ts', he, hz, hd, h1, hr⟩ := id fl3
        unfold PySem.passOn
        refine wpAny_bind (wpAny_field he hd h1 ?_)
        rw [if_neg (show ¬ ((Value.ref T == Value.none) = true) from by simp)]
        have fin : wpAny (model X.prog X.w) X.A (setFlight (.ref a) X.env.frame) (fun _ s4 => wpAny (model X.prog X.w) X.A (throw (.ref a) : Sem Flow) (SP X pins D) X.xe s4) X.xe { s' with heap := h3 } := by
          rw [hf]
          refine HandSPX.setFlight_upZ fl3 fun h4 hh4 up4 => wpAny_throw (tk _ _ ?_)
          exact ⟨a, B, sI, pins, σ', H', cls, d, rfl, J, nb, (up.trans up3).trans up4, .inr (.inr (by rw [hs]; exact hh4)), na, os, ag, w⟩
        first
          | exact wpAny_bind (wpAny_pure (wpAny_bind fin))
          | exact wpAny_bind fin
      | @cons x c ts b₀ suite np pos' hds2 l2 hc hsu r ih =>
        intro w
        obtain ⟨b, hb1, hyes, hno⟩ := w
        refine wpAny_handleBy_cons (codeAny_handlers_test ?_) (by intro q; cases q)
        have LT : PySem.W.Looks (model X.prog X.w) h3 (typeOf (.ref a)) cls := fun A Q E s k q => wpAny_typeOf_ref (k _ _ he3) (by rw [hz3.1]; exact q)
        have LM := PySem.W.exm_one (M := model X.prog X.w) (J3.kIn) LT hb1
        have test : ∀ {Q : Value → Shared → Prop} {E : Value → Shared → Prop}, Q c { s' with heap := h3 } → wpAny (model X.prog X.w) (X.A.mark (some (.ref a))) (eval (.Name x np) X.env) Q E { s' with heap := h3 } := fun {Q E} q => by
          obtain ⟨hg, hdbg, hm | ⟨hm, hv, hnn⟩⟩ := hc
          · exact ld_glob (X := X.suite a ((a, oe3) :: (X.pn ++ pins))) S3 hg hm q hdbg
          · exact ld_blt (X := X.suite a ((a, oe3) :: (X.pn ++ pins))) S3 hg hm hv q hnn hdbg
        refine test (LM.here ?_)
        cases b with
        | true =>
          refine codeAny_handlers_suite_as ?_
          refine HandSPX.lands_againZ fl3 fun h4 fl4 up4 => ?_
          have J4 : Inv X pins σ' H' { s' with heap := h4 } := J.landed nb fl4.1 ((up.trans up3).trans up4) os ag
          obtain ⟨oe4, vs4, he4, hz4, hd4⟩ := fl4.there
          have S4 := J4.suite he4 hd4 na nL nF
          refine store_ok (X := X.suite a ((a, oe4) :: (X.pn ++ pins))) (v := .ref a) S4 hN hi hloc rfl (fun s5 S5 => ?_) (.inr hln)
          refine wpAny_mono ((hsu a oe4 cls d (X.pn ++ pins) hz4 ⟨_, hd4⟩).run [] s5 _ H' _ S5 (hyes rfl a na)) (fun f s6 hsp => ?_) (fun _ _ z => False.elim z)
          have end_ : ∀ {σ6 : L2.St} {H6 : Hp} {Q : Shared → Prop}, Inv (X.suite a ((a, oe4) :: (X.pn ++ pins))) [] σ6 H6 s6 → (∀ s7, Inv X pins (σ6.set i none) H6 s7 → Q s7) →
              wpAny (model X.prog X.w) X.A (do bindName X.env n .none; unbindBehindTheSuite X.env n pos') (fun _ s7 => Q s7) X.xe s6 := fun {σ6 H6 Q} S6 hq => gone_ok (S6.unsuite ok) hN hi hln hq
          cases f with
          | next =>
            obtain ⟨σ6, H6, S6, q6⟩ := hsp
            exact end_ S6 fun s7 J7 => ⟨_, _, J7, q6⟩
          | brk =>
            obtain ⟨σ6, H6, S6, q6⟩ := hsp
            exact end_ S6 fun s7 J7 => ⟨_, _, J7, q6⟩
          | cont =>
            obtain ⟨σ6, H6, S6, q6⟩ := hsp
            exact end_ S6 fun s7 J7 => ⟨_, _, J7, q6⟩
          | ret u =>
            obtain ⟨v6, σ6, H6, S6, r6, q6⟩ := hsp
            exact end_ S6 fun s7 J7 => ⟨_, _, _, J7, r6, q6⟩
        | false =>
          show wpAny _ X.A (handleBy (.ref a) X.env hds2) _ _ _
          exact ih (hno rfl)
    exact go hh w
  · cases f with
    | next =>
      obtain ⟨σ', H', J', q⟩ := hsp
      exact wpAny_execs_nil ⟨σ', H', J'.ofTry ok, q⟩
    | brk =>
      obtain ⟨σ', H', J', q⟩ := hsp
      exact ⟨σ', H', J'.ofTry ok, q⟩
    | cont =>
      obtain ⟨σ', H', J', q⟩ := hsp
      exact ⟨σ', H', J'.ofTry ok, q⟩
    | ret u =>
      obtain ⟨v, σ', H', J', r, q⟩ := hsp
      exact ⟨v, σ', H', J'.ofTry ok, r, q⟩
end
/-! ### an instance == a list, == a number -/
inductive Oth (K : PySem.W.Frag) (H : Hp) : V → Value → Prop
  | lst {a : Addr} {xs : List V} (h : SqL K H a xs) : Oth K H (.ref a) (.type "list")
  | int (i : Int) : Oth K H (.int i) (.type "int")
def rOwnT (C : Addr) (sp : Sp) (K : PySem.W.Frag) : R2 := fun x y H Q => ∃ a dx fs t, x = .ref a ∧ H a = some (.ins C dx fs) ∧ ((∃ b dy gs, y = .ref b ∧ H b = some (.ins C dy gs) ∧ t = .ref C) ∨ Oth K H y t) ∧ PySem.W.notFirst K C t = true ∧ sp [.ref a, y] H Q E0
theorem op_own_eqT {X : Cx} {n : Nat} {C f : Addr} {fd : FuncData} {ps : List Str} {sp : Sp} (O : Ow.OwnFn X n C "__eq__" f fd ps sp) : OpR X (compareOp .Eq) (rOwnT C sp X.K) := by
  intro pins s σ H x y v u Q I rx ry hq
  obtain ⟨a, dx, fs, t, rfl, ha, ht, hn, h⟩ := hq
  cases rx
  obtain ⟨mA, J, _⟩ := ins_get I.hok ha
  obtain ⟨od, J, _⟩ := J.look
  obtain ⟨m, F⟩ := I.fr
  have LT : PySem.W.Looks (model X.prog X.w) s.heap (typeOf u) t := by
    rcases ht with ⟨b, dy, gs, rfl, hb, rfl⟩ | ht
    · cases ry
      obtain ⟨mB, J', _⟩ := ins_get I.hok hb
      obtain ⟨od', J', _⟩ := J'.look
      exact J'.type
    · cases ht with
      | @lst b xs hh =>
        obtain rfl : u = Value.ref b := ry
        obtain ⟨its, _, ⟨o, n, h1, h2, _, h3⟩, _⟩ := I.list hh
        exact fun A Q E s k q => wpAny_typeOf_ref (k _ _ h1) (by rw [h2]; exact q)
      | int i =>
        obtain ⟨k, rfl⟩ := ry
        exact PySem.W.Looks.of_pure rfl
  show wpAny _ _ (richCompare .Eq (.ref a) u) _ _ _
  exact PySem.W.cmp_K (tb := t) O.rm.units0 F I.ok.mod.kin J LT hn O.at_ O.fn (wpAny_mono (O.run (vs := [.ref a, y]) I (.cons rfl (.cons ry .nil)) h) (fun _ _ z => Ow.backs z) fun _ _ z => z)
end Xv

namespace K22
open PySem PySem.Spec PyProof.Rows L2
/-! ### the defs of the text -/
def top (i : Nat) : Stmt := PySem.Challenge.pw_pairlaws_k22_frames.main.body.getD i (.Pass ⟨0, 0, 0, 0⟩)
abbrev sIsWord : Stmt := top 11
def dIsWord : He.DefD := ⟨("is_word", none), "is_word", "is_word", defArgs (top 11), defBody (top 11), defScope (top 11), [], []⟩
abbrev sFirstAgain : Stmt := top 12
def dFirstAgain : He.DefD := ⟨("first_again", none), "first_again", "first_again", defArgs (top 12), defBody (top 12), defScope (top 12), [], []⟩
abbrev sCheckNames : Stmt := top 13
def dCheckNames : He.DefD := ⟨("check_names", none), "check_names", "check_names", defArgs (top 13), defBody (top 13), defScope (top 13), [], []⟩
abbrev sCheckEnds : Stmt := top 15
def dCheckEnds : He.DefD := ⟨("_check_ends", none), "_check_ends", "_check_ends", defArgs (top 15), defBody (top 15), defScope (top 15), [], []⟩
abbrev sCheckTotals : Stmt := top 16
def dCheckTotals : He.DefD := ⟨("_check_totals", none), "_check_totals", "_check_totals", defArgs (top 16), defBody (top 16), defScope (top 16), [], []⟩
abbrev sStepOf : Stmt := top 17
def dStepOf : He.DefD := ⟨("_step_of", none), "_step_of", "_step_of", defArgs (top 17), defBody (top 17), defScope (top 17), [], []⟩
abbrev sCheckSteps : Stmt := top 18
def dCheckSteps : He.DefD := ⟨("_check_steps", none), "_check_steps", "_check_steps", defArgs (top 18), defBody (top 18), defScope (top 18), [], []⟩
abbrev sLawSource : Stmt := top 21
def dLawSource : He.DefD := ⟨("_law_source", none), "_law_source", "_law_source", defArgs (top 21), defBody (top 21), defScope (top 21), [], []⟩
abbrev sLawPick : Stmt := top 22
def dLawPick : He.DefD := ⟨("_law_pick", none), "_law_pick", "_law_pick", defArgs (top 22), defBody (top 22), defScope (top 22), [], []⟩
abbrev sLawNames : Stmt := top 23
def dLawNames : He.DefD := ⟨("_law_names", none), "_law_names", "_law_names", defArgs (top 23), defBody (top 23), defScope (top 23), [], []⟩
abbrev sLawFrame : Stmt := top 24
def dLawFrame : He.DefD := ⟨("_law_frame", none), "_law_frame", "_law_frame", defArgs (top 24), defBody (top 24), defScope (top 24), [], []⟩
abbrev sLawFramed : Stmt := top 25
def dLawFramed : He.DefD := ⟨("_law_framed", none), "_law_framed", "_law_framed", defArgs (top 25), defBody (top 25), defScope (top 25), [], []⟩
abbrev sLawWithTotals : Stmt := top 26
def dLawWithTotals : He.DefD := ⟨("_law_with_totals", none), "_law_with_totals", "_law_with_totals", defArgs (top 26), defBody (top 26), defScope (top 26), [], []⟩
abbrev sLawIsWord : Stmt := top 27
def dLawIsWord : He.DefD := ⟨("_law_is_word", none), "_law_is_word", "_law_is_word", defArgs (top 27), defBody (top 27), defScope (top 27), [], []⟩
abbrev sLawTwice : Stmt := top 28
def dLawTwice : He.DefD := ⟨("_law_twice", none), "_law_twice", "_law_twice", defArgs (top 28), defBody (top 28), defScope (top 28), [], []⟩
abbrev sLawRound : Stmt := top 29
def dLawRound : He.DefD := ⟨("_law_round", none), "_law_round", "_law_round", defArgs (top 29), defBody (top 29), defScope (top 29), [], []⟩
abbrev sLawDue : Stmt := top 30
def dLawDue : He.DefD := ⟨("_law_due", none), "_law_due", "_law_due", defArgs (top 30), defBody (top 30), defScope (top 30), [], []⟩
abbrev sLawTold : Stmt := top 31
def dLawTold : He.DefD := ⟨("_law_told", none), "_law_told", "_law_told", defArgs (top 31), defBody (top 31), defScope (top 31), [], []⟩
abbrev sLawBent : Stmt := top 32
def dLawBent : He.DefD := ⟨("_law_bent", none), "_law_bent", "_law_bent", defArgs (top 32), defBody (top 32), defScope (top 32), [], []⟩
abbrev sLawRefused : Stmt := top 33
def dLawRefused : He.DefD := ⟨("_law_refused", none), "_law_refused", "_law_refused", defArgs (top 33), defBody (top 33), defScope (top 33), [], []⟩
abbrev sLawRight : Stmt := top 34
def dLawRight : He.DefD := ⟨("_law_right", none), "_law_right", "_law_right", defArgs (top 34), defBody (top 34), defScope (top 34), [], []⟩
abbrev sLaw : Stmt := top 35
def dLaw : He.DefD := ⟨("law", none), "law", "law", defArgs (top 35), defBody (top 35), defScope (top 35), [], []⟩
abbrev sFrame_Init : Stmt := inClass (top 19) 0
def dFrame_Init : He.DefD := ⟨("Frame", some "__init__"), "__init__", "Frame.__init__", defArgs sFrame_Init, defBody sFrame_Init, defScope sFrame_Init, [], []⟩
abbrev sFrame_Sorts : Stmt := inClass (top 19) 1
def dFrame_Sorts : He.DefD := ⟨("Frame", some "sorts"), "sorts", "Frame.sorts", defArgs sFrame_Sorts, defBody sFrame_Sorts, defScope sFrame_Sorts, [], []⟩
abbrev sFrame_Letters : Stmt := inClass (top 19) 2
def dFrame_Letters : He.DefD := ⟨("Frame", some "letters"), "letters", "Frame.letters", defArgs sFrame_Letters, defBody sFrame_Letters, defScope sFrame_Letters, [], []⟩
abbrev sFrame_Totals : Stmt := inClass (top 19) 3
def dFrame_Totals : He.DefD := ⟨("Frame", some "totals"), "totals", "Frame.totals", defArgs sFrame_Totals, defBody sFrame_Totals, defScope sFrame_Totals, [], []⟩
abbrev sFrame_Ends : Stmt := inClass (top 19) 4
def dFrame_Ends : He.DefD := ⟨("Frame", some "ends"), "ends", "Frame.ends", defArgs sFrame_Ends, defBody sFrame_Ends, defScope sFrame_Ends, [], []⟩
abbrev sFrame_HasSort : Stmt := inClass (top 19) 5
def dFrame_HasSort : He.DefD := ⟨("Frame", some "has_sort"), "has_sort", "Frame.has_sort", defArgs sFrame_HasSort, defBody sFrame_HasSort, defScope sFrame_HasSort, [], []⟩
abbrev sFrame_HasLetter : Stmt := inClass (top 19) 6
def dFrame_HasLetter : He.DefD := ⟨("Frame", some "has_letter"), "has_letter", "Frame.has_letter", defArgs sFrame_HasLetter, defBody sFrame_HasLetter, defScope sFrame_HasLetter, [], []⟩
abbrev sFrame_TotalsFrom : Stmt := inClass (top 19) 7
def dFrame_TotalsFrom : He.DefD := ⟨("Frame", some "totals_from"), "totals_from", "Frame.totals_from", defArgs sFrame_TotalsFrom, defBody sFrame_TotalsFrom, defScope sFrame_TotalsFrom, [], []⟩
abbrev sFrame_Eq : Stmt := inClass (top 19) 8
def dFrame_Eq : He.DefD := ⟨("Frame", some "__eq__"), "__eq__", "Frame.__eq__", defArgs sFrame_Eq, defBody sFrame_Eq, defScope sFrame_Eq, [], []⟩
abbrev sBadName_Init : Stmt := inClass (top 2) 0
def dBadName_Init : He.DefD := ⟨("BadName", some "__init__"), "__init__", "BadName.__init__", defArgs sBadName_Init, defBody sBadName_Init, defScope sBadName_Init, [], []⟩
abbrev sTwiceTold_Init : Stmt := inClass (top 3) 0
def dTwiceTold_Init : He.DefD := ⟨("TwiceTold", some "__init__"), "__init__", "TwiceTold.__init__", defArgs sTwiceTold_Init, defBody sTwiceTold_Init, defScope sTwiceTold_Init, [], []⟩
abbrev sBadFrame_Init : Stmt := inClass (top 4) 0
def dBadFrame_Init : He.DefD := ⟨("BadFrame", some "__init__"), "__init__", "BadFrame.__init__", defArgs sBadFrame_Init, defBody sBadFrame_Init, defScope sBadFrame_Init, [], []⟩
abbrev sComesRound_Init : Stmt := inClass (top 5) 0
def dComesRound_Init : He.DefD := ⟨("ComesRound", some "__init__"), "__init__", "ComesRound.__init__", defArgs sComesRound_Init, defBody sComesRound_Init, defScope sComesRound_Init, [], []⟩
abbrev sUnknownName_Init : Stmt := inClass (top 7) 0
def dUnknownName_Init : He.DefD := ⟨("UnknownName", some "__init__"), "__init__", "UnknownName.__init__", defArgs sUnknownName_Init, defBody sUnknownName_Init, defScope sUnknownName_Init, [], []⟩
def fn0 : List He.DefD := [dIsWord, dFirstAgain, dCheckNames, dCheckEnds, dCheckTotals, dStepOf, dCheckSteps, dLawSource, dLawPick, dLawNames]
def fn1 : List He.DefD := [dLawFrame, dLawFramed, dLawWithTotals, dLawIsWord, dLawTwice, dLawRound, dLawDue, dLawTold, dLawBent, dLawRefused]
def fn2 : List He.DefD := [dLawRight, dLaw, dFrame_Init, dFrame_Sorts, dFrame_Letters, dFrame_Totals, dFrame_Ends, dFrame_HasSort, dFrame_HasLetter, dFrame_TotalsFrom]
def fn3 : List He.DefD := [dFrame_Eq, dBadName_Init, dTwiceTold_Init, dBadFrame_Init, dComesRound_Init, dUnknownName_Init]
def fn : List He.DefD := fn0 ++ (fn1 ++ (fn2 ++ (fn3)))
def fa0 : List He.Fa := [.glo "Frame", .glo "is_word", .glo "first_again", .glo "check_names", .glo "_check_ends", .glo "_check_totals", .glo "_step_of", .glo "_check_steps", .glo "_law_source", .glo "_law_pick"]
def fa1 : List He.Fa := [.glo "_law_names", .glo "_law_frame", .glo "_law_framed", .glo "_law_with_totals", .glo "_law_is_word", .glo "_law_twice", .glo "_law_round", .glo "_law_due", .glo "_law_told", .glo "_law_bent"]
def fa2 : List He.Fa := [.glo "_law_refused", .glo "_law_right", .glo "law", .glo "BadName", .glo "TwiceTold", .glo "BadFrame", .glo "ComesRound", .glo "UnknownName", .free "abs", .free "int"]
def fa3 : List He.Fa := [.free "len", .free "range", .free "enumerate", .free "isinstance", .free "str", .free "tuple", .free "list", .free "set", .free "all", .free "any"]
def fa4 : List He.Fa := [.free "repr", .cls "Frame", .mkr "Frame", .str "_LETTERS" "abcdefghijklmnopqrstuvwxyz", .str "_SIGNS" "abcdefghijklmnopqrstuvwxyz0123456789", .noat "Frame" "_sorts", .noat "Frame" "_letters", .noat "Frame" "_totals", .noat "Frame" "_ends", .meth "Frame" "sorts"]
def fa5 : List He.Fa := [.meth "Frame" "letters", .meth "Frame" "totals", .meth "Frame" "ends", .meth "Frame" "has_sort", .meth "Frame" "has_letter", .meth "Frame" "totals_from", .meth "Frame" "__eq__"]
def fa : List He.Fa := fa0 ++ (fa1 ++ (fa2 ++ (fa3 ++ (fa4 ++ (fa5)))))
def nm0 : List PySem.Str := ["PairError", "BadName", "TwiceTold", "BadFrame", "ComesRound", "NameMissing", "UnknownName", "is_word", "first_again", "check_names"]
def nm1 : List PySem.Str := ["_check_ends", "_check_totals", "_step_of", "_check_steps", "Frame", "_law_source", "_law_pick", "_law_names", "_law_frame", "_law_framed"]
def nm2 : List PySem.Str := ["_law_with_totals", "_law_is_word", "_law_twice", "_law_round", "_law_due", "_law_told", "_law_bent", "_law_refused", "_law_right", "_LETTERS"]
def nm3 : List PySem.Str := ["_SIGNS"]
def nm : List PySem.Str := nm0 ++ (nm1 ++ (nm2 ++ (nm3)))
def CFrame (K : PySem.W.Frag) : Addr := He.ga K "Frame"
def CBadName (K : PySem.W.Frag) : Addr := He.ga K "BadName"
def CTwiceTold (K : PySem.W.Frag) : Addr := He.ga K "TwiceTold"
def CBadFrame (K : PySem.W.Frag) : Addr := He.ga K "BadFrame"
def CComesRound (K : PySem.W.Frag) : Addr := He.ga K "ComesRound"
def CUnknownName (K : PySem.W.Frag) : Addr := He.ga K "UnknownName"
/-- what else is asked of a class -/
def ocB (K : PySem.W.Frag) : Bool := He.eqO (PySem.W.specialIn K (.builtin "object.__class__") "__get__") (some (some (.builtin "getset_descriptor.__get__"))) && decide (PySem.W.takesIn K (.builtin "object.__class__") = some true)
def icB (K : PySem.W.Frag) (C : Addr) : Bool := He.eqO (PySem.W.findIn K (.ref C) "__class__") (some (some (.builtin "object.__class__"))) && decide (PySem.W.mroIn K C (.type "object") = some true)
/-- what is asked of the errors' classes -/
abbrev veB : List Value := [.type "ValueError", .type "Exception", .type "BaseException", .type "object"]
abbrev leB : List Value := [.type "LookupError", .type "Exception", .type "BaseException", .type "object"]
def ecB (K : PySem.W.Frag) (C : Addr) : Bool := (PySem.W.clsIn K C).isSome && (PySem.W.hasDictIn K C && (He.eqO (PySem.W.findIn K (.ref C) "__getattribute__") (some (some (.builtin "BaseException.__getattribute__"))) && (He.eqO (PySem.W.findIn K (.ref C) "__getattr__") (some none) &&
  (He.eqO (PySem.W.findIn K (.ref C) "__setattr__") (some (some (.builtin "object.__setattr__"))) && (He.eqO (PySem.W.findIn K (.ref C) "__class__") (some (some (.builtin "object.__class__"))) && (decide (PySem.W.subIn K (.ref C) (.type "BaseException") = some true) &&
  (decide (PySem.W.mroIn K C (.type "object") = some true) && PySem.W.keepIn K (.ref C))))))))
def xcB (K : PySem.W.Frag) (C : Addr) (f : Str) (bm : List Value) (new : String) : Bool := ecB K C && (PySem.W.excInitIn K C bm new && (PySem.W.excOver K C bm && (He.eqO (PySem.W.findIn K (.ref C) "__init__") (some (some (.ref (He.ma K C "__init__")))) &&
  (decide (PySem.W.typeIn K (.ref (He.ma K C "__init__")) = some (.type "function")) && (He.eqO (PySem.W.takerIn K C f) (some none) && (He.eqO (PySem.W.findIn K (.ref C) f) (some none) && decide (PySem.W.typeIn K (.ref C) = some (.type "type"))))))))
def ECs : List Str := ["BadName", "TwiceTold", "UnknownName", "BadFrame", "ComesRound"]
def exmB (K : PySem.W.Frag) (i : Nat) : Bool := (List.range 5).all fun j => decide (PySem.W.exmOne K (.ref (He.ga K (ECs.getD i ""))) (.ref (He.ga K (ECs.getD j ""))) = some (decide (i = j)))
def exB (K : PySem.W.Frag) : Bool := (decide (PySem.W.kitOne K (.type "str") (.type "str") = some true)) && ((xcB K (CBadName K) "name" veB "ValueError.__new__") && ((xcB K (CTwiceTold K) "name" veB "ValueError.__new__") && ((xcB K (CUnknownName K) "name" leB "LookupError.__new__") && ((xcB K (CBadFrame K) "name" veB "ValueError.__new__") && ((xcB K (CComesRound K) "members" veB "ValueError.__new__") && (((List.range 5).all (exmB K)) && ((icB K (CFrame K) && ocB K) && ((decide (PySem.W.kitOne K (.ref (CFrame K)) (.ref (CFrame K)) = some true)) && (((["list", "int"].all fun T => decide (PySem.W.kitOne K (.type T) (.ref (CFrame K)) = some false) && PySem.W.notFirst K (CFrame K) (.type T))) && ((decide (PySem.W.kitOne K (.ref (CFrame K)) (.type "list") = some false)) && ((He.eqO (PySem.W.findIn K (.ref (CFrame K)) "__ne__") (some (some (.builtin "object.__ne__")))) && (true))))))))))))
def tabs : List He.Tab := []
/-! ### the head's Hook: facts, tables, and one Bool more -/
abbrev AlY : Type := He.AlT × Bool
def obY (n : Nat) (g : Addr → Option Obj) : AlY := (He.obsTG n fa fn tabs g, exB (He.frG g (He.asD g n)))
def hookY (n : Nat) : PySem.W.Hook where
  α := AlY
  obs := fun s => obY n s.heap.get?
  val := fun w => (He.valT fn tabs w, true)
  says := fun w h => ∃ K : PySem.W.Frag, K.In h ∧ He.SaysT fa fn tabs w K ∧ exB K = true
  of := fun _ _ e => ⟨_, He.frG_in, congrArg (fun z : AlY => z.1) e, congrArg (fun z : AlY => z.2) e⟩
  keeps := fun _ _ _ ⟨K, hK, c⟩ k => ⟨K, PySem.W.Frag.In.keeps hK k, c⟩
theorem obY_eq {n : Nat} {g : Addr → Option Obj} {s : Shared} (h : ∀ a, g a = s.heap.get? a) : obY n g = (hookY n).obs s := by
  have e : g = s.heap.get? := funext h
  rw [e] <;> rfl
abbrev R : PySem.W.OpenRow := PySem.W.OpenLaw.row PySem.Challenge.rw_pairlaws_k22_frames
abbrev hk : PySem.W.Hook := hookY 4
def ob (s : PySem.W.SharedT) : AlY := obY 4 (HandSHeadRun.getT s)
theorem ob_eq (s : PySem.W.SharedT) : ob s = hk.obs s.abs := obY_eq (HandSHeadRun.getT_eq s)
/-! ### what the head has told, in hand -/
structure Fx (w : World) (K : PySem.W.Frag) (mg : Str → Option Value) : Prop where
  g : ∀ (i : Nat) (x : Str), fa[i]? = some (He.Fa.glo x) → mg x = some (.ref (He.ga K x))
  f : ∀ (i : Nat) (x : Str), fa[i]? = some (He.Fa.free x) → mg x = none
  sLETTERS : ∃ t, mg "_LETTERS" = some (.str "abcdefghijklmnopqrstuvwxyz" t)
  sSIGNS : ∃ t, mg "_SIGNS" = some (.str "abcdefghijklmnopqrstuvwxyz0123456789" t)
  t : He.SaysT fa fn tabs w K
  ex : exB K = true
theorem Fx.of {w : World} {K : PySem.W.Frag} {mg : Str → Option Value} {h : Heap} (X : K.In h) (G : h.Ns mainGlobals mg) (c : He.SaysT fa fn tabs w K) (e : exB K = true) : Fx w K mg :=
  ⟨fun i _ z => He.glo_ok X G (c.d.fact i z), fun i _ z => He.free_ok X G (c.d.fact i z), He.str_ok X G (c.d.fact 43 (f := .str "_LETTERS" "abcdefghijklmnopqrstuvwxyz") rfl), He.str_ok X G (c.d.fact 44 (f := .str "_SIGNS" "abcdefghijklmnopqrstuvwxyz0123456789") rfl), c, e⟩
theorem an {a b : Bool} (h : (a && b) = true) : a = true ∧ b = true := Bool.and_eq_true_iff.mp h
section
variable {w : World} {K : PySem.W.Frag} {mg : Str → Option Value}
theorem Fx.d (Y : Fx w K mg) : He.SaysD fa fn K := Y.t.d
theorem Fx.gFrame (Y : Fx w K mg) : mg "Frame" = some (.ref (He.ga K "Frame")) := Y.g 0 _ rfl
theorem Fx.gIsWord (Y : Fx w K mg) : mg "is_word" = some (.ref (He.ga K "is_word")) := Y.g 1 _ rfl
theorem Fx.gFirstAgain (Y : Fx w K mg) : mg "first_again" = some (.ref (He.ga K "first_again")) := Y.g 2 _ rfl
theorem Fx.gCheckNames (Y : Fx w K mg) : mg "check_names" = some (.ref (He.ga K "check_names")) := Y.g 3 _ rfl
theorem Fx.gCheckEnds (Y : Fx w K mg) : mg "_check_ends" = some (.ref (He.ga K "_check_ends")) := Y.g 4 _ rfl
theorem Fx.gCheckTotals (Y : Fx w K mg) : mg "_check_totals" = some (.ref (He.ga K "_check_totals")) := Y.g 5 _ rfl
theorem Fx.gStepOf (Y : Fx w K mg) : mg "_step_of" = some (.ref (He.ga K "_step_of")) := Y.g 6 _ rfl
theorem Fx.gCheckSteps (Y : Fx w K mg) : mg "_check_steps" = some (.ref (He.ga K "_check_steps")) := Y.g 7 _ rfl
theorem Fx.gLawSource (Y : Fx w K mg) : mg "_law_source" = some (.ref (He.ga K "_law_source")) := Y.g 8 _ rfl
theorem Fx.gLawPick (Y : Fx w K mg) : mg "_law_pick" = some (.ref (He.ga K "_law_pick")) := Y.g 9 _ rfl
theorem Fx.gLawNames (Y : Fx w K mg) : mg "_law_names" = some (.ref (He.ga K "_law_names")) := Y.g 10 _ rfl
theorem Fx.gLawFrame (Y : Fx w K mg) : mg "_law_frame" = some (.ref (He.ga K "_law_frame")) := Y.g 11 _ rfl
theorem Fx.gLawFramed (Y : Fx w K mg) : mg "_law_framed" = some (.ref (He.ga K "_law_framed")) := Y.g 12 _ rfl
theorem Fx.gLawWithTotals (Y : Fx w K mg) : mg "_law_with_totals" = some (.ref (He.ga K "_law_with_totals")) := Y.g 13 _ rfl
theorem Fx.gLawIsWord (Y : Fx w K mg) : mg "_law_is_word" = some (.ref (He.ga K "_law_is_word")) := Y.g 14 _ rfl
theorem Fx.gLawTwice (Y : Fx w K mg) : mg "_law_twice" = some (.ref (He.ga K "_law_twice")) := Y.g 15 _ rfl
theorem Fx.gLawRound (Y : Fx w K mg) : mg "_law_round" = some (.ref (He.ga K "_law_round")) := Y.g 16 _ rfl
theorem Fx.gLawDue (Y : Fx w K mg) : mg "_law_due" = some (.ref (He.ga K "_law_due")) := Y.g 17 _ rfl
theorem Fx.gLawTold (Y : Fx w K mg) : mg "_law_told" = some (.ref (He.ga K "_law_told")) := Y.g 18 _ rfl
theorem Fx.gLawBent (Y : Fx w K mg) : mg "_law_bent" = some (.ref (He.ga K "_law_bent")) := Y.g 19 _ rfl
theorem Fx.gLawRefused (Y : Fx w K mg) : mg "_law_refused" = some (.ref (He.ga K "_law_refused")) := Y.g 20 _ rfl
theorem Fx.gLawRight (Y : Fx w K mg) : mg "_law_right" = some (.ref (He.ga K "_law_right")) := Y.g 21 _ rfl
theorem Fx.gLaw (Y : Fx w K mg) : mg "law" = some (.ref (He.ga K "law")) := Y.g 22 _ rfl
theorem Fx.gBadName (Y : Fx w K mg) : mg "BadName" = some (.ref (He.ga K "BadName")) := Y.g 23 _ rfl
theorem Fx.gTwiceTold (Y : Fx w K mg) : mg "TwiceTold" = some (.ref (He.ga K "TwiceTold")) := Y.g 24 _ rfl
theorem Fx.gBadFrame (Y : Fx w K mg) : mg "BadFrame" = some (.ref (He.ga K "BadFrame")) := Y.g 25 _ rfl
theorem Fx.gComesRound (Y : Fx w K mg) : mg "ComesRound" = some (.ref (He.ga K "ComesRound")) := Y.g 26 _ rfl
theorem Fx.gUnknownName (Y : Fx w K mg) : mg "UnknownName" = some (.ref (He.ga K "UnknownName")) := Y.g 27 _ rfl
theorem Fx.bAbs (Y : Fx w K mg) : mg "abs" = none := Y.f 28 _ rfl
theorem Fx.bInt (Y : Fx w K mg) : mg "int" = none := Y.f 29 _ rfl
theorem Fx.bLen (Y : Fx w K mg) : mg "len" = none := Y.f 30 _ rfl
theorem Fx.bRange (Y : Fx w K mg) : mg "range" = none := Y.f 31 _ rfl
theorem Fx.bEnumerate (Y : Fx w K mg) : mg "enumerate" = none := Y.f 32 _ rfl
theorem Fx.bIsinstance (Y : Fx w K mg) : mg "isinstance" = none := Y.f 33 _ rfl
theorem Fx.bStr (Y : Fx w K mg) : mg "str" = none := Y.f 34 _ rfl
theorem Fx.bTuple (Y : Fx w K mg) : mg "tuple" = none := Y.f 35 _ rfl
theorem Fx.bList (Y : Fx w K mg) : mg "list" = none := Y.f 36 _ rfl
theorem Fx.bSet (Y : Fx w K mg) : mg "set" = none := Y.f 37 _ rfl
theorem Fx.bAll (Y : Fx w K mg) : mg "all" = none := Y.f 38 _ rfl
theorem Fx.bAny (Y : Fx w K mg) : mg "any" = none := Y.f 39 _ rfl
theorem Fx.bRepr (Y : Fx w K mg) : mg "repr" = none := Y.f 40 _ rfl
theorem Fx.dIsWord (Y : Fx w K mg) : ∃ fd, FunD K "is_word" "is_word" (defArgs sIsWord) (defBody sIsWord) (defScope sIsWord) [] [] (He.ga K "is_word") fd := Y.d.def_ 0 (d := K22.dIsWord) rfl
theorem Fx.dFirstAgain (Y : Fx w K mg) : ∃ fd, FunD K "first_again" "first_again" (defArgs sFirstAgain) (defBody sFirstAgain) (defScope sFirstAgain) [] [] (He.ga K "first_again") fd := Y.d.def_ 1 (d := K22.dFirstAgain) rfl
theorem Fx.dCheckNames (Y : Fx w K mg) : ∃ fd, FunD K "check_names" "check_names" (defArgs sCheckNames) (defBody sCheckNames) (defScope sCheckNames) [] [] (He.ga K "check_names") fd := Y.d.def_ 2 (d := K22.dCheckNames) rfl
theorem Fx.dCheckEnds (Y : Fx w K mg) : ∃ fd, FunD K "_check_ends" "_check_ends" (defArgs sCheckEnds) (defBody sCheckEnds) (defScope sCheckEnds) [] [] (He.ga K "_check_ends") fd := Y.d.def_ 3 (d := K22.dCheckEnds) rfl
theorem Fx.dCheckTotals (Y : Fx w K mg) : ∃ fd, FunD K "_check_totals" "_check_totals" (defArgs sCheckTotals) (defBody sCheckTotals) (defScope sCheckTotals) [] [] (He.ga K "_check_totals") fd := Y.d.def_ 4 (d := K22.dCheckTotals) rfl
theorem Fx.dStepOf (Y : Fx w K mg) : ∃ fd, FunD K "_step_of" "_step_of" (defArgs sStepOf) (defBody sStepOf) (defScope sStepOf) [] [] (He.ga K "_step_of") fd := Y.d.def_ 5 (d := K22.dStepOf) rfl
theorem Fx.dCheckSteps (Y : Fx w K mg) : ∃ fd, FunD K "_check_steps" "_check_steps" (defArgs sCheckSteps) (defBody sCheckSteps) (defScope sCheckSteps) [] [] (He.ga K "_check_steps") fd := Y.d.def_ 6 (d := K22.dCheckSteps) rfl
theorem Fx.dLawSource (Y : Fx w K mg) : ∃ fd, FunD K "_law_source" "_law_source" (defArgs sLawSource) (defBody sLawSource) (defScope sLawSource) [] [] (He.ga K "_law_source") fd := Y.d.def_ 7 (d := K22.dLawSource) rfl
theorem Fx.dLawPick (Y : Fx w K mg) : ∃ fd, FunD K "_law_pick" "_law_pick" (defArgs sLawPick) (defBody sLawPick) (defScope sLawPick) [] [] (He.ga K "_law_pick") fd := Y.d.def_ 8 (d := K22.dLawPick) rfl
theorem Fx.dLawNames (Y : Fx w K mg) : ∃ fd, FunD K "_law_names" "_law_names" (defArgs sLawNames) (defBody sLawNames) (defScope sLawNames) [] [] (He.ga K "_law_names") fd := Y.d.def_ 9 (d := K22.dLawNames) rfl
theorem Fx.dLawFrame (Y : Fx w K mg) : ∃ fd, FunD K "_law_frame" "_law_frame" (defArgs sLawFrame) (defBody sLawFrame) (defScope sLawFrame) [] [] (He.ga K "_law_frame") fd := Y.d.def_ 10 (d := K22.dLawFrame) rfl
theorem Fx.dLawFramed (Y : Fx w K mg) : ∃ fd, FunD K "_law_framed" "_law_framed" (defArgs sLawFramed) (defBody sLawFramed) (defScope sLawFramed) [] [] (He.ga K "_law_framed") fd := Y.d.def_ 11 (d := K22.dLawFramed) rfl
theorem Fx.dLawWithTotals (Y : Fx w K mg) : ∃ fd, FunD K "_law_with_totals" "_law_with_totals" (defArgs sLawWithTotals) (defBody sLawWithTotals) (defScope sLawWithTotals) [] [] (He.ga K "_law_with_totals") fd := Y.d.def_ 12 (d := K22.dLawWithTotals) rfl
theorem Fx.dLawIsWord (Y : Fx w K mg) : ∃ fd, FunD K "_law_is_word" "_law_is_word" (defArgs sLawIsWord) (defBody sLawIsWord) (defScope sLawIsWord) [] [] (He.ga K "_law_is_word") fd := Y.d.def_ 13 (d := K22.dLawIsWord) rfl
theorem Fx.dLawTwice (Y : Fx w K mg) : ∃ fd, FunD K "_law_twice" "_law_twice" (defArgs sLawTwice) (defBody sLawTwice) (defScope sLawTwice) [] [] (He.ga K "_law_twice") fd := Y.d.def_ 14 (d := K22.dLawTwice) rfl
theorem Fx.dLawRound (Y : Fx w K mg) : ∃ fd, FunD K "_law_round" "_law_round" (defArgs sLawRound) (defBody sLawRound) (defScope sLawRound) [] [] (He.ga K "_law_round") fd := Y.d.def_ 15 (d := K22.dLawRound) rfl
theorem Fx.dLawDue (Y : Fx w K mg) : ∃ fd, FunD K "_law_due" "_law_due" (defArgs sLawDue) (defBody sLawDue) (defScope sLawDue) [] [] (He.ga K "_law_due") fd := Y.d.def_ 16 (d := K22.dLawDue) rfl
theorem Fx.dLawTold (Y : Fx w K mg) : ∃ fd, FunD K "_law_told" "_law_told" (defArgs sLawTold) (defBody sLawTold) (defScope sLawTold) [] [] (He.ga K "_law_told") fd := Y.d.def_ 17 (d := K22.dLawTold) rfl
theorem Fx.dLawBent (Y : Fx w K mg) : ∃ fd, FunD K "_law_bent" "_law_bent" (defArgs sLawBent) (defBody sLawBent) (defScope sLawBent) [] [] (He.ga K "_law_bent") fd := Y.d.def_ 18 (d := K22.dLawBent) rfl
theorem Fx.dLawRefused (Y : Fx w K mg) : ∃ fd, FunD K "_law_refused" "_law_refused" (defArgs sLawRefused) (defBody sLawRefused) (defScope sLawRefused) [] [] (He.ga K "_law_refused") fd := Y.d.def_ 19 (d := K22.dLawRefused) rfl
theorem Fx.dLawRight (Y : Fx w K mg) : ∃ fd, FunD K "_law_right" "_law_right" (defArgs sLawRight) (defBody sLawRight) (defScope sLawRight) [] [] (He.ga K "_law_right") fd := Y.d.def_ 20 (d := K22.dLawRight) rfl
theorem Fx.dLaw (Y : Fx w K mg) : ∃ fd, FunD K "law" "law" (defArgs sLaw) (defBody sLaw) (defScope sLaw) [] [] (He.ga K "law") fd := Y.d.def_ 21 (d := K22.dLaw) rfl
theorem Fx.cFrame (Y : Fx w K mg) : Cls K (CFrame K) := He.cls_ok (Y.d.fact 41 (f := .cls "Frame") rfl)
theorem Fx.mFrame (Y : Fx w K mg) : Mk K (CFrame K) (He.ma K (CFrame K) "__init__") := He.mkr_ok (Y.d.fact 42 (f := .mkr "Frame") rfl)
theorem Fx.dFrame_Init (Y : Fx w K mg) : ∃ fd, FunD K "__init__" "Frame.__init__" (defArgs sFrame_Init) (defBody sFrame_Init) (defScope sFrame_Init) [] [] (He.ma K (CFrame K) "__init__") fd := Y.d.def_ 22 (d := K22.dFrame_Init) rfl
theorem Fx.dFrame_Sorts (Y : Fx w K mg) : ∃ fd, FunD K "sorts" "Frame.sorts" (defArgs sFrame_Sorts) (defBody sFrame_Sorts) (defScope sFrame_Sorts) [] [] (He.ma K (CFrame K) "sorts") fd := Y.d.def_ 23 (d := K22.dFrame_Sorts) rfl
theorem Fx.mFrame_Sorts (Y : Fx w K mg) : Meth K (CFrame K) "sorts" (He.ma K (CFrame K) "sorts") := He.meth_ok (Y.d.fact 49 (f := .meth "Frame" "sorts") rfl)
theorem Fx.dFrame_Letters (Y : Fx w K mg) : ∃ fd, FunD K "letters" "Frame.letters" (defArgs sFrame_Letters) (defBody sFrame_Letters) (defScope sFrame_Letters) [] [] (He.ma K (CFrame K) "letters") fd := Y.d.def_ 24 (d := K22.dFrame_Letters) rfl
theorem Fx.mFrame_Letters (Y : Fx w K mg) : Meth K (CFrame K) "letters" (He.ma K (CFrame K) "letters") := He.meth_ok (Y.d.fact 50 (f := .meth "Frame" "letters") rfl)
theorem Fx.dFrame_Totals (Y : Fx w K mg) : ∃ fd, FunD K "totals" "Frame.totals" (defArgs sFrame_Totals) (defBody sFrame_Totals) (defScope sFrame_Totals) [] [] (He.ma K (CFrame K) "totals") fd := Y.d.def_ 25 (d := K22.dFrame_Totals) rfl
theorem Fx.mFrame_Totals (Y : Fx w K mg) : Meth K (CFrame K) "totals" (He.ma K (CFrame K) "totals") := He.meth_ok (Y.d.fact 51 (f := .meth "Frame" "totals") rfl)
theorem Fx.dFrame_Ends (Y : Fx w K mg) : ∃ fd, FunD K "ends" "Frame.ends" (defArgs sFrame_Ends) (defBody sFrame_Ends) (defScope sFrame_Ends) [] [] (He.ma K (CFrame K) "ends") fd := Y.d.def_ 26 (d := K22.dFrame_Ends) rfl
theorem Fx.mFrame_Ends (Y : Fx w K mg) : Meth K (CFrame K) "ends" (He.ma K (CFrame K) "ends") := He.meth_ok (Y.d.fact 52 (f := .meth "Frame" "ends") rfl)
theorem Fx.dFrame_HasSort (Y : Fx w K mg) : ∃ fd, FunD K "has_sort" "Frame.has_sort" (defArgs sFrame_HasSort) (defBody sFrame_HasSort) (defScope sFrame_HasSort) [] [] (He.ma K (CFrame K) "has_sort") fd := Y.d.def_ 27 (d := K22.dFrame_HasSort) rfl
theorem Fx.mFrame_HasSort (Y : Fx w K mg) : Meth K (CFrame K) "has_sort" (He.ma K (CFrame K) "has_sort") := He.meth_ok (Y.d.fact 53 (f := .meth "Frame" "has_sort") rfl)
theorem Fx.dFrame_HasLetter (Y : Fx w K mg) : ∃ fd, FunD K "has_letter" "Frame.has_letter" (defArgs sFrame_HasLetter) (defBody sFrame_HasLetter) (defScope sFrame_HasLetter) [] [] (He.ma K (CFrame K) "has_letter") fd := Y.d.def_ 28 (d := K22.dFrame_HasLetter) rfl
theorem Fx.mFrame_HasLetter (Y : Fx w K mg) : Meth K (CFrame K) "has_letter" (He.ma K (CFrame K) "has_letter") := He.meth_ok (Y.d.fact 54 (f := .meth "Frame" "has_letter") rfl)
theorem Fx.dFrame_TotalsFrom (Y : Fx w K mg) : ∃ fd, FunD K "totals_from" "Frame.totals_from" (defArgs sFrame_TotalsFrom) (defBody sFrame_TotalsFrom) (defScope sFrame_TotalsFrom) [] [] (He.ma K (CFrame K) "totals_from") fd := Y.d.def_ 29 (d := K22.dFrame_TotalsFrom) rfl
theorem Fx.mFrame_TotalsFrom (Y : Fx w K mg) : Meth K (CFrame K) "totals_from" (He.ma K (CFrame K) "totals_from") := He.meth_ok (Y.d.fact 55 (f := .meth "Frame" "totals_from") rfl)
theorem Fx.dFrame_Eq (Y : Fx w K mg) : ∃ fd, FunD K "__eq__" "Frame.__eq__" (defArgs sFrame_Eq) (defBody sFrame_Eq) (defScope sFrame_Eq) [] [] (He.ma K (CFrame K) "__eq__") fd := Y.d.def_ 30 (d := K22.dFrame_Eq) rfl
theorem Fx.mFrame_Eq (Y : Fx w K mg) : Meth K (CFrame K) "__eq__" (He.ma K (CFrame K) "__eq__") := He.meth_ok (Y.d.fact 56 (f := .meth "Frame" "__eq__") rfl)
theorem Fx.dBadName_Init (Y : Fx w K mg) : ∃ fd, FunD K "__init__" "BadName.__init__" (defArgs sBadName_Init) (defBody sBadName_Init) (defScope sBadName_Init) [] [] (He.ma K (CBadName K) "__init__") fd := Y.d.def_ 31 (d := K22.dBadName_Init) rfl
theorem Fx.dTwiceTold_Init (Y : Fx w K mg) : ∃ fd, FunD K "__init__" "TwiceTold.__init__" (defArgs sTwiceTold_Init) (defBody sTwiceTold_Init) (defScope sTwiceTold_Init) [] [] (He.ma K (CTwiceTold K) "__init__") fd := Y.d.def_ 32 (d := K22.dTwiceTold_Init) rfl
theorem Fx.dBadFrame_Init (Y : Fx w K mg) : ∃ fd, FunD K "__init__" "BadFrame.__init__" (defArgs sBadFrame_Init) (defBody sBadFrame_Init) (defScope sBadFrame_Init) [] [] (He.ma K (CBadFrame K) "__init__") fd := Y.d.def_ 33 (d := K22.dBadFrame_Init) rfl
theorem Fx.dComesRound_Init (Y : Fx w K mg) : ∃ fd, FunD K "__init__" "ComesRound.__init__" (defArgs sComesRound_Init) (defBody sComesRound_Init) (defScope sComesRound_Init) [] [] (He.ma K (CComesRound K) "__init__") fd := Y.d.def_ 34 (d := K22.dComesRound_Init) rfl
theorem Fx.dUnknownName_Init (Y : Fx w K mg) : ∃ fd, FunD K "__init__" "UnknownName.__init__" (defArgs sUnknownName_Init) (defBody sUnknownName_Init) (defScope sUnknownName_Init) [] [] (He.ma K (CUnknownName K) "__init__") fd := Y.d.def_ 35 (d := K22.dUnknownName_Init) rfl
theorem Fx.nFrameSorts (Y : Fx w K mg) : NoAttr K (CFrame K) "_sorts" := He.noat_ok (Y.d.fact 45 (f := .noat "Frame" "_sorts") rfl)
theorem Fx.nFrameLetters (Y : Fx w K mg) : NoAttr K (CFrame K) "_letters" := He.noat_ok (Y.d.fact 46 (f := .noat "Frame" "_letters") rfl)
theorem Fx.nFrameTotals (Y : Fx w K mg) : NoAttr K (CFrame K) "_totals" := He.noat_ok (Y.d.fact 47 (f := .noat "Frame" "_totals") rfl)
theorem Fx.nFrameEnds (Y : Fx w K mg) : NoAttr K (CFrame K) "_ends" := He.noat_ok (Y.d.fact 48 (f := .noat "Frame" "_ends") rfl)
theorem Fx.x0 (Y : Fx w K mg) : (decide (PySem.W.kitOne K (.type "str") (.type "str") = some true)) = true := (an Y.ex).1
theorem Fx.x1 (Y : Fx w K mg) : (xcB K (CBadName K) "name" veB "ValueError.__new__") = true := (an (an Y.ex).2).1
theorem Fx.x2 (Y : Fx w K mg) : (xcB K (CTwiceTold K) "name" veB "ValueError.__new__") = true := (an (an (an Y.ex).2).2).1
theorem Fx.x3 (Y : Fx w K mg) : (xcB K (CUnknownName K) "name" leB "LookupError.__new__") = true := (an (an (an (an Y.ex).2).2).2).1
theorem Fx.x4 (Y : Fx w K mg) : (xcB K (CBadFrame K) "name" veB "ValueError.__new__") = true := (an (an (an (an (an Y.ex).2).2).2).2).1
theorem Fx.x5 (Y : Fx w K mg) : (xcB K (CComesRound K) "members" veB "ValueError.__new__") = true := (an (an (an (an (an (an Y.ex).2).2).2).2).2).1
theorem Fx.x6 (Y : Fx w K mg) : ((List.range 5).all (exmB K)) = true := (an (an (an (an (an (an (an Y.ex).2).2).2).2).2).2).1
theorem Fx.x7 (Y : Fx w K mg) : (icB K (CFrame K) && ocB K) = true := (an (an (an (an (an (an (an (an Y.ex).2).2).2).2).2).2).2).1
theorem Fx.x8 (Y : Fx w K mg) : (decide (PySem.W.kitOne K (.ref (CFrame K)) (.ref (CFrame K)) = some true)) = true := (an (an (an (an (an (an (an (an (an Y.ex).2).2).2).2).2).2).2).2).1
theorem Fx.x9 (Y : Fx w K mg) : ((["list", "int"].all fun T => decide (PySem.W.kitOne K (.type T) (.ref (CFrame K)) = some false) && PySem.W.notFirst K (CFrame K) (.type T))) = true := (an (an (an (an (an (an (an (an (an (an Y.ex).2).2).2).2).2).2).2).2).2).1
theorem Fx.x10 (Y : Fx w K mg) : (decide (PySem.W.kitOne K (.ref (CFrame K)) (.type "list") = some false)) = true := (an (an (an (an (an (an (an (an (an (an (an Y.ex).2).2).2).2).2).2).2).2).2).2).1
theorem Fx.x11 (Y : Fx w K mg) : (He.eqO (PySem.W.findIn K (.ref (CFrame K)) "__ne__") (some (some (.builtin "object.__ne__")))) = true := (an (an (an (an (an (an (an (an (an (an (an (an Y.ex).2).2).2).2).2).2).2).2).2).2).2).1
end
/-- the world, its one habit that the top asks for told by a Bool -/
def wB (w : World) (b : Bool) : World := { w with params := { w.params with followText := fun s => if s == "special-get-raises" then b else w.params.followText s } }
theorem wB_eq (w : World) : wB w (w.params.followText "special-get-raises") = w := by
  have e : (fun s : String => if s == "special-get-raises" then w.params.followText "special-get-raises" else w.params.followText s) = w.params.followText := by
    funext s
    by_cases h : s = "special-get-raises"
    · subst h
      simp
    · simp [h]
  unfold wB
  rw [e]
theorem runT (w : World) : HandSHeadRun.RunEq R (PySem.W.view R.prog [35]) hk ob 40000 nm (wB w true) := by
  intro os
  kernel_rfl
theorem runF (w : World) : HandSHeadRun.RunEq R (PySem.W.view R.prog [35]) hk ob 40000 nm (wB w false) := by
  intro os
  kernel_rfl
theorem run (w : World) : HandSHeadRun.RunEq R (PySem.W.view R.prog [35]) hk ob 40000 nm w := by
  have h : ∀ b, HandSHeadRun.RunEq R (PySem.W.view R.prog [35]) hk ob 40000 nm (wB w b) := fun b => match b with
    | true => runT w
    | false => runF w
  rw [← wB_eq w]
  exact h _

end K22

namespace K22
open PySem PySem.Spec PyProof.Rows L2
abbrev sSrc : Stmt := sLawSource
abbrev sPick : Stmt := sLawPick
abbrev FnP (K : PySem.W.Frag) (x : Str) (st : Stmt) (f : Addr) (fd : FuncData) : Prop := FunD K x x (defArgs st) (defBody st) (defScope st) [] [] f fd
/-! an if whose test is known not to hold -/
def tIfN (tc : TT) (u : TS) : TS := fun D σ H => tc σ H fun k H1 => k = false ∧ u D σ H1
theorem ps_ifN {X : Cx} {c : Expr} {a b : List Stmt} {tc : TT} {u : TS} {pos : Pos} (hc : PT X c tc) (hb : PSs X b u) : PS X (.If c a b pos) (tIfN tc u) := by
  refine ⟨fun pins s σ H D I h => ?_⟩
  refine wpAny_If (thn (hc.run pins s σ H _ I h) fun d s1 ⟨H1, I1, e, q1⟩ => ?_)
  subst e
  exact hb.run pins s1 σ H1 D I1 q1
/-- the source's pairs -/
def skv (c : Addr) (l m t : Int) : List (Key × V) := [(.inr "cells", .ref c), (.inr "left", .int l), (.inr "mixed", .int m), (.inr "turn", .int t)]
theorem skv_cells (c : Addr) (l m t : Int) : valV (skv c l m t) (.inr "cells") = some (.ref c) := by rfl
theorem skv_left (c : Addr) (l m t : Int) : valV (skv c l m t) (.inr "left") = some (.int l) := by rfl
theorem skv_mixed (c : Addr) (l m t : Int) : valV (skv c l m t) (.inr "mixed") = some (.int m) := by rfl
theorem skv_turn (c : Addr) (l m t : Int) : valV (skv c l m t) (.inr "turn") = some (.int t) := by rfl
theorem put_left (c : Addr) (l m t y : Int) : putK (skv c l m t) (.inr "left") (.int y) = skv c y m t := by rfl
theorem put_turn (c : Addr) (l m t y : Int) : putK (skv c l m t) (.inr "turn") (.int y) = skv c l m y := by rfl
theorem skv_merge (c : Addr) (l m t : Int) : mergeK [] (skv c l m t) = skv c l m t := by rfl

theorem dg_cells {H : Hp} {d c : Addr} {l m t : Int} (h : H d = some (.dK (skv c l m t))) : DGet H d (.str "cells") (some (.ref c)) := by
  have z : DGet H d (kV (.inr "cells")) (valV (skv c l m t) (.inr "cells")) := DGet.k h
  rw [skv_cells] at z
  exact z
theorem dg_left {H : Hp} {d c : Addr} {l m t : Int} (h : H d = some (.dK (skv c l m t))) : DGet H d (.str "left") (some (.int l)) := by
  have z : DGet H d (kV (.inr "left")) (valV (skv c l m t) (.inr "left")) := DGet.k h
  rw [skv_left] at z
  exact z
theorem dg_mixed {H : Hp} {d c : Addr} {l m t : Int} (h : H d = some (.dK (skv c l m t))) : DGet H d (.str "mixed") (some (.int m)) := by
  have z : DGet H d (kV (.inr "mixed")) (valV (skv c l m t) (.inr "mixed")) := DGet.k h
  rw [skv_mixed] at z
  exact z
theorem dg_turn {H : Hp} {d c : Addr} {l m t : Int} (h : H d = some (.dK (skv c l m t))) : DGet H d (.str "turn") (some (.int t)) := by
  have z : DGet H d (kV (.inr "turn")) (valV (skv c l m t) (.inr "turn")) := DGet.k h
  rw [skv_turn] at z
  exact z
theorem dp_left {H : Hp} {d c : Addr} {l m t y : Int} (h : H d = some (.dK (skv c l m t))) : DPut H d (.str "left") (.int y) (upd H d (.dK (skv c y m t))) := by
  have z : DPut H d (kV (.inr "left")) (.int y) (upd H d (.dK (putK (skv c l m t) (.inr "left") (.int y)))) := DPut.k h (by show 4 < sizeLine; decide)
  rw [put_left] at z
  exact z
theorem dp_turn {H : Hp} {d c : Addr} {l m t y : Int} (h : H d = some (.dK (skv c l m t))) : DPut H d (.str "turn") (.int y) (upd H d (.dK (skv c l m y))) := by
  have z : DPut H d (kV (.inr "turn")) (.int y) (upd H d (.dK (putK (skv c l m t) (.inr "turn") (.int y)))) := DPut.k h (by show 4 < sizeLine; decide)
  rw [put_turn] at z
  exact z
theorem scS : FnScope ["_law_script", "_law_mixed", "_law_cell", "_law_cells", "_law_k"] ["_law_script"] (defScope sSrc) := ⟨rfl, rfl, rfl, by decide +kernel, rfl, by decide +kernel, by decide +kernel⟩
theorem scP : FnScope ["_law_source_here", "_law_many", "_law_cells", "_law_left", "_law_turn", "_law_mixed"] ["_law_source_here", "_law_many"] (defScope sPick) := ⟨rfl, rfl, rfl, by decide +kernel, rfl, by decide +kernel, by decide +kernel⟩
/-- the source at d, its cells at c -/
def SrcAt (H : Hp) (d c : Addr) : Prop := ∃ (xs : List Int) (l m t : Int), H c = some (.lst (xs.map V.int)) ∧ xs.length ≤ 63 ∧ H d = some (.dK (skv c l m t))
def spSrc (K : PySem.W.Frag) : Sp := fun vs H Q _ => ∃ (a : Addr) (ns : List Int), vs = [.ref a] ∧ SqL K H a (ns.map V.int) ∧ ns.length ≤ 63 ∧
  ∀ (d c : Addr) (H' : Hp), Same H H' → H d = none → H c = none → SrcAt H' d c → Q (.ref d) H'
def spPick : Sp := fun vs H Q _ => ∃ (d c : Addr) (n : Int), vs = [.ref d, .int n] ∧ SrcAt H d c ∧ 1 ≤ n ∧ n ≤ 1000 ∧
  ∀ (r : Int) (H' : Hp), 0 ≤ r → r < n → SrcAt H' d c → (∀ b, b ≠ d → b ≠ c → H' b = H b) → Q (.int r) H'
/-- the built-in names that the text reads -/
structure Bl (mg : Str → Option Value) : Prop where
  abs : mg "abs" = none
  int : mg "int" = none
  len : mg "len" = none
  range : mg "range" = none
  str : mg "str" = none
theorem Fx.bl {w : World} {K : PySem.W.Frag} {mg : Str → Option Value} (Y : Fx w K mg) : Bl mg := ⟨Y.bAbs, Y.bInt, Y.bLen, Y.bRange, Y.bStr⟩
section
variable {P : Program} {w : World} {K : PySem.W.Frag} {mg : Str → Option Value} {base : Heap}
theorem nosl {i : Expr} (h : ∀ ov iv, subscripted i false ov iv = operate [ov, iv] (getItem ov iv) := by intro _ _; rfl) : NoSl i := h
theorem okD {x qual : Str} {params : Arguments} {body : List Stmt} {scope : Scope} {dvs : List V} {kws : List (Str × V)} {f : Addr} {fd : FuncData} {N ps : List Str} {k : Nat} {sp : Sp} (F : FunD K x qual params body scope dvs kws f fd) (S : FnScope N ps scope) (len : ∀ vs H Q E, sp vs H Q E → vs.length = ps.length)
    (hb : ∀ (cdv : Value) (A : Around) (outer : List Env) (s : Shared) (H : Hp) (vs : List V) (Q : VK) (E : XK), Room k (A.deeper (envOfC qual scope s.heap.objs.size f cdv)) → sp vs H Q E →
      ∃ t, PSs (cxOf CX0 P w K mg base N qual scope f cdv A outer s H E).nox body t ∧ t { nx := fun _ H' => Q .non H', rt := Q } (start N vs) H) : FnOk P w K mg base CX0 (k + 1) f fd ps sp :=
  F.ok S len fun cdv A outer s H vs Q E hr h => let ⟨t, h1, h2⟩ := hb cdv A outer s H vs Q E hr h; ⟨t, h1.nox, h2⟩
theorem ok_pick {f : Addr} {fd : FuncData} (F : FnP K "_law_pick" sPick f fd) (B : Bl mg) : FnOk P w K mg base CX0 1 f fd ["_law_source_here", "_law_many"] spPick := by
  refine okD F scP (fun vs H Q E h => ?_) (fun cdv A outer s H vs Q E hr h => ?_)
  · obtain ⟨d, c, n, rfl, _⟩ := h
    rfl
  · have hu := hu_of hr
    have nd := scP.nd
    have TL : ∃ tl, PSs (cxOf CX0 P w K mg base ["_law_source_here", "_law_many", "_law_cells", "_law_left", "_law_turn", "_law_mixed"] "_law_pick" (defScope sPick) f cdv A outer s H E).nox ((defBody sPick).drop 3) tl ∧
        (∀ (Q : VK) (d c : Addr) (n l' m t : Int) (H' : Hp), 1 ≤ n → n ≤ 1000 → H' d = some (.dK (skv c l' m t)) →
          (∀ (r y t' : Int), 0 ≤ r → r < n → Q (.int r) (upd H' d (.dK (skv c y m t')))) → tl { nx := fun _ H' => Q .non H', rt := Q } [some (.ref d), some (.int n), some (.ref c), none, none, none] H') := by
      refine ⟨_, pss_cons (ps_set (i := 3) nd rfl (Or.inl rfl) (pe_dget hu (pv 0) pe_str nosl))
      (pss_cons (ps_if (pt_cmpR op_gt (pv 3) pe_int (nomark _))
        (pss_cons (ps_dput hu (pv 0) pe_str (pe_op op_fdiv (pv 3) (pv 1)) rfl)
          (pss_one (ps_ret (pe_op op_mod (pe_callTy call_int1 (by rfl) B.int boot_int (pa_cons (pv 3) pa_nil)) (pv 1))))) pss_nil)
      (pss_cons (ps_dput hu (pv 0) pe_str (pe_op op_add (pe_dget hu (pv 0) pe_str nosl) pe_int) rfl)
      (pss_cons (ps_set (i := 4) nd rfl (Or.inl rfl) (pe_dget hu (pv 0) pe_str nosl))
      (pss_cons (ps_set (i := 5) nd rfl (Or.inl rfl) (pe_op op_mod (pe_callTy call_int1 (by rfl) B.int boot_int (pa_cons (pe_op op_add (pe_dget hu (pv 0) pe_str nosl) (pe_op op_mul (pv 4) pe_int)) pa_nil)) pe_int))
      (pss_cons (ps_set (i := 5) nd rfl (Or.inl rfl) (pe_op op_mod (pe_callTy call_int1 (by rfl) B.int boot_int (pa_cons (pe_op op_add (pe_op op_mul (pv 5) (pv 5)) (pe_op op_mul (pv 4) pe_int)) pa_nil)) pe_int))
      (pss_cons (ps_ifN (pt_cmpR op_gt (pv 1) (pe_op op_pow pe_int pe_int) (nomark _)) pss_nil)
      (pss_one (ps_ret (pe_op op_mod (pe_callTy call_int1 (by rfl) B.int boot_int (pa_cons (pe_op op_fdiv (pv 5) pe_int) pa_nil)) (pv 1)))))))))), ?_⟩
      intro Q d c n l' m t H' h1 h2 hd' k
      refine ⟨_, rfl, d, .int l', rfl, dg_left hd', ?_⟩
      refine ⟨_, rfl, _, _, rfl, rfl, _, rfl, ite2 (fun c2 => ?_) (fun _ => ?_)⟩
      · refine ⟨_, rfl, _, rfl, _, _, rfl, rfl, ⟨by omega, by omega⟩, _, rfl, d, _, rfl, dp_left hd', ?_⟩
        exact ⟨_, rfl, .inl ⟨_, rfl, _, rfl, _, _, rfl, rfl, (by omega), k _ _ _ (Int.emod_nonneg _ (by omega)) (Int.emod_lt_of_pos _ (by omega))⟩⟩
      · refine ⟨_, rfl, d, .int t, rfl, dg_turn hd', _, _, rfl, rfl, _, rfl, d, _, rfl, dp_turn hd', ?_⟩
        refine ⟨_, rfl, d, .int (t + 1), rfl, dg_turn upd_same, ?_⟩
        refine ⟨_, rfl, d, .int m, rfl, dg_mixed upd_same, _, rfl, _, _, rfl, rfl, .inr ⟨by decide, by decide⟩, _, _, rfl, rfl, .inl ⟨_, rfl, _, _, rfl, rfl, (show (0 : Int) < 998244353 by decide), ?_⟩⟩
        have b1 := Int.emod_nonneg (m + (t + 1) * 104729) (show (998244353 : Int) ≠ 0 by decide)
        have b2 := Int.emod_lt_of_pos (m + (t + 1) * 104729) (show (0 : Int) < 998244353 by decide)
        refine ⟨_, rfl, _, rfl, _, _, rfl, rfl, .inl ⟨by omega, by omega⟩, _, rfl, _, _, rfl, rfl, .inr ⟨by decide, by decide⟩, _, _, rfl, rfl, .inl ⟨_, rfl, _, _, rfl, rfl, (show (0 : Int) < 2147483647 by decide), ?_⟩⟩
        refine ⟨_, rfl, _, _, rfl, rfl, (by unfold CPow; decide), _, _, rfl, rfl, _, rfl, decide_eq_false (by show ¬ (n > (10:Int) ^ (7:Int).toNat); rw [show (10:Int) ^ (7:Int).toNat = 10000000 from by decide]; omega), ?_⟩
        refine ⟨_, rfl, _, _, rfl, rfl, ⟨by decide, by decide⟩, .inl ⟨_, rfl, _, rfl, _, _, rfl, rfl, (by omega), ?_⟩⟩
        exact k _ _ _ (Int.emod_nonneg _ (by omega)) (Int.emod_lt_of_pos _ (by omega))
    obtain ⟨tl, htl, rtl⟩ := TL
    refine ⟨_, pss_cons (ps_if (pt_cmpR op_lt (pv 1) pe_int (nomark _)) (pss_one (ps_ret pe_int)) pss_nil)
      (pss_cons (ps_set (i := 2) nd rfl (Or.inl rfl) (pe_dget hu (pv 0) pe_str nosl))
      (pss_cons (ps_while PassesOwn.never (pw_and (pt_cmpR op_lt (pe_dget hu (pv 0) pe_str nosl) pe_int (nomark _)) (pw_and1 (pt_cmpR op_gt (pe_callB call_len_seq (by rfl) B.len PySem.boot_len (pa_cons (pv 2) pa_nil)) pe_int (nomark _)))).pt
        (pss_one (ps_dput hu (pv 0) pe_str (pe_bm0 PySem.F.plainAttrs_list PySem.F.slot_list_pop PySem.F.type_list_pop mt_pop (pv 2)) rfl))) htl)), ?_⟩
    obtain ⟨d, c, n, rfl, ⟨xs, l, m, t, hc, hx, hd⟩, h1, h2, k⟩ := h
    have ncd : c ≠ d := ne_of hc hd (by intro z; cases z)
    have tail : ∀ (ys : List Int) (l' : Int) (H' : Hp), H' c = some (.lst (ys.map V.int)) → ys.length ≤ 63 → H' d = some (.dK (skv c l' m t)) → (∀ b, b ≠ d → b ≠ c → H' b = H b) →
        tl { nx := fun _ H' => Q .non H', rt := Q } [some (.ref d), some (.int n), some (.ref c), none, none, none] H' := fun ys l' H' hc' hy hd' keep =>
      rtl Q d c n l' m t H' h1 h2 hd' fun r y t' r0 r1 => k r _ r0 r1 ⟨ys, _, m, _, (by rw [upd_ne ncd]; exact hc'), hy, upd_same⟩ (fun b hb hb2 => by rw [upd_ne hb]; exact keep b hb hb2)
    refine ⟨_, rfl, _, _, rfl, rfl, _, rfl, ite2 (fun _ => k 0 H (Int.le_refl 0) (by omega) ⟨xs, l, m, t, hc, hx, hd⟩ fun _ _ _ => rfl) (fun _ => ?_)⟩
    refine ⟨_, rfl, d, .ref c, rfl, dg_cells hd, ?_⟩
    refine while_by (fun σ H' => ∃ (ys : List Int) (l' : Int), σ = [some (.ref d), some (.int n), some (.ref c), none, none, none] ∧ H' c = some (.lst (ys.map V.int)) ∧ ys.length ≤ 63 ∧ H' d = some (.dK (skv c l' m t)) ∧ ∀ b, b ≠ d → b ≠ c → H' b = H b)
      (fun _ H' => match H' c with | some (.lst zs) => zs.length | _ => 0) ⟨xs, l, rfl, hc, hx, hd, fun _ _ _ => rfl⟩ ?_ ?_
    · rintro σ H' ⟨ys, l', rfl, hc', hy, hd', keep⟩
      refine ⟨_, rfl, d, .int l', rfl, dg_left hd', _, _, rfl, rfl, _, rfl, ite2 (fun _ => ⟨_, rfl, c, ys.map V.int, rfl, .inl (SqL.of hc'), _, _, rfl, rfl, _, rfl, ?w1⟩) (fun _ => iteF ?w2)⟩
      case w1 =>
        refine ite2 (fun c1 => ?_) (fun _ => ?w3)
        · have hl : 0 < ys.length := by
            have e := of_decide_eq_true c1
            rw [List.length_map] at e
            omega
          obtain ⟨y, ey⟩ : ∃ y, ys[ys.length - 1]? = some y := ⟨ys[ys.length - 1], by rw [List.getElem?_eq_getElem (by omega)]⟩
          refine ⟨_, rfl, .inl ⟨rfl, _, SqL.of hc'⟩, c, ys.map V.int, .int y, rfl, rfl, hc', (by rw [List.length_map, List.getElem?_map, ey]; rfl), ?_⟩
          have hd2 : upd H' c (.lst (ys.map V.int).dropLast) d = some (.dK (skv c l' m t)) := by rw [upd_ne ncd.symm]; exact hd'
          refine ⟨_, rfl, d, _, rfl, dp_left hd2, ⟨ys.dropLast, y, rfl, ?_, ?_, upd_same, ?_⟩, ?_⟩
          · rw [upd_ne ncd, upd_same, List.map_dropLast]
          · rw [List.length_dropLast]; omega
          · intro b hb hb2
            rw [upd_ne hb, upd_ne hb2]
            exact keep b hb hb2
          · show (match upd (upd H' c (.lst (ys.map V.int).dropLast)) d _ c with | some (.lst zs) => zs.length | _ => 0) < (match H' c with | some (.lst zs) => zs.length | _ => 0)
            rw [upd_ne ncd, upd_same, hc']
            show (ys.map V.int).dropLast.length < (ys.map V.int).length
            rw [List.length_dropLast, List.length_map]
            omega
        case w3 => exact tail ys l' H' hc' hy hd' keep
      case w2 => exact tail ys l' H' hc' hy hd' keep
    · rintro σ H' Q1 Q2 hq ⟨v, e1, a, u, e2, g, i, j, e3, e4, z⟩
      obtain ⟨b, e5, z⟩ := z
      refine ⟨v, e1, a, u, e2, g, i, j, e3, e4, b, e5, ?_⟩
      cases b with
      | false => exact hq _ _ z
      | true =>
        obtain ⟨v, e1, p, ys, e2, hs, i, j, e3, e4, b, e5, z⟩ := z
        exact ⟨v, e1, p, ys, e2, hs, i, j, e3, e4, b, e5, hq _ _ z⟩

/-- len of a list or a tuple, whatever the block -/
def rLn (K : PySem.W.Frag) : List V → Hp → VK → Prop := fun us G R => ∃ (q : Addr) (zs : List V), us = [.ref q] ∧ (SqL K G q zs ∨ SqT K G q zs) ∧ R (.int zs.length) G
abbrev NSrc : List Str := ["_law_script", "_law_mixed", "_law_cell", "_law_cells", "_law_k"]
/-- the cells, none below nought -/
def ab (ns : List Int) : List Int := ns.map fun i => if i < 0 then -i else i
theorem sq_keep {H H' : Hp} {D a : Addr} {xs : List V} (hD : H D = none) (q : ∀ b, b ≠ D → H' b = H b) (h : SqL K H a xs) : SqL K H' a xs :=
  Same.seq (fun b o e => (q b (ne_of_none e hD)).trans e) h
theorem map_abs (ns : List Int) : (ns.map fun i => V.int (if i < 0 then -i else i)) = (ns.map fun i => if i < 0 then -i else i).map V.int := by rw [List.map_map]; rfl
theorem int_at {ns : List Int} {i : Nat} {y : V} (hi : (ns.map V.int)[i]? = some y) : ∃ z, ns[i]? = some z ∧ y = V.int z := by
  rw [List.getElem?_map] at hi
  cases e : ns[i]? with
  | none => rw [e] at hi; cases hi
  | some z => rw [e] at hi; exact ⟨z, rfl, (Option.some.inj hi).symm⟩
theorem ok_src {f : Addr} {fd : FuncData} (F : FnP K "_law_source" sSrc f fd) (B : Bl mg) : FnOk P w K mg base CX0 1 f fd ["_law_script"] (spSrc K) := by
  refine okD F scS (fun vs H Q E h => ?_) (fun cdv A outer s H vs Q E hr h => ?_)
  · obtain ⟨a, ns, rfl, _⟩ := h
    rfl
  · have hu := hu_of hr
    have nd := scS.nd
    refine ⟨_, pss_cons (ps_set (i := 1) nd rfl (Or.inl rfl) pe_int)
      (pss_cons (ps_for PassesOwn.never rfl (pi_list (pv 0)) (pg_name (i := 2) nd rfl (Or.inl rfl))
        (pss_one (ps_set (i := 1) nd rfl (Or.inl rfl) (pe_op op_mod (pe_callTy call_int1 (by rfl) B.int boot_int (pa_cons (pe_op op_add (pe_op op_add (pe_op op_mul (pv 1) pe_int) (pe_op op_mul (pv 2) pe_int)) pe_int) pa_nil)) pe_int))))
      (pss_cons (ps_set (i := 3) nd rfl (Or.inr rfl) (pe_lc (own := [("_law_cell", 2)]) (g := gName 2) (tt := tYes) rfl nd (pi_list (pv 0)) (blkOk_by (N := NSrc) (sc := defScope sSrc) (by decide +kernel)) (fun _ _ _ _ _ => pg_name (i := 2) nd rfl (Or.inl rfl)) (fun _ _ _ _ _ => pts_nil)
        (fun _ _ _ _ _ => pe_callB call_abs (by rfl) B.abs (by decide +kernel) (pa_cons (pv 2) pa_nil))))
      (pss_one (ps_ret (pe_disp (pps_cons pe_str (pe_lc (own := [("_law_k", 4)]) (g := gName 4) (tt := tYes) rfl nd (pi_range1 (by rfl) B.range (pa_cons (pe_callB call_len_seq (by rfl) B.len PySem.boot_len (pa_cons (pv 3) pa_nil)) pa_nil)) (blkOk_by (N := NSrc) (sc := defScope sSrc) (by decide +kernel)) (fun _ _ _ _ _ => pg_name (i := 4) nd rfl (Or.inl rfl)) (fun _ _ _ _ _ => pts_nil)
          (fun _ _ _ _ _ => pe_ix (r := rIxL K) ix_list (pv 3) (pe_op op_sub (pe_op op_sub (pe_callB (r := rLn K) call_len_seq (by rfl) B.len PySem.boot_len (pa_cons (pv 3) pa_nil)) pe_int) (pv 4)) (fun _ _ => rfl)))
        (pps_cons pe_str pe_int (pps_cons pe_str (pv 1) (pps_cons pe_str pe_int pps_nil)))) rfl rfl (by simp) (by decide)))))), ?_⟩
    obtain ⟨a, ns, rfl, hS, hl, k⟩ := h
    refine ⟨_, rfl, a, rfl, ⟨_, hS⟩, for_list (K := K) (a := a) (xs := ns.map V.int) (fun i σ H2 => ∃ (z : Int) (v : Option V), σ = [some (.ref a), some (.int z), v, none, none] ∧ 0 ≤ z ∧ z < 2147483629 ∧ H2 = H)
      ⟨11, none, rfl, by decide, by decide, rfl⟩ (fun i σ H2 _ ⟨_, _, _, _, _, e⟩ => by rw [e]; exact hS) ?_ ?_⟩
    · rintro i y σ H2 hi ⟨z, v, rfl, z0, z1, rfl⟩
      obtain ⟨x, _, rfl⟩ := int_at hi
      refine ⟨_, rfl, _, _, rfl, rfl, .inr ⟨by decide, by decide⟩, _, rfl, _, _, rfl, rfl, .inr ⟨by decide, by decide⟩, _, _, rfl, rfl, _, _, rfl, rfl, .inl ⟨_, rfl, _, _, rfl, rfl, (show (0 : Int) < 2147483629 by decide), ?_⟩⟩
      exact ⟨_, _, rfl, Int.emod_nonneg _ (by decide), Int.emod_lt_of_pos _ (by decide), rfl⟩
    · rintro σ H2 ⟨z, v, rfl, z0, z1, rfl⟩
      refine ⟨_, rfl, a, rfl, ⟨_, hS⟩, fun D hD => ?_⟩
      refine lc_list (xs := ns.map V.int) (fun i H' => H' D = some (.lst ((ab (ns.take i)).map V.int)) ∧ ∀ b, b ≠ D → H' b = H2 b) ⟨upd_same, fun b hb => upd_ne hb⟩ (fun i H' _ ⟨e, q⟩ => sq_keep hD q hS) ?_ ?_
      · rintro i y H' hi ⟨e, q⟩
        obtain ⟨x, hx, rfl⟩ := int_at hi
        refine ⟨rfl, _, rfl, _, rfl, _, e, ?_, ?_, fun b hb => ?_⟩
        · unfold ab
          rw [List.length_map, List.length_map, List.length_take]
          exact small1000 (by omega)
        · rw [upd_same]
          unfold ab
          rw [List.take_add_one, hx]
          simp
        · rw [upd_ne hb]; exact q b hb
      · rintro H' ⟨e, q⟩
        rw [List.length_map, List.take_length] at e
        intro p hp
        have npD : p ≠ D := (ne_of_none e hp).symm
        have la : (ab ns).length = ns.length := by unfold ab; rw [List.length_map]
        have lm : ((ab ns).map V.int).length = ns.length := by rw [List.length_map, la]
        have eD : upd H' p (.dK []) D = some (.lst ((ab ns).map V.int)) := by rw [upd_ne npD.symm]; exact e
        refine ⟨_, rfl, D, _, rfl, .inl (SqL.of eD), _, rfl, (by rw [lm]; omega), (by rw [lm]; omega), fun C hC => ?_⟩
        rw [lm]
        have nCp : C ≠ p := (ne_of_none upd_same hC).symm
        have nCD : C ≠ D := (ne_of_none eD hC).symm
        refine lc_range (lo := 0) (n := ns.length) (fun i H3 => (∃ ys : List Int, H3 C = some (.lst (ys.map V.int)) ∧ ys.length = i) ∧ ∀ b, b ≠ C → H3 b = upd H' p (.dK []) b) ⟨⟨[], upd_same, rfl⟩, fun b hb => upd_ne hb⟩ ?_ ?_
        · rintro i H3 hi ⟨⟨ys, e3, ly⟩, q3⟩
          obtain ⟨y, ey⟩ : ∃ y, (ab ns)[ns.length - 1 - i]? = some y := ⟨(ab ns)[ns.length - 1 - i], by rw [List.getElem?_eq_getElem (by omega)]⟩
          have e3D : H3 D = some (.lst ((ab ns).map V.int)) := by rw [q3 D nCD.symm]; exact eD
          refine ⟨rfl, _, rfl, _, rfl, D, _, rfl, .inl (SqL.of e3D), _, _, rfl, rfl, _, rfl, _, _, rfl, rfl, D, _, _, .int y, rfl, rfl, SqL.of e3D, ?_, _, e3, ?_, ⟨ys ++ [y], ?_, ?_⟩, fun b hb => ?_⟩
          · exact at_of (j := ns.length - 1 - i) (by rw [lm]; omega) (by rw [List.getElem?_map, ey]; rfl)
          · rw [List.length_map]; exact small1000 (by omega)
          · rw [upd_same]; simp
          · rw [List.length_append, ly]; rfl
          · rw [upd_ne hb]; exact q3 b hb
        · rintro H3 ⟨⟨ys, e3, ly⟩, q3⟩
          refine ⟨_, rfl, ?_⟩
          refine ⟨by rw [q3 p nCp.symm, upd_same], skv C 1 z 0, rfl, (show 4 ≤ 15 by decide), ?_⟩
          rw [skv_merge]
          refine k p C _ (fun b o eb => ?_) ?_ ?_ ⟨ys, 1, z, 0, ?_, by omega, upd_same⟩
          · have hb : b ≠ D := ne_of_none eb hD
            have eb2 : H' b = some o := (q b hb).trans eb
            have hbp : b ≠ p := ne_of_none eb2 hp
            have hbC : b ≠ C := ne_of_none (show upd H' p (.dK []) b = some o by rw [upd_ne hbp]; exact eb2) hC
            rw [upd_ne hbp, q3 b hbC, upd_ne hbp]
            exact eb2
          · rw [← q p npD]; exact hp
          · rw [← q C nCD]
            rw [upd_ne nCp] at hC
            exact hC
          · rw [upd_ne nCp]; exact e3
end
end K22

namespace K22
open PySem PySem.Spec PyProof.Rows L2 Ow
abbrev LT : Str := "abcdefghijklmnopqrstuvwxyz"
abbrev SG : Str := "abcdefghijklmnopqrstuvwxyz0123456789"
/-! ### words -/
/-- a word of the text -/
structure Wd (x : Str) : Prop where
  lo : 1 ≤ x.length
  hi : x.length ≤ 12
  h : ∀ c, x.cps[0]? = some c → c ∈ LT.cps.toList
  s : ∀ (i c : Nat), x.cps[i]? = some c → c ∈ SG.cps.toList
  z : x ≠ ("zzz" : Str)
/-- a list of unlike words -/
structure NL (xs : List Str) : Prop where
  nd : xs.Nodup
  w : ∀ x ∈ xs, Wd x
  n : xs.length ≤ 16
theorem scW : FnScope ["value", "sign"] ["value"] (defScope sIsWord) := ⟨rfl, rfl, rfl, by decide +kernel, rfl, by decide +kernel, by decide +kernel⟩
def spWord : Sp := fun vs H Q _ => ∃ x : Str, vs = [.str x] ∧ Wd x ∧ ∀ H', Same H H' → Q (.bl true) H'
section
variable {P : Program} {w : World} {K : PySem.W.Frag} {mg : Str → Option Value} {base : Heap} {f : Addr} {fd : FuncData}
theorem ok_word (F : FnP K "is_word" sIsWord f fd) (Y : Fx w K mg) : FnOk P w K mg base CX0 1 f fd ["value"] spWord := by
  refine okD F scW (fun vs H Q E h => ?_) (fun cdv A outer s H vs Q E hr h => ?_)
  · obtain ⟨x, rfl, _⟩ := h
    rfl
  · have hu := hu_of hr
    have nd := scW.nd
    have B := Y.bl
    obtain ⟨tl, el⟩ := Y.sLETTERS
    obtain ⟨ts, es⟩ := Y.sSIGNS
    refine ⟨_, pss_cons (ps_ifN (pw_or (pt_not (pt_val (pe_callB call_isi (by rfl) Y.bIsinstance boot_isinstance (pa_cons (pv 0) (pa_cons (pe_bltn (v := .ty "str") (u := .type "str") (by rfl) Y.bStr (by decide +kernel) rfl) pa_nil))))) (pw_or1 (pt_not (pt_chain op_le op_le pe_int (pe_callB call_len_str (by rfl) B.len PySem.boot_len (pa_cons (pv 0) pa_nil)) pe_int)))).pt pss_nil)
      (pss_one (ps_ret (pe_and (pe_cmpR op_in_sign (pe_ix ix_str (pv 0) pe_int (fun _ _ => rfl)) (pe_glob (v := .str LT) (by rfl) el ⟨_, rfl⟩) (by rfl)) (pe_one (pe_callB (cr_all rfl) (by rfl) Y.bAll (by decide +kernel) (pa_cons
        (pe_lc (own := [("sign", 1)]) (g := gName 1) (tt := tYes) rfl nd (pi_str (pv 0)) (blkOk_by (N := ["value", "sign"]) (sc := defScope sIsWord) (by decide +kernel)) (fun _ _ _ _ _ => pg_name (i := 1) nd rfl (Or.inl rfl)) (fun _ _ _ _ _ => pts_nil)
          (fun _ _ _ _ _ => pe_cmpR op_in_sign (pv 1) (pe_glob (v := .str SG) (by rfl) es ⟨_, rfl⟩) (by rfl))) pa_nil)))))), ?_⟩
    obtain ⟨x, rfl, hx, k⟩ := h
    have lz : x.length ≤ sizeLine := Nat.le_trans hx.hi (by decide)
    obtain ⟨c, ec⟩ : ∃ c, x.cps[0]? = some c := ⟨x.cps[0]'(show 0 < x.cps.size from hx.lo), Array.getElem?_eq_getElem _⟩
    have l1 : (1 : Int) ≤ (x.length : Int) := by have z := hx.lo; omega
    have l2 : (x.length : Int) ≤ 12 := by have z := hx.hi; omega
    refine ⟨_, rfl, _, _, _, _, true, rfl, .ty _, .base (.str x), (of_decide_eq_true Y.x0), true, rfl, iteF ⟨_, rfl, x, rfl, lz, _, _, rfl, rfl, _, rfl, ite2 (fun _ => ⟨_, _, rfl, rfl, _, rfl, ?_, ?_⟩) (fun n => absurd (decide_eq_true l1) n)⟩⟩
    · rw [decide_eq_true l2]; rfl
    refine ⟨_, rfl, x, 0, c, rfl, rfl, lz, ?_, c, LT, rfl, rfl, _, rfl, ite2 (fun _ => ?_) (fun n => absurd (decide_eq_true (hx.h c ec)) n)⟩
    · exact (show atI x.cps.toList ((0 : Nat) : Int) = some c from atI_nat (by rw [Array.getElem?_toList]; exact ec))
    refine ⟨_, rfl, x, rfl, fun D hD => ?_⟩
    refine lc_it walk_str (fun i H' => H' D = some (.lst ((List.replicate i true).map V.bl)) ∧ Same H H') ⟨upd_same, fun b o e => (upd_ne (ne_of_none e hD)).trans e⟩ (fun _ _ _ _ => trivial) ?_ ?_
    · rintro i v G G' hi ⟨e, q⟩ ⟨rfl, z, ez, rfl⟩
      refine ⟨rfl, _, rfl, z, SG, rfl, rfl, _, e, ?_, ?_, fun b o eb => (upd_ne (ne_of_none eb hD)).trans (q b o eb)⟩
      · rw [List.length_map, List.length_replicate]
        exact Nat.lt_of_lt_of_le hi (Nat.le_trans hx.hi (by decide))
      · rw [upd_same, decide_eq_true (hx.s i z ez), List.replicate_succ', List.map_append]
        rfl
    · rintro G ⟨e, q⟩
      refine ⟨D, List.replicate x.cps.size true, rfl, SqL.of e, ?_⟩
      rw [show (List.replicate x.cps.size true).all id = true by simp]
      exact k G q
end
end K22

namespace K22
open PySem PySem.Spec PyProof.Rows L2 Ow
/-! ### what is a word, of any text -/
def inC (S : Str) (c : Nat) : Bool := decide (c ∈ S.cps.toList)
def isW (x : Str) : Bool := decide (1 ≤ x.length) && (decide (x.length ≤ 12) && ((match x.cps[0]? with
  | some c => inC LT c
  | none => false) && x.cps.toList.all (inC SG)))
def spIW : Sp := fun vs H Q _ => ∃ x : Str, vs = [.str x] ∧ x.length ≤ 900 ∧ ∀ H', Same H H' → Q (.bl (isW x)) H'
section
variable {P : Program} {w : World} {K : PySem.W.Frag} {mg : Str → Option Value} {base : Heap} {f : Addr} {fd : FuncData}
theorem ok_iw (F : FnP K "is_word" sIsWord f fd) (Y : Fx w K mg) : FnOk P w K mg base CX0 1 f fd ["value"] spIW := by
  refine okD F scW (fun vs H Q E h => ?_) (fun cdv A outer s H vs Q E hr h => ?_)
  · obtain ⟨x, rfl, _⟩ := h
    rfl
  · have hu := hu_of hr
    have nd := scW.nd
    have B := Y.bl
    obtain ⟨tl, el⟩ := Y.sLETTERS
    obtain ⟨ts, es⟩ := Y.sSIGNS
    refine ⟨_, pss_cons (ps_if (pw_or (pt_not (pt_val (pe_callB call_isi (by rfl) Y.bIsinstance boot_isinstance (pa_cons (pv 0) (pa_cons (pe_bltn (v := .ty "str") (u := .type "str") (by rfl) Y.bStr (by decide +kernel) rfl) pa_nil))))) (pw_or1 (pt_not (pt_chain op_le op_le pe_int (pe_callB call_len_str (by rfl) B.len PySem.boot_len (pa_cons (pv 0) pa_nil)) pe_int)))).pt (pss_one (ps_ret pe_bl)) pss_nil)
      (pss_one (ps_ret (pe_and (pe_cmpR op_in_sign (pe_ix ix_str (pv 0) pe_int (fun _ _ => rfl)) (pe_glob (v := .str LT) (by rfl) el ⟨_, rfl⟩) (by rfl)) (pe_one (pe_callB (cr_all rfl) (by rfl) Y.bAll (by decide +kernel) (pa_cons
        (pe_lc (own := [("sign", 1)]) (g := gName 1) (tt := tYes) rfl nd (pi_str (pv 0)) (blkOk_by (N := ["value", "sign"]) (sc := defScope sIsWord) (by decide +kernel)) (fun _ _ _ _ _ => pg_name (i := 1) nd rfl (Or.inl rfl)) (fun _ _ _ _ _ => pts_nil)
          (fun _ _ _ _ _ => pe_cmpR op_in_sign (pv 1) (pe_glob (v := .str SG) (by rfl) es ⟨_, rfl⟩) (by rfl))) pa_nil)))))), ?_⟩
    obtain ⟨x, rfl, hx, k⟩ := h
    have lz : x.length ≤ sizeLine := Nat.le_of_lt (small1000 (by omega))
    refine ⟨_, rfl, _, _, _, _, true, rfl, .ty _, .base (.str x), (of_decide_eq_true Y.x0), true, rfl, iteF ⟨_, rfl, x, rfl, lz, _, _, rfl, rfl, _, rfl, ite2 (fun h1 => ?_) (fun n => ?_)⟩⟩
    · refine ⟨_, _, rfl, rfl, _, rfl, ite2 (fun h2 => ?_) (fun h2 => ?_)⟩
      · have z : isW x = false := by
          have e : decide ((x.length : Int) ≤ 12) = false := by simpa using h2
          have e2 : ¬ (x.length ≤ 12) := by
            have := of_decide_eq_false e
            omega
          unfold isW
          rw [decide_eq_false e2, Bool.false_and, Bool.and_false]
        rw [z] at k
        exact k _ (Same.refl _)
      · have l1 : 1 ≤ x.length := by
          have := of_decide_eq_true h1
          omega
        have l2 : x.length ≤ 12 := by
          have e : decide ((x.length : Int) ≤ 12) = true := by simpa using h2
          have := of_decide_eq_true e
          omega
        obtain ⟨c, ec⟩ : ∃ c, x.cps[0]? = some c := ⟨x.cps[0]'(show 0 < x.cps.size from l1), Array.getElem?_eq_getElem _⟩
        have ew : isW x = (inC LT c && x.cps.toList.all (inC SG)) := by
          unfold isW
          rw [decide_eq_true l1, decide_eq_true l2, ec]
          rfl
        rw [ew] at k
        refine ⟨_, rfl, x, 0, c, rfl, rfl, lz, (show atI x.cps.toList ((0 : Nat) : Int) = some c from atI_nat (by rw [Array.getElem?_toList]; exact ec)), c, LT, rfl, rfl, _, rfl, ite2 (fun h3 => ?_) (fun h3 => ?_)⟩
        · rw [show inC LT c = true from h3, Bool.true_and] at k
          refine ⟨_, rfl, x, rfl, fun D hD => ?_⟩
          refine lc_it walk_str (fun i H' => H' D = some (.lst (((x.cps.toList.take i).map (inC SG)).map V.bl)) ∧ Same H H') ⟨upd_same, fun b o e => (upd_ne (ne_of_none e hD)).trans e⟩ (fun _ _ _ _ => trivial) ?_ ?_
          · rintro i v G G' hi ⟨e, q⟩ ⟨rfl, z, ez, rfl⟩
            have ez2 : x.cps.toList[i]? = some z := by rw [Array.getElem?_toList]; exact ez
            refine ⟨rfl, _, rfl, z, SG, rfl, rfl, _, e, ?_, ?_, fun b o eb => (upd_ne (ne_of_none eb hD)).trans (q b o eb)⟩
            · rw [List.length_map, List.length_map, List.length_take]
              have : i < x.length := hi
              exact small1000 (by omega)
            · rw [upd_same, List.take_add_one, ez2, List.map_append, List.map_append]
              rfl
          · rintro G ⟨e, q⟩
            have lx : x.cps.size = x.cps.toList.length := by rw [Array.length_toList]
            refine ⟨D, _, rfl, SqL.of e, ?_⟩
            rw [lx, List.take_length, List.all_map]
            exact k G q
        · rw [show inC LT c = false from Bool.eq_false_iff.mpr h3, Bool.false_and] at k
          exact k _ (Same.refl _)
    · refine ⟨_, rfl, ite2 (fun h2 => ?_) (fun h2 => ?_)⟩
      · have z : isW x = false := by
          have e2 : ¬ (1 ≤ x.length) := by
            intro q
            exact n (decide_eq_true (show (1 : Int) ≤ (x.length : Int) by omega))
          unfold isW
          rw [decide_eq_false e2, Bool.false_and]
        rw [z] at k
        exact k _ (Same.refl _)
      · exfalso
        have e := Bool.eq_false_iff.mpr n
        exact h2 rfl
end
end K22

namespace K22
open PySem PySem.Spec PyProof.Rows L2 Ow
theorem scCN : FnScope ["lists", "names", "name"] ["lists"] (defScope sCheckNames) := ⟨rfl, rfl, rfl, by decide +kernel, rfl, by decide +kernel, by decide +kernel⟩
/-- at y stands a list or tuple of unlike words -/
def Nms (K : PySem.W.Frag) (H : Hp) (y : V) (xs : List Str) : Prop := ∃ a, y = .ref a ∧ SqA K H a (xs.map V.str) ∧ NL xs
theorem Nms.same {K : PySem.W.Frag} {H H' : Hp} {y : V} {xs : List Str} (s : Same H H') (h : Nms K H y xs) : Nms K H' y xs := by
  obtain ⟨a, e, q, n⟩ := h
  exact ⟨a, e, q.same s, n⟩
def spCheck (K : PySem.W.Frag) : Sp := fun vs H Q _ => ∃ (l : Addr) (y z : V) (xs ys : List Str), vs = [.ref l] ∧ SqL K H l [y, z] ∧ Nms K H y xs ∧ Nms K H z ys ∧ ∀ H', Same H H' → Q .non H'
theorem str_at {xs : List Str} {i : Nat} {y : V} (h : (xs.map V.str)[i]? = some y) : ∃ z, xs[i]? = some z ∧ y = .str z := by
  rw [List.getElem?_map] at h
  cases e : xs[i]? with
  | none => rw [e] at h; cases h
  | some z => rw [e] at h; exact ⟨z, rfl, (Option.some.inj h).symm⟩
section
variable {P : Program} {w : World} {K : PySem.W.Frag} {mg : Str → Option Value} {base : Heap} {f : Addr} {fd : FuncData}
theorem ok_check (F : FnP K "check_names" sCheckNames f fd) (Y : Fx w K mg) : FnOk P w K mg base CX0 2 f fd ["lists"] (spCheck K) := by
  obtain ⟨dW, FW⟩ := Y.dIsWord
  have bW := FunD.bindsN (ps := ["value"]) FW fun _ _ _ _ _ _ us hl => match us, hl with | [_], _ => rfl
  have GW : FnOk P w K mg base CX0 1 _ dW ["value"] spWord := ok_word FW Y
  refine okD F scCN (fun vs H Q E h => ?_) (fun cdv A outer s H vs Q E hr h => ?_)
  · obtain ⟨l, y, z, xs, ys, rfl, _⟩ := h
    rfl
  · have hu := hu_of hr
    have nd := scCN.nd
    have B := Y.bl
    refine ⟨_, pss_cons (ps_for PassesOwn.never rfl (pi_list (pv 0)) (pg_name (i := 1) nd rfl (Or.inl rfl)) (pss_one (ps_for PassesOwn.never rfl (pi_seqA (pv 1)) (pg_name (i := 2) nd rfl (Or.inl rfl))
        (pss_one (ps_ifN (pt_not (pt_val (pe_call GW hr rfl Y.gIsWord FW.kp bW .nil pass0 (pa_cons (pv 2) pa_nil)))) pss_nil)))))
      (pss_one (ps_for PassesOwn.never rfl (pi_list (pv 0)) (pg_name (i := 1) nd rfl (Or.inl rfl))
        (pss_one (ps_ifN (pt_cmpR op_lt (pe_lenSetT rfl (by rfl) B.len (by rfl) Y.bSet (pv 1)) (pe_callB call_len_seq (by rfl) B.len PySem.boot_len (pa_cons (pv 1) pa_nil)) (nomark _)) pss_nil)))), ?_⟩
    obtain ⟨l, y, z, xs, ys, rfl, hl, hy, hz, k⟩ := h
    have it : ∀ (i : Nat) (v : V) (G : Hp), ([y, z] : List V)[i]? = some v → Same H G → ∃ zs, Nms K G v zs := fun i v G hi sm => by
      match i, hi with
      | 0, hi => cases hi; exact ⟨xs, hy.same sm⟩
      | 1, hi => cases hi; exact ⟨ys, hz.same sm⟩
      | (i + 2), hi => cases hi
    refine ⟨_, rfl, l, rfl, ⟨_, hl⟩, for_list (K := K) (a := l) (xs := [y, z]) (fun i σ G => (∃ v1 v2, σ = [some (.ref l), v1, v2]) ∧ Same H G) ⟨⟨_, _, rfl⟩, Same.refl _⟩ (fun i σ G _ q => q.2.seq hl) ?_ ?_⟩
    · rintro i v σ G hi ⟨⟨v1, v2, rfl⟩, sm⟩
      obtain ⟨zs, a, rfl, hA, hn⟩ := it i v G hi sm
      refine ⟨_, rfl, a, zs.map V.str, rfl, hA, fun J GG wk gk => for_it wk (fun j σ G' => (∃ v2, σ = [some (.ref l), some (.ref a), v2]) ∧ Same G G') ⟨⟨_, rfl⟩, Same.refl _⟩ (fun j σ G' _ q => gk _ q.2) ?_ ?_⟩
      · rintro j v σ G' G'' hj ⟨⟨v2, rfl⟩, s2⟩ ⟨rfl, ev⟩
        obtain ⟨x, ex, rfl⟩ := str_at ev
        exact ⟨_, rfl, x, rfl, hn.w x (List.mem_of_getElem? ex), fun G3 s3 => ⟨true, rfl, rfl, ⟨_, rfl⟩, s2.trans s3⟩⟩
      · rintro σ G' ⟨⟨v2, rfl⟩, s2⟩
        exact ⟨⟨_, _, rfl⟩, sm.trans s2⟩
    · rintro σ G ⟨⟨v1, v2, rfl⟩, sm⟩
      refine ⟨_, rfl, l, rfl, ⟨_, sm.seq hl⟩, for_list (K := K) (a := l) (xs := [y, z]) (fun i σ G => (∃ v1 v2, σ = [some (.ref l), v1, v2]) ∧ Same H G) ⟨⟨_, _, rfl⟩, sm⟩ (fun i σ G _ q => q.2.seq hl) ?_ ?_⟩
      · rintro i v σ G hi ⟨⟨v1, v2, rfl⟩, sm⟩
        obtain ⟨zs, a, rfl, hA, hn⟩ := it i v G hi sm
        refine ⟨_, rfl, a, zs, rfl, hA, hn.nd, Nat.lt_of_le_of_lt hn.n (by decide), _, rfl, a, zs.map V.str, rfl, hA, _, _, rfl, rfl, _, rfl, ?_, ⟨_, _, rfl⟩, sm⟩
        rw [List.length_map]
        exact decide_eq_false (Int.lt_irrefl _)
      · rintro σ G ⟨⟨v1, v2, rfl⟩, sm⟩
        exact k G sm
end
end K22

namespace K22
open PySem PySem.Spec PyProof.Rows L2 Ow
/-! ### what stays, and small helps -/
theorem same_upd {H : Hp} {a : Addr} {o : HO} (h : H a = none) : Same H (upd H a o) := fun _ _ e => (upd_ne (ne_of_none e h)).trans e
theorem same_put {H G : Hp} {D : Addr} {o : HO} (hD : H D = none) (s : Same H G) : Same H (upd G D o) := fun b _ e => (upd_ne (ne_of_none e hD)).trans (s b _ e)
theorem szl {n : Nat} (h : n ≤ 1000) : n ≤ sizeLine := Nat.le_of_lt (small1000 h)
def Keep (x : Addr) (H H' : Hp) : Prop := ∀ b o, b ≠ x → H b = some o → H' b = some o
theorem Keep.refl {x : Addr} {H : Hp} : Keep x H H := fun _ _ _ e => e
theorem Keep.trans {x : Addr} {H1 H2 H3 : Hp} (h : Keep x H1 H2) (g : Keep x H2 H3) : Keep x H1 H3 := fun b o n e => g b o n (h b o n e)
theorem Keep.of {x : Addr} {H H' : Hp} (s : Same H H') : Keep x H H' := fun b o _ e => s b o e
theorem Keep.put {x : Addr} {H : Hp} {o : HO} : Keep x H (upd H x o) := fun b u n e => (upd_ne n).trans e
/-- a dict comprehension over a walk -/
theorem dc_it {J : It} {n : Nat} {G : Hp → Prop} {Y : Nat → Hp → V → Hp → Prop} (w : Walk J n G Y) {g : TG} {tt : TT} {tk tv : TE} {vs : List Nat} {σ : L2.St} {H1 : Hp} {D : Addr} {Qd : Hp → Prop} (Pv : Nat → Hp → Prop) (h0 : Pv 0 (upd H1 D (.dK []))) (hG : ∀ i H, i ≤ n → Pv i H → G H)
    (hs : ∀ i x H H', i < n → Pv i H → Y i H x H' → g x (wipe σ vs) H' fun σ2 H2 => wipe σ2 vs = wipe σ vs ∧ tt σ2 H2 fun b H3 =>
      if b = true then tk σ2 H3 fun y H4 => tv σ2 H4 fun z H5 => ∃ kvs k, y = kV k ∧ H5 D = some (.dK kvs) ∧ kvs.length < sizeLine ∧ Pv (i + 1) (upd H5 D (.dK (putK kvs k z))) else Pv (i + 1) H3) (hd : ∀ H, Pv n H → Qd H) :
    ∃ W : Nat → Nat → Hp → Prop, (∃ m, W 0 m (upd H1 D (.dK []))) ∧ ∀ i m H, W i m H →
      (J.stop i H ∧ Qd H) ∨ (J.go i H ∧ ∃ Nx : Hp → Prop, (∀ H', Nx H' → ∃ m', m' < m ∧ W (i + 1) m' H') ∧ ∀ x H', J.yld i H x H' → g x (wipe σ vs) H' fun σ2 H2 => wipe σ2 vs = wipe σ vs ∧ tt σ2 H2 fun b H3 =>
        if b = true then tk σ2 H3 fun y H4 => tv σ2 H4 fun z H5 => ∃ kvs k, y = kV k ∧ H5 D = some (.dK kvs) ∧ kvs.length < sizeLine ∧ Nx (upd H5 D (.dK (putK kvs k z))) else Nx H3) := by
  refine ⟨fun i m H => m = n - i ∧ i ≤ n ∧ Pv i H, ⟨n, rfl, Nat.zero_le _, h0⟩, ?_⟩
  rintro i m H ⟨rfl, le, p⟩
  have q := hG i H le p
  by_cases lt : i < n
  · exact .inr ⟨w.goes i H lt q, Pv (i + 1), fun H' p' => ⟨n - (i + 1), by omega, rfl, lt, p'⟩, fun x H' y => hs i x H H' lt p (w.yields i H x H' lt q y)⟩
  · have e : i = n := by omega
    subst e
    exact .inl ⟨w.stops H q, hd H p⟩
/-- at l stands a list of tuples of these -/
def TupsAt (K : PySem.W.Frag) (H : Hp) (l : Addr) (vss : List (List V)) : Prop := ∃ as : List Addr, SqL K H l (as.map V.ref) ∧ as.length = vss.length ∧ ∀ (i : Nat) (t : Addr), as[i]? = some t → ∃ vs, vss[i]? = some vs ∧ SqT K H t vs
theorem TupsAt.same {K : PySem.W.Frag} {H H' : Hp} {l : Addr} {vss : List (List V)} (s : Same H H') (h : TupsAt K H l vss) : TupsAt K H' l vss := by
  obtain ⟨as, q, e, g⟩ := h
  refine ⟨as, s.seq q, e, fun i t z => ?_⟩
  obtain ⟨vs, e1, e2⟩ := g i t z
  exact ⟨vs, e1, sqt_same s e2⟩
theorem ref_at {as : List Addr} {i : Nat} {v : V} (h : (as.map V.ref)[i]? = some v) : ∃ a, as[i]? = some a ∧ v = .ref a := by
  rw [List.getElem?_map] at h
  cases e : as[i]? with
  | none => rw [e] at h; cases h
  | some a => rw [e] at h; exact ⟨a, rfl, (Option.some.inj h).symm⟩
theorem map_at {α : Type} {f : α → V} {xs : List α} {i : Nat} {v : V} (h : (xs.map f)[i]? = some v) : ∃ x, xs[i]? = some x ∧ v = f x := by
  rw [List.getElem?_map] at h
  cases e : xs[i]? with
  | none => rw [e] at h; cases h
  | some a => rw [e] at h; exact ⟨a, rfl, (Option.some.inj h).symm⟩
theorem flat_strs (xs : List Str) : (xs.map V.str).all flatV = true := by
  rw [List.all_eq_true]
  intro v hv
  obtain ⟨x, _, rfl⟩ := List.mem_map.mp hv
  rfl
theorem inV_strs (x : Str) (xs : List Str) : inV (.str x) (xs.map V.str) = decide (x ∈ xs) := by
  unfold inV
  rw [List.any_map, Bool.eq_iff_iff, List.any_eq_true, decide_eq_true_iff]
  constructor
  · rintro ⟨y, hy, e⟩
    have z : y = x := by simpa [eqV] using e
    exact z ▸ hy
  · intro h
    exact ⟨x, h, by simp [eqV]⟩
/-- a letter: its name, its ends -/
abbrev Lt : Type := Str × Str × Str
def ltV (q : Lt) : List V := [.str q.1, .str q.2.1, .str q.2.2]
/-! ### the frame's checks -/
abbrev NCE : List Str := ["sorts", "letters", "totals", "_", "first", "second", "end", "names", "letter", "name"]
theorem scCE : FnScope NCE ["sorts", "letters", "totals"] (defScope sCheckEnds) := ⟨rfl, rfl, rfl, by decide +kernel, rfl, by decide +kernel, by decide +kernel⟩
def spCE (K : PySem.W.Frag) : Sp := fun vs H Q _ => ∃ (s l t : Addr) (xs : List Str) (ls : List Lt), vs = [.ref s, .ref l, .ref t] ∧ SqL K H s (xs.map V.str) ∧ TupsAt K H l (ls.map ltV) ∧ (∀ q ∈ ls, q.2.1 ∈ xs ∧ q.2.2 ∈ xs) ∧ ls.length ≤ 16 ∧ SqL K H t [] ∧
  ∀ H', Same H H' → Q .non H'
section
variable {P : Program} {w : World} {K : PySem.W.Frag} {mg : Str → Option Value} {base : Heap} {f : Addr} {fd : FuncData}
theorem ok_ce (F : FnP K "_check_ends" sCheckEnds f fd) (Y : Fx w K mg) : FnOk P w K mg base CX0 1 f fd ["sorts", "letters", "totals"] (spCE K) := by
  refine okD F scCE (fun vs H Q E h => ?_) (fun cdv A outer s H vs Q E hr h => ?_)
  · obtain ⟨a, b, c, xs, ls, rfl, _⟩ := h
    rfl
  · have nd := scCE.nd
    refine ⟨_, pss_cons (ps_for PassesOwn.never rfl (pi_list (pv 1)) (pg_tup rfl (pgs_cons (pg_name (i := 3) nd rfl (Or.inl rfl)) (pgs_cons (pg_name (i := 4) nd rfl (Or.inl rfl)) (pgs_cons (pg_name (i := 5) nd rfl (Or.inl rfl)) pgs_nil))))
        (pss_one (ps_for PassesOwn.never rfl (pi_tup (pe_tup (pa_cons (pv 4) (pa_cons (pv 5) pa_nil)))) (pg_name (i := 6) nd rfl (Or.inl rfl))
          (pss_one (ps_ifN (pt_cmpR op_notIn_seq (pv 6) (pv 0) (by rfl)) pss_nil)))))
      (pss_cons (ps_setLc (i := 7) (own := [("letter", 8)]) (g := gName 8) (tt := tYes) (te := tOp (rIxT K) (tVar 8) (tC (.int 0))) rfl nd rfl rfl (by rfl) (pi_list (pv 1)) (blkOk_by (N := NCE) (sc := defScope sCheckEnds) (by decide +kernel)) (fun _ _ _ _ _ => pg_name (i := 8) nd rfl (Or.inl rfl)) (fun _ _ _ _ _ => pts_nil)
        (fun _ _ _ _ _ => pe_ix ix_tup (pv 8) pe_int (fun _ _ => rfl)))
      (pss_one (ps_for PassesOwn.never rfl (pi_list (pv 2)) (pg_tup rfl (pgs_cons (pg_name (i := 9) nd rfl (Or.inl rfl)) (pgs_cons (pg_name (i := 3) nd rfl (Or.inl rfl)) pgs_nil)))
        (pss_one (ps_ifN (pt_cmpR op_notIn_seq (pv 9) (pv 7) (by rfl)) pss_nil))))), ?_⟩
    obtain ⟨a, l, t, xs, ls, rfl, hs, hl, hin, hn, ht, k⟩ := h
    obtain ⟨as, q, la, g⟩ := id hl
    rw [List.length_map] at la
    refine ⟨_, rfl, l, rfl, ⟨_, q⟩, for_list (K := K) (a := l) (xs := as.map V.ref) (fun i σ G => (∃ v3 v4 v5 v6, σ = [some (.ref a), some (.ref l), some (.ref t), v3, v4, v5, v6, none, none, none]) ∧ Same H G) ⟨⟨_, _, _, _, rfl⟩, Same.refl _⟩ (fun i σ G _ p => p.2.seq q) ?_ ?_⟩
    · rintro i v σ G hi ⟨⟨v3, v4, v5, v6, rfl⟩, sm⟩
      obtain ⟨b, eb, rfl⟩ := ref_at hi
      obtain ⟨vs, e1, hT⟩ := g i b eb
      obtain ⟨lt, e2, rfl⟩ : ∃ lt, ls[i]? = some lt ∧ vs = ltV lt := by
        rw [List.getElem?_map] at e1
        cases e : ls[i]? with
        | none => rw [e] at e1; cases e1
        | some z => rw [e] at e1; exact ⟨z, rfl, (Option.some.inj e1).symm⟩
      obtain ⟨m1, m2⟩ := hin lt (List.mem_of_getElem? e2)
      refine ⟨b, _, rfl, sqt_same sm hT, rfl, _, _, rfl, _, _, rfl, _, _, rfl, rfl, ?_⟩
      refine ⟨_, rfl, _, rfl, szl (by show 2 ≤ 1000; decide), fun p hp => ?_⟩
      have sp : Same G (upd G p (.tup [.str lt.2.1, .str lt.2.2])) := same_upd hp
      refine ⟨p, rfl, ⟨_, SqT.of upd_same⟩, for_tup (K := K) (a := p) (xs := [.str lt.2.1, .str lt.2.2]) (fun j σ G' => (∃ v6, σ = [some (.ref a), some (.ref l), some (.ref t), some (.str lt.1), some (.str lt.2.1), some (.str lt.2.2), v6, none, none, none]) ∧ Same (upd G p (.tup [.str lt.2.1, .str lt.2.2])) G') ⟨⟨_, rfl⟩, Same.refl _⟩ (fun j σ G' _ z => sqt_same z.2 (SqT.of upd_same)) ?_ ?_⟩
      · rintro j v σ G' hj ⟨⟨v6, rfl⟩, s2⟩
        obtain ⟨x, hx, rfl⟩ : ∃ x, x ∈ xs ∧ v = .str x := by
          match j, hj with
          | 0, hj => cases hj; exact ⟨_, m1, rfl⟩
          | 1, hj => cases hj; exact ⟨_, m2, rfl⟩
          | (j + 2), hj => cases hj
        refine ⟨_, rfl, _, rfl, a, xs.map V.str, rfl, .inl ((sm.trans (sp.trans s2)).seq hs), rfl, flat_strs xs, ?_⟩
        rw [inV_strs, decide_eq_true hx]
        exact ⟨false, rfl, rfl, ⟨_, rfl⟩, s2⟩
      · rintro σ G' ⟨⟨v6, rfl⟩, s2⟩
        exact ⟨⟨_, _, _, _, rfl⟩, sm.trans (sp.trans s2)⟩
    · rintro σ G ⟨⟨v3, v4, v5, v6, rfl⟩, sm⟩
      refine ⟨_, rfl, l, rfl, ⟨_, sm.seq q⟩, fun D hD => ?_⟩
      refine lc_list (K := K) (a := l) (xs := as.map V.ref) (fun i G' => (∃ ns : List Str, G' D = some (.lst (ns.map V.str)) ∧ ns.length = i) ∧ Same G G') ⟨⟨[], upd_same, rfl⟩, same_upd hD⟩ (fun i G' _ p => (sm.trans p.2).seq q) ?_ ?_
      · rintro i v G' hi ⟨⟨ns, e, ln⟩, s2⟩
        obtain ⟨b, eb, rfl⟩ := ref_at hi
        obtain ⟨vs, e1, hT⟩ := g i b eb
        obtain ⟨lt, e2, rfl⟩ : ∃ lt, ls[i]? = some lt ∧ vs = ltV lt := by
          rw [List.getElem?_map] at e1
          cases z : ls[i]? with
          | none => rw [z] at e1; cases e1
          | some y => rw [z] at e1; exact ⟨y, rfl, (Option.some.inj e1).symm⟩
        have li : i < ls.length := (List.getElem?_eq_some_iff.mp e2).1
        refine ⟨rfl, _, rfl, b, _, 0, _, rfl, rfl, sqt_same (sm.trans s2) hT, rfl, _, e, ?_, ⟨ns ++ [lt.1], ?_, by rw [List.length_append, ln]; rfl⟩, same_put hD s2⟩
        · rw [List.length_map]
          exact small1000 (by omega)
        · rw [upd_same, List.map_append]
          rfl
      · rintro G' ⟨⟨ns, e, ln⟩, s2⟩
        refine ⟨_, rfl, t, rfl, ⟨_, (sm.trans s2).seq ht⟩, for_list (K := K) (a := t) (xs := []) (fun i σ G2 => Same G' G2) (Same.refl _) (fun i σ G2 _ p => (sm.trans (s2.trans p)).seq ht) (fun i v σ G2 hi _ => nomatch hi) fun σ G2 s3 => k G2 (sm.trans (s2.trans s3))⟩
end
end K22

namespace K22
open PySem PySem.Spec PyProof.Rows L2 Ow
/-! ### data that is compared: lists and tuples of texts, of ints -/
theorem dpa_strs {K : PySem.W.Frag} {H : Hp} : ∀ xs : List Str, DpAll K H (xs.map V.str) (xs.map PyData.str)
  | [] => .nil
  | x :: xs => .cons (.str x) (dpa_strs xs)
theorem sg_low : ∀ c ∈ SG.cps.toList, c < 0x110000 := by decide +kernel
theorem Wd.lay {x : Str} (h : Wd x) : PyData.strOk x = true := by
  unfold PyData.strOk
  rw [Array.all_eq_true]
  intro i hi
  exact decide_eq_true (sg_low _ (h.s i _ (Array.getElem?_eq_getElem hi)))
theorem lay_strs : ∀ xs : List Str, (∀ x ∈ xs, Wd x) → PyData.canLayAll0 (xs.map PyData.str) = true
  | [], _ => by simp [PyData.canLayAll0]
  | x :: xs, h => by simp [PyData.canLayAll0, PyData.canLay0, (h x List.mem_cons_self).lay, lay_strs xs fun y hy => h y (List.mem_cons_of_mem _ hy)]
theorem dep_strs : ∀ xs : List Str, PyData.depthAll (xs.map PyData.str) = 0
  | [] => by simp [PyData.depthAll]
  | x :: xs => by simp [PyData.depthAll, PyData.depth, dep_strs xs]
theorem dpa_ints {K : PySem.W.Frag} {H : Hp} : ∀ xs : List Int, DpAll K H (xs.map V.int) (xs.map PyData.int)
  | [] => .nil
  | x :: xs => .cons (.int x) (dpa_ints xs)
theorem lay_ints : ∀ xs : List Int, PyData.canLayAll0 (xs.map PyData.int) = true
  | [] => by simp [PyData.canLayAll0]
  | x :: xs => by simp [PyData.canLayAll0, PyData.canLay0, lay_ints xs]
theorem dep_ints : ∀ xs : List Int, PyData.depthAll (xs.map PyData.int) = 0
  | [] => by simp [PyData.depthAll]
  | x :: xs => by simp [PyData.depthAll, PyData.depth, dep_ints xs]
theorem shp_of {d : PyData} (h1 : d.canLay0 = true) (h2 : d.depth ≤ 64) : SeqAt.shaped d = true := by
  show (d.canLay0 && decide (d.depth ≤ 64)) = true
  rw [h1, decide_eq_true h2]
  rfl
theorem cl_strs {xs : List Str} (hn : NL xs) : (PyData.list (xs.map PyData.str)).canLay0 = true ∧ (PyData.tuple (xs.map PyData.str)).canLay0 = true := ⟨by simpa [PyData.canLay0] using lay_strs xs hn.w, by simpa [PyData.canLay0] using lay_strs xs hn.w⟩
theorem cl_ints (xs : List Int) : (PyData.tuple (xs.map PyData.int)).canLay0 = true := by simpa [PyData.canLay0] using lay_ints xs
theorem shp_lstr {xs : List Str} (hn : NL xs) : SeqAt.shaped (.list (xs.map PyData.str)) = true := shp_of (cl_strs hn).1 (by simp only [PyData.depth, dep_strs]; omega)
theorem shp_tstr {xs : List Str} (hn : NL xs) : SeqAt.shaped (.tuple (xs.map PyData.str)) = true := shp_of (cl_strs hn).2 (by simp only [PyData.depth, dep_strs]; omega)
theorem shp_tint (xs : List Int) : SeqAt.shaped (.tuple (xs.map PyData.int)) = true := shp_of (cl_ints xs) (by simp only [PyData.depth, dep_ints]; omega)
theorem eqv_lstr {xs : List Str} (hn : NL xs) : PyData.eqv (.list (xs.map PyData.str)) (.list (xs.map PyData.str)) = true := SeqAt.eqv_refl _ (cl_strs hn).1
theorem eqv_tstr {xs : List Str} (hn : NL xs) : PyData.eqv (.tuple (xs.map PyData.str)) (.tuple (xs.map PyData.str)) = true := SeqAt.eqv_refl _ (cl_strs hn).2
theorem eqv_ints : ∀ xs ys : List Int, PyData.eqv (.tuple (xs.map PyData.int)) (.tuple (ys.map PyData.int)) = decide (xs = ys)
  | [], [] => by simp [PyData.eqv, PyData.eqvAll]
  | [], y :: ys => by simp [PyData.eqv, PyData.eqvAll]
  | x :: xs, [] => by simp [PyData.eqv, PyData.eqvAll]
  | x :: xs, y :: ys => by
    have e := eqv_ints xs ys
    simp only [PyData.eqv] at e
    simp only [List.map_cons, PyData.eqv, PyData.eqvAll, e]
    by_cases h : x = y <;> by_cases g : xs = ys <;> simp [h, g]
/-- what != asks of two equal lists of texts -/
theorem ne_lstr {K : PySem.W.Frag} {H : Hp} {a b : Addr} {xs : List Str} {Q : VK} (hn : NL xs) (h1 : SqL K H a (xs.map V.str)) (h2 : SqL K H b (xs.map V.str)) (k : Q (.bl false) H) : rNeD K (.ref a) (.ref b) H Q :=
  ⟨.list (xs.map PyData.str), .list (xs.map PyData.str), .lst h1 (dpa_strs xs), .lst h2 (dpa_strs xs), shp_lstr hn, shp_lstr hn, by rw [eqv_lstr hn]; exact k⟩
theorem ne_tstr {K : PySem.W.Frag} {H : Hp} {a b : Addr} {xs : List Str} {Q : VK} (hn : NL xs) (h1 : SqT K H a (xs.map V.str)) (h2 : SqT K H b (xs.map V.str)) (k : Q (.bl false) H) : rNeD K (.ref a) (.ref b) H Q :=
  ⟨.tuple (xs.map PyData.str), .tuple (xs.map PyData.str), .tup h1 (dpa_strs xs), .tup h2 (dpa_strs xs), shp_tstr hn, shp_tstr hn, by rw [eqv_tstr hn]; exact k⟩
theorem eq_tstr {K : PySem.W.Frag} {H : Hp} {a b : Addr} {xs : List Str} {Q : VK} (hn : NL xs) (h1 : SqT K H a (xs.map V.str)) (h2 : SqT K H b (xs.map V.str)) (k : Q (.bl true) H) : rEqD K (.ref a) (.ref b) H Q :=
  ⟨.tuple (xs.map PyData.str), .tuple (xs.map PyData.str), .tup h1 (dpa_strs xs), .tup h2 (dpa_strs xs), shp_tstr hn, shp_tstr hn, by rw [eqv_tstr hn]; exact k⟩
end K22

namespace K22
open PySem PySem.Spec PyProof.Rows L2 Ow
theorem hu64_of {A : Around} {k : Nat} (hr : Room k A) : A.units + 64 < cLine := hr.units
abbrev NCT : List Str := ["totals", "at", "name", "word"]
theorem scCT : FnScope NCT ["totals"] (defScope sCheckTotals) := ⟨rfl, rfl, rfl, by decide +kernel, rfl, by decide +kernel, by decide +kernel⟩
def spCT (K : PySem.W.Frag) : Sp := fun vs H Q _ => ∃ (t : Addr), vs = [.ref t] ∧ SqL K H t [] ∧ ∀ H', Same H H' → Q .non H'
abbrev NCS : List Str := ["sorts", "steps", "left", "leading", "x", "y"]
theorem scCS : FnScope NCS ["sorts", "steps"] (defScope sCheckSteps) := ⟨rfl, rfl, rfl, by decide +kernel, rfl, by decide +kernel, by decide +kernel⟩
/-- the block of the outer comprehension -/
def scCSx : Scope := { kind := .function, names := [(".0", .local), ("x", .cell), ("any", .globalImplicit), ("left", .cell), ("steps", .cell)], isGenerator := false, isCoroutine := false }
def teIn (K : PySem.W.Frag) : TE := tOp (rInD K) (tTup (tCons (tVar 4) (tCons (tVar 5) tNil))) (tVar 1)
def ttAny (K : PySem.W.Frag) : TT := tB (tCB (rAny K) (tCons (tLc (iList K (tVar 2)) (gName 5) tYes (teIn K) [5]) tNil))
theorem shp_pair {x y : Str} (hx : Wd x) (hy : Wd y) : SeqAt.shaped (.tuple [.str x, .str y]) = true :=
  shp_of (by simp [PyData.canLay0, PyData.canLayAll0, hx.lay, hy.lay]) (by simp [PyData.depth, PyData.depthAll])
theorem shp_nil : SeqAt.shaped (.list []) = true := shp_of (by simp [PyData.canLay0, PyData.canLayAll0]) (by simp [PyData.depth, PyData.depthAll])
/-- no step leads on -/
theorem lead_ev {K : PySem.W.Frag} {t L : Addr} {xs : List Str} {v0 v3 : Option V} {G : Hp} {Q : VK} (ht : SqL K G t []) (hL : SqL K G L (xs.map V.str)) (hn : NL xs) (k : ∀ D G', G D = none → Same G G' → G' D = some (.lst []) → Q (.ref D) G') :
    tLc (iList K (tVar 2)) (gName 4) (ttAny K) (tVar 4) [4] [v0, some (.ref t), some (.ref L), v3, none, none] G Q := by
  refine ⟨_, rfl, L, rfl, ⟨_, hL⟩, fun D hD => ?_⟩
  refine lc_list (K := K) (a := L) (xs := xs.map V.str) (fun i G' => G' D = some (.lst []) ∧ Same G G') ⟨upd_same, same_upd hD⟩ (fun i G' _ p => p.2.seq hL) ?_ (fun G' p => k D G' hD p.2 p.1)
  rintro i v G' hi ⟨e, s1⟩
  obtain ⟨x, ex, rfl⟩ := str_at hi
  have hx := hn.w x (List.mem_of_getElem? ex)
  refine ⟨rfl, ?_⟩
  show tB (tCB (rAny K) (tCons (tLc (iList K (tVar 2)) (gName 5) tYes (teIn K) [5]) tNil)) _ _ _
  refine ⟨_, rfl, L, rfl, ⟨_, s1.seq hL⟩, fun D2 hD2 => ?_⟩
  refine lc_list (K := K) (a := L) (xs := xs.map V.str) (fun j G2 => G2 D2 = some (.lst ((List.replicate j false).map V.bl)) ∧ Same G' G2) ⟨upd_same, same_upd hD2⟩ (fun j G2 _ p => p.2.seq (s1.seq hL)) ?_ ?_
  · rintro j v G2 hj ⟨e2, s2⟩
    obtain ⟨y, ey, rfl⟩ := str_at hj
    have hy := hn.w y (List.mem_of_getElem? ey)
    refine ⟨rfl, ?_⟩
    refine ⟨_, rfl, _, rfl, szl (by show 2 ≤ 1000; decide), fun T hT => ?_⟩
    refine ⟨_, rfl, .tuple [.str x, .str y], [], .tup (SqT.of upd_same) (.cons (.str _) (.cons (.str _) .nil)), .lst ((same_upd hT).seq (s2.seq (s1.seq ht))) .nil, shp_pair hx hy, shp_nil, ?_⟩
    refine ⟨_, same_upd hT _ _ e2, ?_, ?_, same_put hD2 (s2.trans (same_upd hT))⟩
    · rw [List.length_map, List.length_replicate]
      have z := (List.getElem?_eq_some_iff.mp ey).1
      have n16 := hn.n
      exact small1000 (by omega)
    · rw [upd_same, List.replicate_succ', List.map_append]
      rfl
  · rintro G2 ⟨e2, s2⟩
    refine ⟨D2, _, rfl, SqL.of e2, false, ?_, ?_⟩
    · rw [show (List.replicate (xs.map V.str).length false).any id = false by simp]
    · exact ⟨s2 _ _ e, s1.trans s2⟩
theorem lead_st {K : PySem.W.Frag} {t L : Addr} {xs : List Str} {v0 v3 : Option V} {G : Hp} {u : TS} {E : Ends} (ht : SqL K G t []) (hL : SqL K G L (xs.map V.str)) (hn : NL xs) (k : ∀ D G', G D = none → Same G G' → G' D = some (.lst []) → u E [v0, some (.ref t), some (.ref L), some (.ref D), none, none] G') :
    tSeq (tAsg (tLc (iList K (tVar 2)) (gName 4) (ttAny K) (tVar 4) (List.map (fun x => x.snd) [(("x" : Str), 4)])) (gName 3)) u E [v0, some (.ref t), some (.ref L), v3, none, none] G :=
  lead_ev (Q := fun v G' => gName 3 v [v0, some (.ref t), some (.ref L), v3, none, none] G' (u E)) ht hL hn k
theorem lead_en {K : PySem.W.Frag} {t L : Addr} {xs : List Str} {v0 v3 : Option V} {G : Hp} {E : Ends} (ht : SqL K G t []) (hL : SqL K G L (xs.map V.str)) (hn : NL xs) (k : ∀ D G', G D = none → Same G G' → G' D = some (.lst []) → E.nx [v0, some (.ref t), some (.ref L), some (.ref D), none, none] G') :
    tAsg (tLc (iList K (tVar 2)) (gName 4) (ttAny K) (tVar 4) (List.map (fun x => x.snd) [(("x" : Str), 4)])) (gName 3) E [v0, some (.ref t), some (.ref L), v3, none, none] G :=
  lead_ev (Q := fun v G' => gName 3 v [v0, some (.ref t), some (.ref L), v3, none, none] G' E.nx) ht hL hn k
def spCS (K : PySem.W.Frag) : Sp := fun vs H Q _ => ∃ (s t : Addr) (xs : List Str), vs = [.ref s, .ref t] ∧ SqL K H s (xs.map V.str) ∧ NL xs ∧ SqL K H t [] ∧ ∀ H', Same H H' → Q .non H'
section
variable {P : Program} {w : World} {K : PySem.W.Frag} {mg : Str → Option Value} {base : Heap} {f : Addr} {fd : FuncData}
theorem ok_ct (F : FnP K "_check_totals" sCheckTotals f fd) (Y : Fx w K mg) : FnOk P w K mg base CX0 1 f fd ["totals"] (spCT K) := by
  refine okD F scCT (fun vs H Q E h => ?_) (fun cdv A outer s H vs Q E hr h => ?_)
  · obtain ⟨t, rfl, _⟩ := h
    rfl
  · have nd := scCT.nd
    refine ⟨_, pss_one (ps_for PassesOwn.never rfl (pi_enumA (by rfl) Y.bEnumerate (pa_cons (pv 0) pa_nil)) (pg_tup rfl (pgs_cons (pg_name (i := 1) nd rfl (Or.inl rfl)) (pgs_cons (pg_tup rfl (pgs_cons (pg_name (i := 2) nd rfl (Or.inl rfl)) (pgs_cons (pg_name (i := 3) nd rfl (Or.inl rfl)) pgs_nil))) pgs_nil)))
      (pss_one (ps_ifN (pw_or (pt_cmpR op_notIn_seq (pv 3) (pe_tup (pa_cons pe_str (pa_cons pe_str pa_nil))) (by rfl)) (pw_or1 (pt_cmpR op_in_seq (pe_tup (pa_cons (pv 2) (pa_cons (pv 3) pa_nil))) (pe_slice sl_list (pv 0) po_none (po_some (pv 1))) (by rfl)))).pt pss_nil))), ?_⟩
    obtain ⟨t, rfl, ht, k⟩ := h
    refine ⟨_, rfl, t, [], rfl, .inl ht, fun J GG wk gk => for_it wk (fun i σ G => Same H G) (Same.refl _) (fun i σ G _ q => gk G q) (fun i v σ G G' hi => absurd hi (Nat.not_lt_zero _)) fun σ G s2 => k G s2⟩
theorem ok_cs (F : FnP K "_check_steps" sCheckSteps f fd) (Y : Fx w K mg) : FnOk P w K mg base CX0 1 f fd ["sorts", "steps"] (spCS K) := by
  refine okD F scCS (fun vs H Q E h => ?_) (fun cdv A outer s H vs Q E hr h => ?_)
  · obtain ⟨a, t, xs, rfl, _⟩ := h
    rfl
  · have nd := scCS.nd
    have hu65 : (A.deeper (envOfC "_check_steps" (defScope sCheckSteps) s.heap.objs.size f cdv)).units + 65 < cLine := by have := hr.un; omega
    have hu64 := hu64_of hr
    refine ⟨_, pss_cons (ps_set (i := 2) nd rfl (Or.inr rfl) (pe_callTy call_list_of (by rfl) Y.bList boot_list (pa_cons (pv 0) pa_nil)))
      (pss_cons (ps_setLc (i := 3) (own := [("x", 4)]) (g := gName 4) (tt := ttAny K) (te := tVar 4) rfl nd rfl rfl (by rfl) (pi_list (pv 2)) (blkOk_by (N := NCS) (sc := defScope sCheckSteps) (by decide +kernel)) (fun _ _ _ _ _ => pg_name (i := 4) nd rfl (Or.inr rfl))
          (fun _ _ _ _ _ => pts_one (pt_val (pe_callB (cr_any rfl) (by rfl) Y.bAny (by decide +kernel) (pa_cons (pe_lc (own := [("y", 5)]) (g := gName 5) (tt := tYes) (te := teIn K) rfl nd (pi_list (pv 2)) (blkOk_by (N := NCS) (sc := scCSx) (by decide +kernel)) (fun _ _ _ _ _ => pg_name (i := 5) nd rfl (Or.inl rfl)) (fun _ _ _ _ _ => pts_nil)
            (fun _ _ _ _ _ => pe_cmpR (op_inD hu65) (pe_tup (pa_cons (pv 4) (pa_cons (pv 5) pa_nil))) (pv 1) (by rfl))) pa_nil))))
          (fun _ _ _ _ _ => pv 4))
      (pss_cons (ps_while PassesOwn.never (pt_cmpR (op_neD hu64) (pv 3) (pv 2) (nomark _))
        (pss_cons (ps_set (i := 2) nd rfl (Or.inr rfl) (pv 3))
        (pss_cons (ps_setLc (i := 3) (own := [("x", 4)]) (g := gName 4) (tt := ttAny K) (te := tVar 4) rfl nd rfl rfl (by rfl) (pi_list (pv 2)) (blkOk_by (N := NCS) (sc := defScope sCheckSteps) (by decide +kernel)) (fun _ _ _ _ _ => pg_name (i := 4) nd rfl (Or.inr rfl))
          (fun _ _ _ _ _ => pts_one (pt_val (pe_callB (cr_any rfl) (by rfl) Y.bAny (by decide +kernel) (pa_cons (pe_lc (own := [("y", 5)]) (g := gName 5) (tt := tYes) (te := teIn K) rfl nd (pi_list (pv 2)) (blkOk_by (N := NCS) (sc := scCSx) (by decide +kernel)) (fun _ _ _ _ _ => pg_name (i := 5) nd rfl (Or.inl rfl)) (fun _ _ _ _ _ => pts_nil)
            (fun _ _ _ _ _ => pe_cmpR (op_inD hu65) (pe_tup (pa_cons (pv 4) (pa_cons (pv 5) pa_nil))) (pv 1) (by rfl))) pa_nil))))
          (fun _ _ _ _ _ => pv 4)) pss_nil)))
      (pss_one (ps_ifN (pt_truth (pv 2) (by intro _; rfl)) pss_nil)))), ?_⟩
    obtain ⟨a, t, xs, rfl, hs, hn, ht, k⟩ := h
    refine ⟨_, rfl, a, _, rfl, .inl hs, fun L hL => ?_⟩
    have s0 := same_upd (o := .lst (xs.map V.str)) hL
    change tSeq _ _ _ _ (upd H L (.lst (xs.map V.str)))
    refine lead_st (xs := xs) (s0.seq ht) (SqL.of upd_same) hn fun D G hD s1 eD => ?_
    have eL : G L = some (.lst (xs.map V.str)) := s1 _ _ upd_same
    replace s1 := s0.trans s1
    change tSeq (tWhile _ _) _ _ _ _
    refine while_by (fun σ G' => ∃ (L D : Addr) (ys : List Str), σ = [some (.ref a), some (.ref t), some (.ref L), some (.ref D), none, none] ∧ G' L = some (.lst (ys.map V.str)) ∧ G' D = some (.lst []) ∧ NL ys ∧ Same H G')
      (fun σ G' => match σ[2]? with
        | some (some (V.ref b)) => (match G' b with
          | some (.lst zs) => zs.length
          | _ => 0)
        | _ => 0) ⟨L, D, xs, rfl, eL, eD, hn, s1⟩ ?_ ?_
    · rintro σ G' ⟨L, D, ys, rfl, hL, hD, hn, sm⟩
      refine ⟨_, rfl, _, rfl, .list [], .list (ys.map PyData.str),   .lst (SqL.of hD) .nil, .lst (SqL.of hL) (dpa_strs ys), shp_nil, shp_lstr hn, ?_⟩
      cases ys with
      | nil =>
        refine ⟨false, by simp [PyData.eqv, PyData.eqvAll], iteF ?_⟩
        exact ⟨_, rfl, false, .inl ⟨_, SqL.of hL, rfl⟩, rfl, k G' sm⟩
      | cons y ys =>
        refine ⟨true, by simp [PyData.eqv, PyData.eqvAll], iteT ?_⟩
        refine ⟨_, rfl, ?_⟩
        change tSeq _ _ _ _ _
        refine lead_st (xs := []) (sm.seq ht) (SqL.of hD) ⟨List.nodup_nil, fun x hx => absurd hx List.not_mem_nil, Nat.zero_le _⟩ fun D2 G2 hD2 s2 e2 => ?_
        refine ⟨⟨D, D2, [], rfl, s2 _ _ hD, e2, ⟨List.nodup_nil, fun x hx => absurd hx List.not_mem_nil, Nat.zero_le _⟩, sm.trans s2⟩, ?_⟩
        show (match G2 D with
          | some (HO.lst zs) => zs.length
          | _ => 0) < (match G' L with
          | some (HO.lst zs) => zs.length
          | _ => 0)
        rw [s2 _ _ hD, hL]
        exact Nat.succ_pos _
    · rintro σ G' Q1 Q2 hq ⟨v, e1, u, e2, d, e, h1, h2, h3, h4, kk, e3, z⟩
      exact ⟨v, e1, u, e2, d, e, h1, h2, h3, h4, kk, e3, hq _ _ z⟩
end
end K22

namespace K22
open PySem PySem.Spec PyProof.Rows L2 Ow
/-- an expression that is never asked -/
def tNo : TE := fun _ _ _ => False
theorem pe_no {X : Cx} {e : Expr} : PE X e tNo := ⟨fun _ _ _ _ _ _ h => h.elim⟩
abbrev FnM (K : PySem.W.Frag) (m q : Str) (st : Stmt) (f : Addr) (fd : FuncData) : Prop := FunD K m q (defArgs st) (defBody st) (defScope st) [] [] f fd
def isIns : HO → Bool
  | .ins _ _ _ => true
  | _ => false
section
variable {K : PySem.W.Frag} {x : Addr} {H H' : Hp}
theorem Keep.one {o : HO} (k : Keep x H H') (hx : ∃ u, H x = some u ∧ isIns u = true) {b : Addr} (e : H b = some o) (n : isIns o = false) : H' b = some o := by
  refine k b o (fun z => ?_) e
  obtain ⟨u, hu, iu⟩ := hx
  subst z
  rw [hu] at e
  cases e
  rw [iu] at n
  cases n
theorem Keep.sqt {a : Addr} {xs : List V} (k : Keep x H H') (hx : ∃ u, H x = some u ∧ isIns u = true) (h : SqT K H a xs) : SqT K H' a xs :=
  h.elim (fun h => .inl (h.elim (fun h => .inl (k.one hx h rfl)) fun ⟨o, h⟩ => .inr ⟨o, k.one hx h rfl⟩)) fun h => .inr h
theorem Keep.sql {a : Addr} {xs : List V} (k : Keep x H H') (hx : ∃ u, H x = some u ∧ isIns u = true) (h : SqL K H a xs) : SqL K H' a xs :=
  h.elim (fun h => .inl (h.elim (fun h => .inl (k.one hx h rfl)) fun ⟨o, h⟩ => .inr ⟨o, k.one hx h rfl⟩)) fun h => .inr h
theorem Keep.tups {l : Addr} {vss : List (List V)} (k : Keep x H H') (hx : ∃ u, H x = some u ∧ isIns u = true) (h : TupsAt K H l vss) : TupsAt K H' l vss := by
  obtain ⟨as, q, e, g⟩ := h
  refine ⟨as, k.sql hx q, e, fun i t z => ?_⟩
  obtain ⟨vs, e1, e2⟩ := g i t z
  exact ⟨vs, e1, k.sqt hx e2⟩
end
abbrev NFI : List Str := ["self", "sorts", "letters", "totals", "kept_totals", "ends", "letter", "name", "word", "first", "second", "total"]
theorem scFI : FnScope NFI ["self", "sorts", "letters", "totals"] (defScope sFrame_Init) := ⟨rfl, rfl, rfl, by decide +kernel, rfl, by decide +kernel, by decide +kernel⟩
/-- a frame's parts without totals -/
structure FrOk (xs : List Str) (ls : List Lt) : Prop where
  nx : NL xs
  nl : NL (ls.map (·.1))
  ends : ∀ q ∈ ls, q.2.1 ∈ xs ∧ q.2.2 ∈ xs
def spFI (K : PySem.W.Frag) : Sp := fun vs H Q _ => ∃ (x s l t dx : Addr) (xs : List Str) (ls : List Lt), vs = [.ref x, .ref s, .ref l, .ref t] ∧ H x = some (.ins (CFrame K) dx []) ∧ SqL K H s (xs.map V.str) ∧ TupsAt K H l (ls.map ltV) ∧ SqL K H t [] ∧ FrOk xs ls ∧
  ∀ H', Keep x H H' → Q .non H'
theorem lt_at {ls : List Lt} {i : Nat} {vs : List V} (e1 : (ls.map ltV)[i]? = some vs) : ∃ lt, ls[i]? = some lt ∧ vs = ltV lt := by
  rw [List.getElem?_map] at e1
  cases e : ls[i]? with
  | none => rw [e] at e1; cases e1
  | some z => rw [e] at e1; exact ⟨z, rfl, (Option.some.inj e1).symm⟩
section
variable {P : Program} {w : World} {K : PySem.W.Frag} {mg : Str → Option Value} {base : Heap} {f : Addr} {fd : FuncData}
theorem ok_fi (F : FnM K "__init__" "Frame.__init__" sFrame_Init f fd) (Y : Fx w K mg) : FnOk P w K mg base CX0 3 f fd ["self", "sorts", "letters", "totals"] (spFI K) := by
  obtain ⟨d1, F1⟩ := Y.dCheckNames
  obtain ⟨d2, F2⟩ := Y.dCheckEnds
  obtain ⟨d3, F3⟩ := Y.dCheckTotals
  obtain ⟨d4, F4⟩ := Y.dCheckSteps
  have b1 := FunD.bindsN (ps := ["lists"]) F1 fun _ _ _ _ _ _ us hl => match us, hl with | [_], _ => rfl
  have b2 := FunD.bindsN (ps := ["sorts", "letters", "totals"]) F2 fun _ _ _ _ _ _ us hl => match us, hl with | [_, _, _], _ => rfl
  have b3 := FunD.bindsN (ps := ["totals"]) F3 fun _ _ _ _ _ _ us hl => match us, hl with | [_], _ => rfl
  have b4 := FunD.bindsN (ps := ["sorts", "steps"]) F4 fun _ _ _ _ _ _ us hl => match us, hl with | [_, _], _ => rfl
  have G1 : FnOk P w K mg base CX0 2 _ d1 ["lists"] (spCheck K) := ok_check F1 Y
  have G2 : FnOk P w K mg base CX0 1 _ d2 ["sorts", "letters", "totals"] (spCE K) := ok_ce F2 Y
  have G3 : FnOk P w K mg base CX0 1 _ d3 ["totals"] (spCT K) := ok_ct F3 Y
  have G4 : FnOk P w K mg base CX0 1 _ d4 ["sorts", "steps"] (spCS K) := ok_cs F4 Y
  refine okD F scFI (fun vs H Q E h => ?_) (fun cdv A outer s H vs Q E hr h => ?_)
  · obtain ⟨x, a, l, t, dx, xs, ls, rfl, _⟩ := h
    rfl
  · have nd := scFI.nd
    have hr1 : Room 1 _ := hr.mono (by decide)
    refine ⟨_, pss_cons (ps_expr (pe_call G1 hr (by rfl) Y.gCheckNames F1.kp b1 .nil pass0 (pa_cons (pe_lst (pa_cons (pv 1) (pa_cons
          (pe_lc (own := [("letter", 6)]) (g := gName 6) (tt := tYes) (te := tOp (rIxT K) (tVar 6) (tC (.int 0))) rfl nd (pi_list (pv 2)) (blkOk_by (N := NFI) (sc := defScope sFrame_Init) (by decide +kernel)) (fun _ _ _ _ _ => pg_name (i := 6) nd rfl (Or.inl rfl)) (fun _ _ _ _ _ => pts_nil) (fun _ _ _ _ _ => pe_ix ix_tup (pv 6) pe_int (fun _ _ => rfl))) pa_nil))) pa_nil)))
      (pss_cons (ps_expr (pe_call G2 hr1 (by rfl) Y.gCheckEnds F2.kp b2 .nil pass0 (pa_cons (pv 1) (pa_cons (pv 2) (pa_cons (pv 3) pa_nil)))))
      (pss_cons (ps_setLc (i := 4) (own := [("name", 7), ("word", 8)]) (g := gTup K 2 (gCons (gName 7) (gCons (gName 8) gNil))) (tt := tYes) (te := tNo) rfl nd rfl rfl (by rfl) (pi_list (pv 3)) (blkOk_by (N := NFI) (sc := defScope sFrame_Init) (by decide +kernel)) (fun _ _ _ _ _ => pg_tup rfl (pgs_cons (pg_name (i := 7) nd rfl (Or.inl rfl)) (pgs_cons (pg_name (i := 8) nd rfl (Or.inl rfl)) pgs_nil))) (fun _ _ _ _ _ => pts_nil) (fun _ _ _ _ _ => pe_no))
      (pss_cons (ps_expr (pe_call G3 hr1 (by rfl) Y.gCheckTotals F3.kp b3 .nil pass0 (pa_cons (pv 4) pa_nil)))
      (pss_cons (ps_set (i := 5) nd rfl (Or.inr rfl) (pe_dc (own := [("name", 7), ("first", 9), ("second", 10)]) (g := gTup K 3 (gCons (gName 7) (gCons (gName 9) (gCons (gName 10) gNil)))) (tt := tYes) (tk := tVar 7) (tv := tTup (tCons (tVar 9) (tCons (tVar 10) tNil))) rfl nd (pi_list (pv 2)) (blkOk_by (N := NFI) (sc := defScope sFrame_Init) (by decide +kernel))
          (fun _ _ _ _ _ => pg_tup rfl (pgs_cons (pg_name (i := 7) nd rfl (Or.inl rfl)) (pgs_cons (pg_name (i := 9) nd rfl (Or.inl rfl)) (pgs_cons (pg_name (i := 10) nd rfl (Or.inl rfl)) pgs_nil)))) (fun _ _ _ _ _ => pts_nil) (fun _ _ _ _ _ => pv 7) (fun _ _ _ _ _ => pe_tup (pa_cons (pv 9) (pa_cons (pv 10) pa_nil)))))
      (pss_cons (ps_expr (pe_call G4 hr1 (by rfl) Y.gCheckSteps F4.kp b4 .nil pass0 (pa_cons (pv 1) (pa_cons
          (pe_lc (own := [("total", 11)]) (g := gName 11) (tt := tYes) (te := tNo) rfl nd (pi_list (pv 4)) (blkOk_by (N := NFI) (sc := defScope sFrame_Init) (by decide +kernel)) (fun _ _ _ _ _ => pg_name (i := 11) nd rfl (Or.inl rfl)) (fun _ _ _ _ _ => pts_nil) (fun _ _ _ _ _ => pe_no)) pa_nil))))
      (pss_cons (ps_fld (pv 0) (pe_callTy call_tuple_of (by rfl) Y.bTuple (by decide +kernel) (pa_cons (pv 1) pa_nil)) rfl)
      (pss_cons (ps_fld (pv 0) (pe_callTy call_tuple_of (by rfl) Y.bTuple (by decide +kernel) (pa_cons
          (pe_lc (own := [("name", 7), ("first", 9), ("second", 10)]) (g := gTup K 3 (gCons (gName 7) (gCons (gName 9) (gCons (gName 10) gNil)))) (tt := tYes) (te := tTup (tCons (tVar 7) (tCons (tVar 9) (tCons (tVar 10) tNil)))) rfl nd (pi_list (pv 2)) (blkOk_by (N := NFI) (sc := defScope sFrame_Init) (by decide +kernel))
            (fun _ _ _ _ _ => pg_tup rfl (pgs_cons (pg_name (i := 7) nd rfl (Or.inl rfl)) (pgs_cons (pg_name (i := 9) nd rfl (Or.inl rfl)) (pgs_cons (pg_name (i := 10) nd rfl (Or.inl rfl)) pgs_nil)))) (fun _ _ _ _ _ => pts_nil) (fun _ _ _ _ _ => pe_tup (pa_cons (pv 7) (pa_cons (pv 9) (pa_cons (pv 10) pa_nil))))) pa_nil)) rfl)
      (pss_cons (ps_fld (pv 0) (pe_callTy call_tuple_of (by rfl) Y.bTuple (by decide +kernel) (pa_cons (pv 4) pa_nil)) rfl)
      (pss_one (ps_fld (pv 0) (pv 5) rfl)))))))))), ?_⟩
    obtain ⟨x, a, l, t, dx, xs, ls, rfl, hx, hs, hl, ht, ok, k⟩ := h
    obtain ⟨as, q, la, g⟩ := id hl
    rw [List.length_map] at la
    have hx0 : ∃ u, H x = some u ∧ isIns u = true := ⟨_, hx, rfl⟩
    have n16 : ls.length ≤ 16 := by have := ok.nl.n; rw [List.length_map] at this; exact this
    refine ⟨_, rfl, _, rfl, l, rfl, ⟨_, q⟩, fun D hD => ?_⟩
    refine lc_list (K := K) (a := l) (xs := as.map V.ref) (fun i G => G D = some (.lst (((ls.take i).map (·.1)).map V.str)) ∧ Same H G) ⟨upd_same, same_upd hD⟩ (fun i G _ p => p.2.seq q) ?_ ?_
    · rintro i v G hi ⟨e, s2⟩
      obtain ⟨b, eb, rfl⟩ := ref_at hi
      obtain ⟨vs, e1, hT⟩ := g i b eb
      obtain ⟨lt, e2, rfl⟩ := lt_at e1
      have li : i < ls.length := (List.getElem?_eq_some_iff.mp e2).1
      refine ⟨rfl, _, rfl, b, _, 0, _, rfl, rfl, sqt_same s2 hT, rfl, _, e, ?_, ?_, same_put hD s2⟩
      · rw [List.length_map, List.length_map, List.length_take]
        exact small1000 (by omega)
      · rw [upd_same, List.take_add_one, e2]
        simp [ltV]
    rintro G0 ⟨eD, s0⟩
    rw [List.length_map, la, List.take_length] at eD
    refine ⟨szl (by show 2 ≤ 1000; decide), fun p hp => ?_⟩
    have sp := s0.trans (same_upd (o := .lst [V.ref a, V.ref D]) hp)
    refine ⟨p, .ref a, .ref D, xs, ls.map (·.1), rfl, SqL.of upd_same, ⟨a, rfl, .inl (sp.seq hs), ok.nx⟩, ⟨D, rfl, .inl (SqL.of (same_upd hp _ _ eD)), ok.nl⟩, fun H1 s1 => ?_⟩
    replace s1 := sp.trans s1
    clear sp hp eD s0 hD
    refine ⟨_, rfl, _, rfl, _, rfl, a, l, t, xs, ls, rfl, s1.seq hs, hl.same s1, ok.ends, n16, s1.seq ht, fun H2 s2 => ?_⟩
    replace s2 := s1.trans s2
    clear s1
    refine ⟨_, rfl, t, rfl, ⟨_, s2.seq ht⟩, fun T hT => ?_⟩
    refine lc_list (K := K) (a := t) (xs := []) (fun i G => G T = some (.lst []) ∧ Same H2 G) ⟨upd_same, same_upd hT⟩ (fun i G _ p => (s2.trans p.2).seq ht) (fun i v G hi => nomatch hi) ?_
    rintro H3 ⟨eT, s3⟩
    replace s3 := s2.trans s3
    clear s2 hT
    refine ⟨_, rfl, T, rfl, SqL.of eT, fun H4 s4 => ?_⟩
    have eT := s4 _ _ eT
    replace s4 := s3.trans s4
    clear s3
    refine ⟨_, rfl, l, rfl, ⟨_, s4.seq q⟩, fun N hN => ?_⟩
    refine dc_it (walk_list (K := K) (a := l) (xs := as.map V.ref)) (fun i G => (∃ kvs : List (Key × V), G N = some (.dK kvs) ∧ kvs.length ≤ i) ∧ Same H4 G) ⟨⟨[], upd_same, Nat.le_refl _⟩, same_upd hN⟩ (fun i G _ p => (s4.trans p.2).seq q) ?_ ?_
    · rintro i v G G' hi ⟨⟨kvs, e, lk⟩, s5⟩ ⟨rfl, ev⟩
      obtain ⟨b, eb, rfl⟩ := ref_at ev
      obtain ⟨vs, e1, hT⟩ := g i b eb
      obtain ⟨lt, e2, rfl⟩ := lt_at e1
      have li : i < ls.length := (List.getElem?_eq_some_iff.mp e2).1
      refine ⟨b, _, rfl, sqt_same (s4.trans s5) hT, rfl, _, _, rfl, _, _, rfl, _, _, rfl, rfl, rfl, _, rfl, _, rfl, _, rfl, szl (by show 2 ≤ 1000; decide), fun T2 hT2 => ?_⟩
      refine ⟨kvs, .inr lt.1, rfl, same_upd hT2 _ _ e, small1000 (by omega), ⟨putK kvs (.inr lt.1) (.ref T2), upd_same, ?_⟩, same_put hN (s5.trans (same_upd hT2))⟩
      exact Nat.le_trans (length_putK _ _ _) (by omega)
    rintro H5 ⟨⟨kvs, eN, _⟩, s5⟩
    have eT := s5 _ _ eT
    replace s5 := s4.trans s5
    clear s4 hN
    refine ⟨_, rfl, _, rfl, T, rfl, ⟨_, SqL.of eT⟩, fun U hU => ?_⟩
    refine lc_list (K := K) (a := T) (xs := []) (fun i G => G U = some (.lst []) ∧ Same H5 G) ⟨upd_same, same_upd hU⟩ (fun i G _ p => SqL.of (p.2 _ _ eT)) (fun i v G hi => nomatch hi) ?_
    rintro H6 ⟨eU, s6⟩
    refine ⟨a, U, xs, rfl, (s5.trans s6).seq hs, ok.nx, SqL.of eU, fun H7 s7 => ?_⟩
    have eT := s7 _ _ (s6 _ _ eT)
    have eN := s7 _ _ (s6 _ _ eN)
    replace s7 := s5.trans (s6.trans s7)
    clear s5 s6 hU eU
    -- the fields
    have x1 := s7 _ _ hx
    have hs1 := s7.seq hs
    have hl1 := hl.same s7
    have k1 : Keep x H H7 := .of s7
    clear s7
    refine ⟨_, rfl, a, _, rfl, .inl ⟨hs1, fun p hp => ⟨_, rfl, x, CFrame K, dx, _, rfl, (upd_ne (ne_of_none x1 hp)).trans x1, Y.cFrame, Y.nFrameSorts, (by show 0 < 1000; decide), ?_⟩⟩⟩
    have kk : Keep x H7 (upd (upd H7 p (.tup (xs.map V.str))) x (.ins (CFrame K) dx [("_sorts", .ref p)])) := (Keep.of (same_upd hp)).trans .put
    replace hl1 := kk.tups ⟨_, x1, rfl⟩ hl1
    replace eT := kk.one ⟨_, x1, rfl⟩ eT rfl
    replace eN := kk.one ⟨_, x1, rfl⟩ eN rfl
    replace k1 := k1.trans kk
    replace x1 : upd (upd H7 p (.tup (xs.map V.str))) x (.ins (CFrame K) dx [("_sorts", .ref p)]) x = some (.ins (CFrame K) dx [("_sorts", .ref p)]) := upd_same
    obtain ⟨G1, e1⟩ : ∃ Z, Z = upd (upd H7 p (.tup (xs.map V.str))) x (.ins (CFrame K) dx [("_sorts", .ref p)]) := ⟨_, rfl⟩
    change tSeq _ _ _ _ (upd (upd H7 p (.tup (xs.map V.str))) x (.ins (CFrame K) dx [("_sorts", .ref p)]))
    rw [← e1] at hl1 eT eN k1 x1 ⊢
    clear kk e1 hs1 hp
    obtain ⟨as2, q2, la2, g2⟩ := hl1
    rw [List.length_map] at la2
    refine ⟨_, rfl, l, rfl, ⟨_, q2⟩, fun D hD => ?_⟩
    refine lc_list (K := K) (a := l) (xs := as2.map V.ref) (fun i G => (∃ us : List V, G D = some (.lst us) ∧ us.length = i) ∧ Same G1 G) ⟨⟨[], upd_same, rfl⟩, same_upd hD⟩ (fun i G _ p => p.2.seq q2) ?_ ?_
    · rintro i v G hi ⟨⟨us, e, lu⟩, s2⟩
      obtain ⟨b, eb, rfl⟩ := ref_at hi
      obtain ⟨vs, e1, hT⟩ := g2 i b eb
      obtain ⟨lt, e2, rfl⟩ := lt_at e1
      have li : i < ls.length := (List.getElem?_eq_some_iff.mp e2).1
      refine ⟨b, _, rfl, sqt_same s2 hT, rfl, _, _, rfl, _, _, rfl, _, _, rfl, rfl, rfl, ?_⟩
      refine ⟨_, rfl, _, rfl, _, rfl, szl (by show 3 ≤ 1000; decide), fun T2 hT2 => ?_⟩
      refine ⟨us, same_upd hT2 _ _ e, small1000 (by omega), ⟨us ++ [.ref T2], upd_same, by rw [List.length_append, lu]; rfl⟩, same_put hD (s2.trans (same_upd hT2))⟩
    rintro G2 ⟨⟨us, eD, _⟩, s2⟩
    replace x1 := s2 _ _ x1
    replace eT := s2 _ _ eT
    replace eN := s2 _ _ eN
    replace k1 := k1.trans (Keep.of s2)
    clear s2 hD q2 g2 la2
    refine ⟨D, us, rfl, .inl ⟨SqL.of eD, fun p2 hp => ⟨_, rfl, x, CFrame K, dx, _, rfl, (upd_ne (ne_of_none x1 hp)).trans x1, Y.cFrame, Y.nFrameLetters, (by show 1 < 1000; decide), ?_⟩⟩⟩
    have kk : Keep x G2 (upd (upd G2 p2 (.tup us)) x (.ins (CFrame K) dx [("_sorts", .ref p), ("_letters", .ref p2)])) := (Keep.of (same_upd hp)).trans .put
    replace eT := kk.one ⟨_, x1, rfl⟩ eT rfl
    replace k1 := k1.trans kk
    replace x1 : upd (upd G2 p2 (.tup us)) x (.ins (CFrame K) dx [("_sorts", .ref p), ("_letters", .ref p2)]) x = some (.ins (CFrame K) dx [("_sorts", .ref p), ("_letters", .ref p2)]) := upd_same
    obtain ⟨G3, e1⟩ : ∃ Z, Z = upd (upd G2 p2 (.tup us)) x (.ins (CFrame K) dx [("_sorts", .ref p), ("_letters", .ref p2)]) := ⟨_, rfl⟩
    change tSeq _ _ _ _ (upd (upd G2 p2 (.tup us)) x (.ins (CFrame K) dx [("_sorts", .ref p), ("_letters", .ref p2)]))
    rw [← e1] at eT k1 x1 ⊢
    clear kk e1 hp
    refine ⟨_, rfl, T, _, rfl, .inl ⟨SqL.of eT, fun p3 hp => ⟨_, rfl, x, CFrame K, dx, _, rfl, (upd_ne (ne_of_none x1 hp)).trans x1, Y.cFrame, Y.nFrameTotals, (by show 2 < 1000; decide), ?_⟩⟩⟩
    refine ⟨_, rfl, _, rfl, x, CFrame K, dx, _, rfl, upd_same, Y.cFrame, Y.nFrameEnds, (by show 3 < 1000; decide), ?_⟩
    exact k _ ((k1.trans ((Keep.of (same_upd hp)).trans .put)).trans .put)
end
end K22

namespace K22
open PySem PySem.Spec PyProof.Rows L2 Ow
def hid (d c : Addr) (H : Hp) : Hp := fun b => if b = d ∨ b = c then none else H b
theorem hid_pick {d c : Addr} {H H' : Hp} (k : ∀ b, b ≠ d → b ≠ c → H' b = H b) : hid d c H' = hid d c H := by
  funext b
  unfold hid
  by_cases h : b = d ∨ b = c
  · rw [if_pos h, if_pos h]
  · rw [if_neg h, if_neg h, k b (fun z => h (.inl z)) fun z => h (.inr z)]
theorem hid_at {d c b : Addr} {H : Hp} (h1 : b ≠ d) (h2 : b ≠ c) : hid d c H b = H b := if_neg fun h => h.elim h1 h2
theorem hid_same {d c : Addr} {H H' : Hp} (s : Same H H') : Same (hid d c H) (hid d c H') := fun b o e => by
  unfold hid at e ⊢
  by_cases h : b = d ∨ b = c
  · rw [if_pos h] at e; cases e
  · rw [if_neg h] at e ⊢; exact s b o e
theorem hid_sub {d c : Addr} {H : Hp} : Same (hid d c H) H := fun b o e => by
  unfold hid at e
  by_cases h : b = d ∨ b = c
  · rw [if_pos h] at e; cases e
  · rw [if_neg h] at e; exact e
theorem src_same {d c : Addr} {H H' : Hp} (s : Same H H') (h : SrcAt H d c) : SrcAt H' d c := let ⟨xs, l, m, t, h1, h2, h3⟩ := h; ⟨xs, l, m, t, s _ _ h1, h2, s _ _ h3⟩
theorem src_ne {d c b : Addr} {H : Hp} (h : SrcAt H d c) (n : H b = none) : b ≠ d ∧ b ≠ c := let ⟨_, _, _, _, h1, _, h3⟩ := h; ⟨(ne_of_none h3 n).symm, (ne_of_none h1 n).symm⟩

theorem src_put {d c L : Addr} {H : Hp} {o : HO} (n1 : L ≠ d) (n2 : L ≠ c) (h : SrcAt H d c) : SrcAt (upd H L o) d c := by
  obtain ⟨xs, l, m, t, h1, h2, h3⟩ := h
  exact ⟨xs, l, m, t, (upd_ne n2.symm).trans h1, h2, (upd_ne n1.symm).trans h3⟩
theorem hid_put {d c L : Addr} {H G : Hp} {o : HO} (hL : H L = none) (s : Same (hid d c H) (hid d c G)) : Same (hid d c H) (hid d c (upd G L o)) := fun b u e => by
  have nb : b ≠ L := ne_of_none (hid_sub b u e) hL
  have z := s b u e
  unfold hid at z ⊢
  by_cases q : b = d ∨ b = c
  · rw [if_pos q] at z
    cases z
  · rw [if_neg q] at z ⊢
    exact (upd_ne nb).trans z
/-! ### names -/
def tail2 (v : Nat) : Str := Txt.slice (toString (100 + (v : Int))) (some 1) none
def nameOf (c v : Nat) : Str := (⟨#[c]⟩ : Str) ++ tail2 v
def okT (v : Nat) : Bool := decide ((tail2 v).cps.size = 2) && (tail2 v).cps.toList.all fun c => decide (c ∈ SG.cps.toList)
def val2 (t : Str) : Nat := (t.cps.getD 0 0 - 48) * 10 + (t.cps.getD 1 0 - 48)
theorem tails : ((List.range 100).all fun v => okT v && decide (val2 (tail2 v) = v)) = true := by decide +kernel
theorem tlens : ((List.range 100).all fun v => decide ((PySem.Str.ofString (toString (100 + (v : Int)))).length ≤ 10)) = true := by decide +kernel
theorem tailz : ((List.range 100).all fun v => decide ((tail2 v).cps.toList ≠ [122, 122])) = true := by decide +kernel
theorem lt_sg : ∀ c ∈ LT.cps.toList, c ∈ SG.cps.toList := by decide +kernel
theorem tail_ok {v : Nat} (h : v < 100) : (tail2 v).cps.size = 2 ∧ (∀ c ∈ (tail2 v).cps.toList, c ∈ SG.cps.toList) ∧ val2 (tail2 v) = v := by
  have z := List.all_eq_true.mp tails v (List.mem_range.mpr h)
  obtain ⟨z1, z2⟩ := an z
  obtain ⟨z3, z4⟩ := an z1
  exact ⟨of_decide_eq_true z3, fun c hc => of_decide_eq_true (List.all_eq_true.mp z4 c hc), of_decide_eq_true z2⟩
theorem name_cps (c v : Nat) : (nameOf c v).cps = #[c] ++ (tail2 v).cps := rfl
theorem name_wd {c v : Nat} (hc : c ∈ LT.cps.toList) (hv : v < 100) : Wd (nameOf c v) := by
  obtain ⟨t1, t2, _⟩ := tail_ok hv
  have sz : (nameOf c v).cps.size = 3 := by rw [name_cps, Array.size_append, t1]; rfl
  refine ⟨by show 1 ≤ (nameOf c v).cps.size; omega, by show (nameOf c v).cps.size ≤ 12; omega, fun x hx => ?_, fun i x hx => ?_, fun e => ?_⟩
  · rw [name_cps, Array.getElem?_append_left (by show 0 < 1; decide)] at hx
    have e : c = x := by simpa using hx
    rw [← e]
    exact hc
  · rw [name_cps] at hx
    by_cases l : i < 1
    · have i0 : i = 0 := by omega
      subst i0
      rw [Array.getElem?_append_left (by show 0 < 1; decide)] at hx
      have e : c = x := by simpa using hx
      rw [← e]
      exact lt_sg c hc
    · rw [Array.getElem?_append_right (by show 1 ≤ i; omega)] at hx
      exact t2 x (by rw [← Array.getElem?_toList] at hx; exact List.mem_of_getElem? hx)
  · have e1 := congrArg (fun z : Str => z.cps.toList) e
    simp only [name_cps, Array.toList_append] at e1
    have e2 : (tail2 v).cps.toList = [122, 122] := (List.cons.inj (show c :: (tail2 v).cps.toList = 122 :: [122, 122] from e1)).2
    exact of_decide_eq_true (List.all_eq_true.mp tailz v (List.mem_range.mpr hv)) e2
theorem name_inj {c c' v v' : Nat} (hv : v < 100) (hv' : v' < 100) (h : nameOf c v = nameOf c' v') : v = v' := by
  have e := congrArg (fun z : Str => z.cps.toList) h
  simp only [name_cps, Array.toList_append] at e
  have e2 : (tail2 v).cps.toList = (tail2 v').cps.toList := (List.cons.inj e).2
  have e3 : tail2 v = tail2 v' := by
    cases h1 : tail2 v with
    | mk a =>
      cases h2 : tail2 v' with
      | mk b =>
        rw [h1, h2] at e2
        exact congrArg Str.mk (Array.toList_inj.mp e2)
  rw [← (tail_ok hv).2.2, ← (tail_ok hv').2.2, e3]
abbrev NNm : List Str := ["_law_source_here", "_law_many", "_law_shift", "_law_names_here", "_law_k", "_law_letter"]
theorem scNm : FnScope NNm ["_law_source_here", "_law_many"] (defScope sLawNames) := ⟨rfl, rfl, rfl, by decide +kernel, rfl, by decide +kernel, by decide +kernel⟩
def spNm (K : PySem.W.Frag) : Sp := fun vs H Q _ => ∃ (d c : Addr) (n : Nat), vs = [.ref d, .int (n : Int)] ∧ SrcAt H d c ∧ n ≤ 16 ∧
  ∀ (l : Addr) (ns : List Str) (H' : Hp), SrcAt H' d c → Same (hid d c H) (hid d c H') → NL ns → ns.length = n → SqL K (hid d c H') l (ns.map V.str) → Q (.ref l) H'
section
variable {P : Program} {w : World} {K : PySem.W.Frag} {mg : Str → Option Value} {base : Heap} {f : Addr} {fd : FuncData}
theorem ok_nm (F : FnP K "_law_names" sLawNames f fd) (Y : Fx w K mg) : FnOk P w K mg base CX0 2 f fd ["_law_source_here", "_law_many"] (spNm K) := by
  obtain ⟨d1, F1⟩ := Y.dLawPick
  have b1 := FunD.bindsN (ps := ["_law_source_here", "_law_many"]) F1 fun _ _ _ _ _ _ us hl => match us, hl with | [_, _], _ => rfl
  have G1 : FnOk P w K mg base CX0 1 _ d1 ["_law_source_here", "_law_many"] spPick := ok_pick F1 Y.bl
  refine okD F scNm (fun vs H Q E h => ?_) (fun cdv A outer s H vs Q E hr h => ?_)
  · obtain ⟨d, c, n, rfl, _⟩ := h
    rfl
  · have nd := scNm.nd
    have B := Y.bl
    refine ⟨_, pss_cons (ps_set (i := 2) nd rfl (Or.inl rfl) (pe_call G1 hr (by rfl) Y.gLawPick F1.kp b1 .nil pass0 (pa_cons (pv 0) (pa_cons pe_int pa_nil))))
      (pss_cons (ps_set (i := 3) nd rfl (Or.inl rfl) (pe_lst pa_nil))
      (pss_cons (ps_for PassesOwn.never rfl (pi_range1 (by rfl) B.range (pa_cons (pv 1) pa_nil)) (pg_name (i := 4) nd rfl (Or.inl rfl))
        (pss_cons (ps_set (i := 5) nd rfl (Or.inl rfl) (pe_ix ix_str pe_str (pe_call G1 hr (by rfl) Y.gLawPick F1.kp b1 .nil pass0 (pa_cons (pv 0) (pa_cons pe_int pa_nil))) (fun _ _ => rfl)))
        (pss_one (ps_expr (pe_bm PySem.F.plainAttrs_list PySem.F.slot_list_append PySem.F.type_list_append mt_append (pv 3) (pa_cons (pe_op op_add_str (pv 5)
          (pe_slice C8.sl_txt (pe_callTy call_str_int (by rfl) B.str (by decide +kernel) (pa_cons (pe_op op_add pe_int (pe_op op_mod (pe_callTy call_int1 (by rfl) B.int boot_int (pa_cons (pe_op op_add (pv 2) (pe_op op_mul pe_int (pv 4))) pa_nil)) pe_int)) pa_nil)) (po_some pe_int) po_none)) pa_nil))))))
      (pss_one (ps_ret (pv 3))))), ?_⟩
    obtain ⟨d, c, n, rfl, src, hn, k⟩ := h
    refine ⟨_, rfl, d, c, 100, rfl, src, by decide, by decide, fun r H1 r0 r1 src1 keep1 => ?_⟩
    obtain ⟨sh, rfl⟩ : ∃ sh : Nat, r = (sh : Int) := ⟨r.toNat, by omega⟩
    refine ⟨szl (by show 0 ≤ 1000; decide), fun L hL => ?_⟩
    obtain ⟨n1, n2⟩ := src_ne src1 hL
    refine ⟨_, rfl, _, rfl, by omega, by omega, ?_⟩
    have s1 : hid d c H1 = hid d c H := hid_pick keep1
    have src2 := src_same (same_upd (o := .lst []) hL) src1
    have sm2 : Same (hid d c H) (hid d c (upd H1 L (.lst []))) := by rw [← s1]; exact hid_same (same_upd hL)
    rw [Int.toNat_natCast]
    refine for_range (lo := 0) (n := n) (fun i σ G => (∃ v4 v5, σ = [some (.ref d), some (.int (n : Int)), some (.int (sh : Int)), some (.ref L), v4, v5]) ∧ SrcAt G d c ∧ Same (hid d c H) (hid d c G) ∧
      ∃ ns : List Str, G L = some (.lst (ns.map V.str)) ∧ ns.length = i ∧ ∀ j x, ns[j]? = some x → ∃ l ∈ LT.cps.toList, x = nameOf l ((sh + 37 * j) % 100)) ⟨⟨_, _, rfl⟩, src2, sm2, [], upd_same, rfl, fun j x e => by simp at e⟩ ?_ ?_
    · rintro i σ G hi ⟨⟨v4, v5, rfl⟩, src, sm, ns, e1, ln, hns⟩
      refine ⟨_, rfl, d, c, 26, rfl, src, by decide, by decide, fun r H2 r0 r1 src3 keep3 => ?_⟩
      obtain ⟨q, rfl⟩ : ∃ q : Nat, r = (q : Int) := ⟨r.toNat, by omega⟩
      have q26 : q < LT.cps.toList.length := by show q < 26; omega
      have e2 : H2 L = some (.lst (ns.map V.str)) := (keep3 L n1 n2).trans e1
      refine ⟨_, _, LT.cps.toList[q], rfl, rfl, by decide, atI_nat (List.getElem?_eq_getElem q26), ?_⟩
      refine ⟨_, rfl, .inl ⟨rfl, _, SqL.of e2⟩, ?_⟩
      have v1 : (sh + 37 * i) % 100 < 100 := Nat.mod_lt _ (by decide)
      have ev : (100 : Int) + ((sh : Int) + 37 * (0 + (i : Int))) % 100 = 100 + (((sh + 37 * i) % 100 : Nat) : Int) := by omega
      have t1 : ((100 : Int) + ((sh : Int) + 37 * (0 + (i : Int))) % 100).natAbs.log2 < 1920 := by
        rw [ev, Nat.log2_lt (by omega)]
        exact Nat.lt_of_lt_of_le (show (100 + (((sh + 37 * i) % 100 : Nat) : Int)).natAbs < 256 by omega) (by decide)
      have t2 : (PySem.Str.ofString (toString ((100 : Int) + ((sh : Int) + 37 * (0 + (i : Int))) % 100))).length ≤ sizeLine := by
        rw [ev]
        exact Nat.le_trans (of_decide_eq_true (List.all_eq_true.mp tlens _ (List.mem_range.mpr v1))) (by decide)
      have t3 : Txt.slice (PySem.Str.ofString (toString ((100 : Int) + ((sh : Int) + 37 * (0 + (i : Int))) % 100))) (some 1) none = tail2 ((sh + 37 * i) % 100) := by
        rw [ev]
        rfl
      have t4 : (⟨#[LT.cps.toList[q]]⟩ : Str).length + (Txt.slice (PySem.Str.ofString (toString ((100 : Int) + ((sh : Int) + 37 * (0 + (i : Int))) % 100))) (some 1) none).length ≤ sizeLine := by
        rw [t3]
        show 1 + (tail2 ((sh + 37 * i) % 100)).cps.size ≤ sizeLine
        rw [(tail_ok v1).1]
        decide
      refine ⟨_, rfl, _, rfl, _, rfl, _, _, rfl, rfl, .inl ⟨by decide, by decide⟩, _, _, rfl, rfl, .inl ⟨_, rfl, _, _, rfl, rfl, (show (0 : Int) < 100 by decide), _, _, rfl, rfl, _, rfl, t1, 1, rfl, _, rfl, t2, _, _, rfl, rfl, t4, ?_⟩⟩
      refine ⟨L, _, _, rfl, rfl, e2, ?_, ⟨_, _, rfl⟩, ?_, ?_, ns ++ [nameOf LT.cps.toList[q] ((sh + 37 * i) % 100)], ?_, by rw [List.length_append, ln]; rfl, fun j x ex => ?_⟩
      · rw [List.length_map, ln]
        exact small1000 (by omega)
      · exact src_put n1 n2 src3
      · exact hid_put ((keep1 L n1 n2).symm.trans hL) (by rw [hid_pick keep3]; exact sm)
      · rw [upd_same, List.map_append, t3]
        rfl
      · by_cases lt : j < ns.length
        · rw [List.getElem?_append_left lt] at ex
          exact hns j x ex
        · rw [List.getElem?_append_right (by omega)] at ex
          have j0 : j - ns.length = 0 := by
            cases z : j - ns.length with
            | zero => rfl
            | succ m => rw [z] at ex; cases ex
          rw [j0] at ex
          have jj : j = i := by omega
          subst jj
          exact ⟨_, List.getElem_mem _, (Option.some.inj ex).symm⟩
    · rintro σ G ⟨⟨v4, v5, rfl⟩, src, sm, ns, e1, ln, hns⟩
      refine ⟨_, rfl, k L ns G src sm ⟨?_, fun x hx => ?_, by omega⟩ ln (SqL.of ((hid_at n1 n2).trans e1))⟩
      · refine List.pairwise_iff_getElem.mpr fun i j li lj lt e => ?_
        obtain ⟨l1, _, x1⟩ := hns i _ (List.getElem?_eq_getElem li)
        obtain ⟨l2, _, x2⟩ := hns j _ (List.getElem?_eq_getElem lj)
        rw [x1, x2] at e
        have z := name_inj (Nat.mod_lt _ (by decide)) (Nat.mod_lt _ (by decide)) e
        omega
      · obtain ⟨i, li, rfl⟩ := List.getElem_of_mem hx
        obtain ⟨l, hl, e⟩ := hns i _ (List.getElem?_eq_getElem li)
        rw [e]
        exact name_wd hl (Nat.mod_lt _ (by decide))
end
end K22

namespace K22
open PySem PySem.Spec PyProof.Rows L2 Ow
/-! ### the drawn frame -/
theorem sqt_put {K : PySem.W.Frag} {H : Hp} {D t : Addr} {xs l : List V} {o : HO} (e : H D = some (.lst l)) (h : SqT K H t xs) : SqT K (upd H D o) t xs := by
  have one : ∀ {u : HO}, H t = some u → (∀ l, u ≠ .lst l) → upd H D o t = some u := fun {u} z n => (upd_ne (fun q => by
    subst q
    rw [e] at z
    cases z
    exact n l rfl)).trans z
  exact h.elim (fun h => .inl (h.elim (fun h => .inl (one h fun _ z => nomatch z)) fun ⟨o, h⟩ => .inr ⟨o, one h fun _ z => nomatch z⟩)) fun h => .inr h
theorem sqt_putD {K : PySem.W.Frag} {H : Hp} {D t : Addr} {xs : List V} {l : List (Key × V)} {o : HO} (e : H D = some (.dK l)) (h : SqT K H t xs) : SqT K (upd H D o) t xs := by
  have one : ∀ {u : HO}, H t = some u → (∀ l, u ≠ .dK l) → upd H D o t = some u := fun {u} z n => (upd_ne (fun q => by
    subst q
    rw [e] at z
    cases z
    exact n l rfl)).trans z
  exact h.elim (fun h => .inl (h.elim (fun h => .inl (one h fun _ z => nomatch z)) fun ⟨o, h⟩ => .inr ⟨o, one h fun _ z => nomatch z⟩)) fun h => .inr h
theorem hid_upd {d c L : Addr} {G : Hp} {o : HO} (n1 : L ≠ d) (n2 : L ≠ c) : hid d c (upd G L o) = upd (hid d c G) L o := by
  funext b
  by_cases e : b = L
  · subst e
    rw [hid_at n1 n2, upd_same, upd_same]
  · rw [upd_ne e]
    unfold hid
    rw [upd_ne e]
/-- these are tuples of these -/
def AllT (K : PySem.W.Frag) (H : Hp) (us : List Addr) (vss : List (List V)) : Prop := us.length = vss.length ∧ ∀ (i : Nat) (t : Addr), us[i]? = some t → ∃ vs, vss[i]? = some vs ∧ SqT K H t vs
theorem AllT.same {K : PySem.W.Frag} {H H' : Hp} {us : List Addr} {vss : List (List V)} (s : Same H H') (h : AllT K H us vss) : AllT K H' us vss := ⟨h.1, fun i t e => let ⟨vs, a, b⟩ := h.2 i t e; ⟨vs, a, sqt_same s b⟩⟩
theorem AllT.put {K : PySem.W.Frag} {H : Hp} {D : Addr} {l : List V} {o : HO} {us : List Addr} {vss : List (List V)} (e : H D = some (.lst l)) (h : AllT K H us vss) : AllT K (upd H D o) us vss := ⟨h.1, fun i t z => let ⟨vs, a, b⟩ := h.2 i t z; ⟨vs, a, sqt_put e b⟩⟩
theorem AllT.putD {K : PySem.W.Frag} {H : Hp} {D : Addr} {l : List (Key × V)} {o : HO} {us : List Addr} {vss : List (List V)} (e : H D = some (.dK l)) (h : AllT K H us vss) : AllT K (upd H D o) us vss := ⟨h.1, fun i t z => let ⟨vs, a, b⟩ := h.2 i t z; ⟨vs, a, sqt_putD e b⟩⟩
theorem AllT.snoc {K : PySem.W.Frag} {H : Hp} {us : List Addr} {vss : List (List V)} {u : Addr} {vs : List V} (h : AllT K H us vss) (g : SqT K H u vs) : AllT K H (us ++ [u]) (vss ++ [vs]) := by
  refine ⟨by rw [List.length_append, List.length_append, h.1]; rfl, fun i t e => ?_⟩
  by_cases lt : i < us.length
  · rw [List.getElem?_append_left lt] at e
    obtain ⟨ws, a, b⟩ := h.2 i t e
    exact ⟨ws, by rw [List.getElem?_append_left (by rw [← h.1]; exact lt)]; exact a, b⟩
  · rw [List.getElem?_append_right (by omega)] at e
    have j0 : i - us.length = 0 := by
      cases z : i - us.length with
      | zero => rfl
      | succ m => rw [z] at e; cases e
    rw [j0] at e
    have eu : u = t := by simpa using e
    subst eu
    refine ⟨vs, ?_, g⟩
    rw [List.getElem?_append_right (by rw [← h.1]; omega), ← h.1, j0]
    rfl
theorem AllT.nil {K : PySem.W.Frag} {H : Hp} : AllT K H [] [] := ⟨rfl, fun i t e => by simp at e⟩
theorem AllT.tups {K : PySem.W.Frag} {H : Hp} {l : Addr} {us : List Addr} {vss : List (List V)} (e : SqL K H l (us.map V.ref)) (h : AllT K H us vss) : TupsAt K H l vss := ⟨us, e, h.1, h.2⟩
def wdB (x : Str) : Bool := decide (x ≠ ("zzz" : Str)) && (decide (1 ≤ x.length) && (decide (x.length ≤ 12) && ((match x.cps[0]? with
  | some c => decide (c ∈ LT.cps.toList)
  | none => true) && x.cps.toList.all fun c => decide (c ∈ SG.cps.toList))))
theorem wd_of {x : Str} (h : wdB x = true) : Wd x := by
  obtain ⟨h0, h⟩ := an h
  obtain ⟨h1, h2⟩ := an h
  obtain ⟨h2, h3⟩ := an h2
  obtain ⟨h3, h4⟩ := an h3
  refine ⟨of_decide_eq_true h1, of_decide_eq_true h2, fun c e => ?_, fun i c e => ?_, of_decide_eq_true h0⟩
  · rw [e] at h3
    exact of_decide_eq_true h3
  · exact of_decide_eq_true (List.all_eq_true.mp h4 c (by rw [← Array.getElem?_toList] at e; exact List.mem_of_getElem? e))
def ABC : List Str := ["a", "b", "c"]
theorem abc_nl : NL ABC := ⟨by decide +kernel, fun x hx => wd_of (List.all_eq_true.mp (show ABC.all wdB = true by decide +kernel) x hx), by decide⟩
theorem NL.sub {xs ys : List Str} (h : NL xs) (s : ys.Sublist xs) : NL ys := ⟨h.nd.sublist s, fun x hx => h.w x (s.subset hx), Nat.le_trans s.length_le h.n⟩
/-- the dict of the letters' ends: each name's tuple -/
def kvL : List Lt → List Addr → List (Key × V)
  | q :: ls, a :: as => (.inr q.1, .ref a) :: kvL ls as
  | _, _ => []
theorem kvL_len : ∀ (ls : List Lt) (as : List Addr), (kvL ls as).length ≤ ls.length
  | [], _ => by simp [kvL]
  | _ :: _, [] => by simp [kvL]
  | q :: ls, a :: as => Nat.succ_le_succ (kvL_len ls as)
theorem kvL_snoc (q : Lt) (a : Addr) : ∀ (ls : List Lt) (as : List Addr), ls.length = as.length → kvL (ls ++ [q]) (as ++ [a]) = kvL ls as ++ [(.inr q.1, .ref a)]
  | [], [], _ => rfl
  | [], _ :: _, h => by simp at h
  | _ :: _, [], h => by simp at h
  | p :: ls, b :: as, h => congrArg (_ :: ·) (kvL_snoc q a ls as (Nat.succ.inj h))
theorem kvL_no {x : Str} : ∀ (ls : List Lt) (as : List Addr), x ∉ ls.map (·.1) → valV (kvL ls as) (.inr x) = none
  | [], _, _ => rfl
  | _ :: _, [], _ => rfl
  | q :: ls, a :: as, h => by
    have h1 : ¬ ((.inr q.1 : Key) = .inr x) := fun z => h (by injection z with z; rw [← z]; exact List.mem_cons_self)
    show valV ((.inr q.1, .ref a) :: kvL ls as) (.inr x) = none
    rw [valV_neg h1]
    exact kvL_no ls as fun z => h (List.mem_cons_of_mem _ z)
theorem kvL_get : ∀ {ls : List Lt} {as : List Addr} {i : Nat} {q : Lt} {a : Addr}, (ls.map (·.1)).Nodup → ls[i]? = some q → as[i]? = some a → valV (kvL ls as) (.inr q.1) = some (.ref a)
  | [], _, _, _, _, _, h, _ => by simp at h
  | _ :: _, [], _, _, _, _, _, h => by simp at h
  | p :: ls, b :: as, 0, q, a, nd, h1, h2 => by
    have e1 : p = q := by simpa using h1
    have e2 : b = a := by simpa using h2
    rw [e1, e2]
    exact valV_pos (p := ((Sum.inr q.1 : Key), V.ref a)) rfl
  | p :: ls, b :: as, i + 1, q, a, nd, h1, h2 => by
    have h1' : ls[i]? = some q := by simpa using h1
    have nd' := List.nodup_cons.mp (show (p.1 :: ls.map (·.1)).Nodup from nd)
    have n1 : ¬ ((.inr p.1 : Key) = .inr q.1) := fun z => nd'.1 (by injection z with z; rw [z]; exact List.mem_map.mpr ⟨q, List.mem_of_getElem? h1', rfl⟩)
    show valV ((.inr p.1, .ref b) :: kvL ls as) (.inr q.1) = _
    rw [valV_neg n1]
    exact kvL_get nd'.2 h1' (by simpa using h2)
theorem cutV_take (xs : List V) (n : Nat) : cutV xs none (some (n : Int)) = xs.take n := by
  unfold cutV
  rw [HT.sIx_none, HT.sIx_nat, List.drop_zero, Nat.sub_zero]
  by_cases h : n ≤ xs.length
  · rw [Nat.min_eq_left h]
  · rw [Nat.min_eq_right (by omega), List.take_length, List.take_of_length_le (by omega)]
theorem str_ix {xs : List Str} {j : Nat} (h : j < xs.length) : atI (xs.map V.str) ((j : Nat) : Int) = some (.str xs[j]) := atI_nat (by rw [List.getElem?_map, List.getElem?_eq_getElem h]; rfl)
theorem none_of {H H' : Hp} {p : Addr} (s : Same H H') (h : H' p = none) : H p = none := by
  cases z : H p with
  | none => rfl
  | some u => exact absurd (s _ _ z) (by rw [h]; intro q; cases q)
def endV (q : Lt) : List V := [.str q.2.1, .str q.2.2]
/-- at m stands the dict of the letters' ends -/
def LdAt (K : PySem.W.Frag) (H : Hp) (m : Addr) (ls : List Lt) : Prop := ∃ as : List Addr, H m = some (.dK (kvL ls as)) ∧ as.length = ls.length ∧ ∀ (i : Nat) (t : Addr), as[i]? = some t → ∃ q, ls[i]? = some q ∧ SqT K H t (endV q)
theorem LdAt.same {K : PySem.W.Frag} {H H' : Hp} {m : Addr} {ls : List Lt} (s : Same H H') (h : LdAt K H m ls) : LdAt K H' m ls := by
  obtain ⟨as, e, l, g⟩ := h
  refine ⟨as, s _ _ e, l, fun i t z => ?_⟩
  obtain ⟨q, e1, e2⟩ := g i t z
  exact ⟨q, e1, sqt_same s e2⟩
theorem LdAt.get {K : PySem.W.Frag} {H : Hp} {m : Addr} {ls : List Lt} (h : LdAt K H m ls) (nd : (ls.map (·.1)).Nodup) {i : Nat} {q : Lt} (hi : ls[i]? = some q) : ∃ t, DGet H m (.str q.1) (some (.ref t)) ∧ SqT K H t (endV q) := by
  obtain ⟨as, e, l, g⟩ := h
  have li := (List.getElem?_eq_some_iff.mp hi).1
  have ea : as[i]? = some as[i] := List.getElem?_eq_getElem (by omega)
  obtain ⟨q', e1, e2⟩ := g i _ ea
  rw [hi] at e1
  cases e1
  refine ⟨as[i], ?_, e2⟩
  have z : DGet H m (kV (.inr q.1)) (valV (kvL ls as) (.inr q.1)) := DGet.k e
  rw [kvL_get nd hi ea] at z
  exact z
def frV (s m o t b : Addr) : List (Key × V) := [(.inr "sorts", .ref s), (.inr "letters", .ref m), (.inr "order", .ref o), (.inr "totals", .ref t), (.inr "made", .ref b)]
/-- at d stands the drawn frame -/
structure FrAt (K : PySem.W.Frag) (H : Hp) (d : Addr) (xs : List Str) (ls : List Lt) : Prop where
  ex : ∃ s m o t b, H d = some (.dK (frV s m o t b)) ∧ H s = some (.lst (xs.map V.str)) ∧ LdAt K H m ls ∧ SqL K H o ((ls.map (·.1)).map V.str)
  ok : FrOk xs ls
theorem FrAt.same {K : PySem.W.Frag} {H H' : Hp} {d : Addr} {xs : List Str} {ls : List Lt} (s : Same H H') (h : FrAt K H d xs ls) : FrAt K H' d xs ls := by
  obtain ⟨⟨a, m, o, t, b, h1, h2, h3, h4⟩, ok⟩ := h
  exact ⟨⟨a, m, o, t, b, s _ _ h1, s _ _ h2, h3.same s, s.seq h4⟩, ok⟩
theorem fr_sorts {H : Hp} {d s m o t b : Addr} (h : H d = some (.dK (frV s m o t b))) : DGet H d (.str "sorts") (some (.ref s)) := by
  have z : DGet H d (kV (.inr "sorts")) (valV (frV s m o t b) (.inr "sorts")) := DGet.k h
  rw [show valV (frV s m o t b) (.inr "sorts") = some (.ref s) from rfl] at z
  exact z
theorem fr_letters {H : Hp} {d s m o t b : Addr} (h : H d = some (.dK (frV s m o t b))) : DGet H d (.str "letters") (some (.ref m)) := by
  have z : DGet H d (kV (.inr "letters")) (valV (frV s m o t b) (.inr "letters")) := DGet.k h
  rw [show valV (frV s m o t b) (.inr "letters") = some (.ref m) from rfl] at z
  exact z
theorem fr_order {H : Hp} {d s m o t b : Addr} (h : H d = some (.dK (frV s m o t b))) : DGet H d (.str "order") (some (.ref o)) := by
  have z : DGet H d (kV (.inr "order")) (valV (frV s m o t b) (.inr "order")) := DGet.k h
  rw [show valV (frV s m o t b) (.inr "order") = some (.ref o) from rfl] at z
  exact z
abbrev NFd : List Str := ["_law_every", "_law_order", "_law_letters", "_law_totals", "_law_built", "_law_name"]
theorem scFd : FnScope NFd ["_law_every", "_law_order", "_law_letters", "_law_totals"] (defScope sLawFramed) := ⟨rfl, rfl, rfl, by decide +kernel, rfl, by decide +kernel, by decide +kernel⟩
def spFd (K : PySem.W.Frag) : Sp := fun vs H Q _ => ∃ (s o m t : Addr) (xs : List Str) (ls : List Lt), vs = [.ref s, .ref o, .ref m, .ref t] ∧ H s = some (.lst (xs.map V.str)) ∧ SqL K H o ((ls.map (·.1)).map V.str) ∧ LdAt K H m ls ∧ SqL K H t [] ∧ FrOk xs ls ∧
  ∀ d b H', H d = none → Same H H' → H' d = some (.dK (frV s m o t b)) → Q (.ref d) H'
section
variable {P : Program} {w : World} {K : PySem.W.Frag} {mg : Str → Option Value} {base : Heap} {f : Addr} {fd : FuncData}
theorem same_new {H H2 : Hp} {x dx : Addr} {u v : HO} (hx : H x = none) (hd : H dx = none) (k : Keep x (upd (upd H dx v) x u) H2) : Same H H2 := fun b o e => k b o (ne_of_none e hx) (by rw [upd_ne (ne_of_none e hx), upd_ne (ne_of_none e hd)]; exact e)
/-- what Frame(s, l, t) asks and tells -/
theorem mk_fr {H : Hp} {s l t : Addr} {xs : List Str} {ls : List Lt} {Q : Addr → Hp → Prop} (hs : SqL K H s (xs.map V.str)) (hl : TupsAt K H l (ls.map ltV)) (ht : SqL K H t []) (ok : FrOk xs ls) (k : ∀ b H', Same H H' → Q b H') :
    ∀ x dx, H x = none → H dx = none → dx ≠ x → spFI K (.ref x :: ([.ref s, .ref l, .ref t] ++ [])) (upd (upd H dx (.own x)) x (.ins (CFrame K) dx [])) (fun v H2 => v = .non ∧ Q x H2) E0 := fun x dx hx hd nd => by
  have s0 : Same H (upd (upd H dx (.own x)) x (.ins (CFrame K) dx [])) := same_new hx hd .refl
  exact ⟨x, s, l, t, dx, xs, ls, rfl, upd_same, s0.seq hs, hl.same s0, s0.seq ht, ok, fun H' kk => ⟨rfl, k x H' (same_new hx hd kk)⟩⟩
theorem ok_fd (F : FnP K "_law_framed" sLawFramed f fd) (Y : Fx w K mg) : FnOk P w K mg base CX0 5 f fd ["_law_every", "_law_order", "_law_letters", "_law_totals"] (spFd K) := by
  obtain ⟨d2, F2⟩ := Y.dFrame_Init
  have b2 := FunD.bindsN (ps := ["self", "sorts", "letters", "totals"]) F2 fun _ _ _ _ _ _ us hl => match us, hl with | [_, _, _, _], _ => rfl
  have G2 : FnOk P w K mg base CX0 3 _ d2 ["self", "sorts", "letters", "totals"] (spFI K) := ok_fi F2 Y
  refine okD F scFd (fun vs H Q E h => ?_) (fun cdv A outer s H vs Q E hr h => ?_)
  · obtain ⟨s, o, m, t, xs, ls, rfl, _⟩ := h
    rfl
  · have nd := scFd.nd
    have hu := hu_of hr
    refine ⟨_, pss_cons (ps_set (i := 4) nd rfl (Or.inl rfl) (pe_make Y.mFrame G2 hr (by rfl) Y.gFrame b2 .nil pass0 (pa_cons (pv 0) (pa_cons
        (pe_lc (own := [("_law_name", 5)]) (g := gName 5) (tt := tYes) (te := tTup (tCons (tVar 5) (tCons (tOp (rIxT K) (tDGet (tVar 2) (tVar 5)) (tC (.int 0))) (tCons (tOp (rIxT K) (tDGet (tVar 2) (tVar 5)) (tC (.int 1))) tNil)))) rfl nd (pi_list (pv 1)) (blkOk_by (N := NFd) (sc := defScope sLawFramed) (by decide +kernel)) (fun _ _ _ _ _ => pg_name (i := 5) nd rfl (Or.inl rfl)) (fun _ _ _ _ _ => pts_nil)
          (fun _ _ _ _ _ => pe_tup (pa_cons (pv 5) (pa_cons (pe_ix ix_tup (pe_dget hu (pv 2) (pv 5) nosl) pe_int (fun _ _ => rfl)) (pa_cons (pe_ix ix_tup (pe_dget hu (pv 2) (pv 5) nosl) pe_int (fun _ _ => rfl)) pa_nil))))) (pa_cons (pv 3) pa_nil)))))
      (pss_one (ps_ret (pe_disp (pps_cons pe_str (pv 0) (pps_cons pe_str (pv 2) (pps_cons pe_str (pv 1) (pps_cons pe_str (pv 3) (pps_cons pe_str (pv 4) pps_nil))))) rfl rfl (by simp) (by decide)))), ?_⟩
    obtain ⟨s, o, m, t, xs, ls, rfl, hs, ho, hm, ht, ok, k⟩ := h
    refine ⟨_, rfl, _, rfl, o, rfl, ⟨_, ho⟩, fun D hD => ?_⟩
    refine lc_list (K := K) (a := o) (xs := (ls.map (·.1)).map V.str) (fun i G => ∃ us : List Addr, G D = some (.lst (us.map V.ref)) ∧ AllT K G us ((ls.take i).map ltV) ∧ Same H G) ⟨[], upd_same, AllT.nil, same_upd hD⟩ (fun i G _ p => by obtain ⟨us, _, _, p⟩ := p; exact p.seq ho) ?_ ?_
    · rintro i v G hi ⟨us, e, hA, sm⟩
      obtain ⟨x, ex, rfl⟩ := str_at hi
      obtain ⟨q, eq, rfl⟩ : ∃ q, ls[i]? = some q ∧ x = q.1 := by
        rw [List.getElem?_map] at ex
        cases z : ls[i]? with
        | none => rw [z] at ex; cases ex
        | some q => rw [z] at ex; exact ⟨q, rfl, (Option.some.inj ex).symm⟩
      obtain ⟨tt, dg, st⟩ := (hm.same sm).get ok.nl.nd eq
      have li := (List.getElem?_eq_some_iff.mp eq).1
      have n16 := ok.nl.n
      rw [List.length_map] at n16
      refine ⟨rfl, _, rfl, ?_⟩
      refine ⟨_, rfl, _, rfl, m, .ref tt, rfl, dg, tt, _, 0, _, rfl, rfl, st, rfl, ?_⟩
      refine ⟨_, rfl, _, rfl, m, .ref tt, rfl, dg, tt, _, 1, _, rfl, rfl, st, rfl, ?_⟩
      refine ⟨szl (by show 3 ≤ 1000; decide), fun T hT => ?_⟩
      have e2 := same_upd (o := .tup [V.str q.1, V.str q.2.1, V.str q.2.2]) hT _ _ e
      refine ⟨_, e2, ?_, us ++ [T], ?_, ?_, same_put hD (sm.trans (same_upd hT))⟩
      · have z := hA.1
        rw [List.length_map, List.length_take] at z
        rw [List.length_map]
        exact small1000 (by omega)
      · rw [upd_same, List.map_append]
        rfl
      · rw [List.take_add_one, eq, List.map_append]
        exact ((hA.same (same_upd hT)).snoc (SqT.of upd_same)).put e2
    rintro G ⟨us, e, hA, sm⟩
    rw [List.length_map, List.length_map, List.take_length] at hA
    refine ⟨_, rfl, ?_⟩
    refine mk_fr (sm.seq (SqL.of hs)) (hA.tups (SqL.of e)) (sm.seq ht) ok fun b H1 s1 => ?_
    replace s1 := sm.trans s1
    intro p hp
    refine ⟨_, rfl, _, rfl, _, rfl, _, rfl, _, rfl, upd_same, frV s m o t b, rfl, (show 5 ≤ 15 by decide), ?_⟩
    rw [show mergeK [] (frV s m o t b) = frV s m o t b from rfl, upd_upd]
    have s2 := s1.trans (same_upd (o := .dK (frV s m o t b)) hp)
    have hp0 : H p = none := by
      cases z : H p with
      | none => rfl
      | some u => exact absurd (s1 _ _ z) (by rw [hp]; intro q; cases q)
    exact k p b _ hp0 s2 upd_same
abbrev NFr : List Str := ["_law_source_here", "_law_sorts", "_law_letters", "_law_every", "_law_order", "_law_found", "_law_name"]
theorem scFr : FnScope NFr ["_law_source_here", "_law_sorts", "_law_letters"] (defScope sLawFrame) := ⟨rfl, rfl, rfl, by decide +kernel, rfl, by decide +kernel, by decide +kernel⟩
def spFr (K : PySem.W.Frag) : Sp := fun vs H Q _ => ∃ (d c : Addr) (n m : Nat), vs = [.ref d, .int (n : Int), .int (m : Int)] ∧ SrcAt H d c ∧ 1 ≤ n ∧ n ≤ 3 ∧ 1 ≤ m ∧ m ≤ 4 ∧
  ∀ (e : Addr) (xs : List Str) (ls : List Lt) (H' : Hp), SrcAt H' d c → Same (hid d c H) (hid d c H') → FrAt K (hid d c H') e xs ls → xs = ABC.take n → ls.length = m → Q (.ref e) H'
theorem ok_fr (F : FnP K "_law_frame" sLawFrame f fd) (Y : Fx w K mg) : FnOk P w K mg base CX0 6 f fd ["_law_source_here", "_law_sorts", "_law_letters"] (spFr K) := by
  obtain ⟨d1, F1⟩ := Y.dLawPick
  obtain ⟨d2, F2⟩ := Y.dLawNames
  obtain ⟨d3, F3⟩ := Y.dLawFramed
  have b1 := FunD.bindsN (ps := ["_law_source_here", "_law_many"]) F1 fun _ _ _ _ _ _ us hl => match us, hl with | [_, _], _ => rfl
  have b2 := FunD.bindsN (ps := ["_law_source_here", "_law_many"]) F2 fun _ _ _ _ _ _ us hl => match us, hl with | [_, _], _ => rfl
  have b3 := FunD.bindsN (ps := ["_law_every", "_law_order", "_law_letters", "_law_totals"]) F3 fun _ _ _ _ _ _ us hl => match us, hl with | [_, _, _, _], _ => rfl
  have G1 : FnOk P w K mg base CX0 1 _ d1 ["_law_source_here", "_law_many"] spPick := ok_pick F1 Y.bl
  have G2 : FnOk P w K mg base CX0 2 _ d2 ["_law_source_here", "_law_many"] (spNm K) := ok_nm F2 Y
  have G3 : FnOk P w K mg base CX0 5 _ d3 ["_law_every", "_law_order", "_law_letters", "_law_totals"] (spFd K) := ok_fd F3 Y
  refine okD F scFr (fun vs H Q E h => ?_) (fun cdv A outer s H vs Q E hr h => ?_)
  · obtain ⟨d, c, n, m, rfl, _⟩ := h
    rfl
  · have nd := scFr.nd
    have hu := hu_of hr
    have hr1 : Room 1 _ := hr.mono (by decide)
    have hr2 : Room 2 _ := hr.mono (by decide)
    refine ⟨_, pss_cons (ps_set (i := 3) nd rfl (Or.inl rfl) (pe_slice sl_list (pe_lst (pa_cons pe_str (pa_cons pe_str (pa_cons pe_str pa_nil)))) po_none (po_some (pv 1))))
      (pss_cons (ps_set (i := 4) nd rfl (Or.inl rfl) (pe_call G2 hr2 (by rfl) Y.gLawNames F2.kp b2 .nil pass0 (pa_cons (pv 0) (pa_cons (pv 2) pa_nil))))
      (pss_cons (ps_set (i := 5) nd rfl (Or.inl rfl) pe_dnewK)
      (pss_cons (ps_for PassesOwn.never rfl (pi_list (pv 4)) (pg_name (i := 6) nd rfl (Or.inl rfl))
        (pss_one (ps_dput hu (pv 5) (pv 6) (pe_tup (pa_cons (pe_ix ix_list (pv 3) (pe_call G1 hr1 (by rfl) Y.gLawPick F1.kp b1 .nil pass0 (pa_cons (pv 0) (pa_cons (pv 1) pa_nil))) (fun _ _ => rfl)) (pa_cons (pe_ix ix_list (pv 3) (pe_call G1 hr1 (by rfl) Y.gLawPick F1.kp b1 .nil pass0 (pa_cons (pv 0) (pa_cons (pv 1) pa_nil))) (fun _ _ => rfl)) pa_nil))) rfl)))
      (pss_one (ps_ret (pe_call G3 hr (by rfl) Y.gLawFramed F3.kp b3 .nil pass0 (pa_cons (pv 3) (pa_cons (pv 4) (pa_cons (pv 5) (pa_cons (pe_lst pa_nil) pa_nil))))))))))  , ?_⟩
    obtain ⟨d, c, n, m, rfl, src, n1, n3, m1, m4, k⟩ := h
    have lx : (ABC.take n).length = n := by rw [List.length_take]; show min n 3 = n; omega
    obtain ⟨xs, ex⟩ : ∃ xs, xs = ABC.take n := ⟨_, rfl⟩
    rw [← ex] at lx
    have nlx : NL xs := by rw [ex]; exact abc_nl.sub (List.take_sublist _ _)
    refine ⟨szl (by show 3 ≤ 1000; decide), fun l0 hl0 => ⟨_, rfl, _, rfl, l0, _, rfl, SqL.of upd_same, fun s hs => ?_⟩⟩
    rw [show cutV [V.str "a", V.str "b", V.str "c"] none (some (n : Int)) = xs.map V.str by rw [cutV_take, ex, List.map_take]; rfl]
    have s0 := (same_upd (o := .lst [V.str "a", V.str "b", V.str "c"]) hl0).trans (same_upd (o := .lst (xs.map V.str)) hs)
    have src0 := src_same s0 src
    obtain ⟨sd, sc⟩ := src_ne (src_same (same_upd (o := .lst [V.str "a", V.str "b", V.str "c"]) hl0) src) hs
    have e0 : upd (upd H l0 (.lst [V.str "a", V.str "b", V.str "c"])) s (.lst (xs.map V.str)) s = some (.lst (xs.map V.str)) := upd_same
    obtain ⟨G0, eG⟩ : ∃ Z, Z = upd (upd H l0 (.lst [V.str "a", V.str "b", V.str "c"])) s (.lst (xs.map V.str)) := ⟨_, rfl⟩
    change tSeq _ _ _ _ (upd (upd H l0 (.lst [V.str "a", V.str "b", V.str "c"])) s (.lst (xs.map V.str)))
    rw [← eG] at s0 src0 e0 ⊢
    clear eG hl0 hs
    refine ⟨_, rfl, _, rfl, d, c, m, rfl, src0, by omega, fun o ns G1 src1 sm1 hn ln ho => ?_⟩
    have es : hid d c G1 s = some (.lst (xs.map V.str)) := sm1 _ _ ((hid_at sd sc).trans e0)
    have sm : Same (hid d c H) (hid d c G1) := (hid_same s0).trans sm1
    clear sm1 e0 s0 src0
    intro L hL
    obtain ⟨Ld, Lc⟩ := src_ne src1 hL
    refine ⟨_, rfl, o, rfl, ⟨_, (same_upd hL).seq (hid_sub.seq ho)⟩, for_list (K := K) (a := o) (xs := ns.map V.str) (fun i σ G => (∃ v6, σ = [some (.ref d), some (.int (n : Int)), some (.int (m : Int)), some (.ref s), some (.ref o), some (.ref L), v6]) ∧ SrcAt G d c ∧ Same (hid d c G1) (hid d c G) ∧
      ∃ (as : List Addr) (ls : List Lt), ls.map (·.1) = ns.take i ∧ G L = some (.dK (kvL ls as)) ∧ AllT K (hid d c G) as (ls.map endV) ∧ ∀ q ∈ ls, q.2.1 ∈ xs ∧ q.2.2 ∈ xs)
      ⟨⟨_, rfl⟩, src_put Ld Lc src1, hid_put hL (Same.refl _), [], [], rfl, upd_same, AllT.nil, fun q hq => absurd hq List.not_mem_nil⟩ (fun i σ G _ p => hid_sub.seq (p.2.2.1.seq ho)) ?_ ?_⟩
    · rintro i v σ G hi ⟨⟨v6, rfl⟩, src2, sm2, as, ls, en, eL, hA, hin⟩
      obtain ⟨x, ex1, rfl⟩ := str_at hi
      have li := (List.getElem?_eq_some_iff.mp ex1).1
      refine ⟨_, rfl, _, rfl, _, rfl, d, c, n, rfl, src2, by omega, by omega, fun r G2 r0 r1 src3 keep3 => ?_⟩
      obtain ⟨j, rfl⟩ : ∃ j : Nat, r = (j : Int) := ⟨r.toNat, by omega⟩
      have eh : hid d c G2 = hid d c G := hid_pick keep3
      have es2 : G2 s = some (.lst (xs.map V.str)) := hid_sub _ _ (show hid d c G2 s = _ by rw [eh]; exact sm2 _ _ es)
      have eL2 : G2 L = some (.dK (kvL ls as)) := (keep3 L Ld Lc).trans eL
      refine ⟨s, _, _, _, rfl, rfl, SqL.of es2, str_ix (by omega), ?_⟩
      refine ⟨_, rfl, _, rfl, _, rfl, d, c, n, rfl, src3, by omega, by omega, fun r G3 r0 r1 src4 keep4 => ?_⟩
      obtain ⟨j2, rfl⟩ : ∃ j : Nat, r = (j : Int) := ⟨r.toNat, by omega⟩
      have eh3 : hid d c G3 = hid d c G := (hid_pick keep4).trans eh
      have es3 : G3 s = some (.lst (xs.map V.str)) := (keep4 s sd sc).trans es2
      have eL3 : G3 L = some (.dK (kvL ls as)) := (keep4 L Ld Lc).trans eL2
      refine ⟨s, _, _, _, rfl, rfl, SqL.of es3, str_ix (by omega), ?_⟩
      refine ⟨szl (by show 2 ≤ 1000; decide), fun T hT => ?_⟩
      obtain ⟨Td, Tc⟩ := src_ne src4 hT
      have eL4 := same_upd (o := .tup [V.str (xs[j]'(by omega)), V.str (xs[j2]'(by omega))]) hT _ _ eL3
      have ll : ls.length = i := by
        have z := congrArg List.length en
        rw [List.length_map, List.length_take] at z
        omega
      have lk := kvL_len ls as
      have hno : x ∉ ls.map (·.1) := by
        rw [en]
        intro z
        obtain ⟨i2, l2, e2⟩ := List.getElem_of_mem z
        rw [List.length_take] at l2
        have e3 : ns[i2]? = some x := by rw [List.getElem_take] at e2; rw [List.getElem?_eq_getElem (by omega), e2]
        have e4 : ns[i2]'(by omega) = ns[i] := by
          rw [List.getElem?_eq_getElem (by omega)] at e3
          rw [List.getElem?_eq_getElem li] at ex1
          rw [Option.some.inj e3, Option.some.inj ex1]
        exact List.pairwise_iff_getElem.mp hn.nd i2 i (by omega) li (by omega) e4
      refine ⟨_, rfl, _, rfl, L, _, rfl, (show DPut _ L (.str x) _ _ from DPut.k (k := .inr x) eL4 (small1000 (by omega))), ?_⟩
      have hA4 := hA
      rw [← eh3] at hA4
      have sT := hid_same (d := d) (c := c) (same_upd (o := .tup [V.str (xs[j]'(by omega)), V.str (xs[j2]'(by omega))]) hT)
      refine ⟨⟨_, rfl⟩, src_put Ld Lc (src_same (same_upd hT) src4), hid_put hL (by rw [← eh3] at sm2; exact sm2.trans sT), as ++ [T], ls ++ [(x, xs[j]'(by omega), xs[j2]'(by omega))], ?_, ?_, ?_, ?_⟩
      · rw [List.map_append, en, List.take_add_one, ex1]
        rfl
      · rw [upd_same, putK_new _ (kvL_no ls as hno), kvL_snoc _ _ _ _ (by rw [hA.1, List.length_map])]
      · have z := (hA4.same sT).snoc (SqT.of (show hid d c (upd G3 T (.tup [V.str (xs[j]'(by omega)), V.str (xs[j2]'(by omega))])) T = some (.tup (endV (x, xs[j]'(by omega), xs[j2]'(by omega)))) from (hid_at Td Tc).trans upd_same))
        rw [List.map_append]
        rw [hid_upd Ld Lc]
        exact z.putD ((hid_at Ld Lc).trans eL4)
      · intro q hq
        rcases List.mem_append.mp hq with z | z
        · exact hin q z
        · rw [List.mem_singleton.mp z]
          exact ⟨List.getElem_mem _, List.getElem_mem _⟩
    · rintro σ G ⟨⟨v6, rfl⟩, src2, sm2, as, ls, en, eL, hA, hin⟩
      rw [List.length_map, List.take_length] at en
      refine ⟨_, rfl, _, rfl, _, rfl, szl (by show 0 ≤ 1000; decide), fun t ht => ?_⟩
      have st := same_upd (o := .lst []) ht
      obtain ⟨td, tc⟩ := src_ne src2 ht
      have sh := hid_same (d := d) (c := c) st
      have es2 : hid d c G s = some (.lst (xs.map V.str)) := sm2 _ _ es
      have eLh : hid d c G L = some (.dK (kvL ls as)) := (hid_at Ld Lc).trans eL
      have fok : FrOk xs ls := ⟨nlx, by rw [en]; exact hn, hin⟩
      have lal : as.length = ls.length := by rw [hA.1, List.length_map]
      have ld : LdAt K (hid d c (upd G t (.lst []))) L ls := ⟨as, sh _ _ eLh, lal, fun i u e => by
        obtain ⟨vs, a, b⟩ := (hA.same sh).2 i u e
        rw [List.getElem?_map] at a
        cases z : ls[i]? with
        | none => rw [z] at a; cases a
        | some q => rw [z] at a; exact ⟨q, rfl, by rw [← Option.some.inj a] at b; exact b⟩⟩
      have ldG : LdAt K (upd G t (.lst [])) L ls := ld.same hid_sub
      have hoG : SqL K (hid d c (upd G t (.lst []))) o ((ls.map (·.1)).map V.str) := by rw [en]; exact (sm2.trans sh).seq ho
      refine ⟨s, o, L, t, xs, ls, rfl, hid_sub _ _ (sh _ _ es2), hid_sub.seq hoG, ldG, SqL.of upd_same, fok, fun e b H' he s9 ee => ?_⟩
      obtain ⟨ed, ec⟩ := src_ne (src_same st src2) he
      have s9h := hid_same (d := d) (c := c) s9
      refine k e xs ls H' (src_same (st.trans s9) src2) (sm.trans (sm2.trans (sh.trans s9h))) ⟨⟨s, L, o, t, b, (hid_at ed ec).trans ee, s9h _ _ (sh _ _ es2), ld.same s9h, s9h.seq hoG⟩, fok⟩ ex ?_
      have z := congrArg List.length en
      rw [List.length_map] at z
      exact z.trans ln
end
end K22

namespace K22
open PySem PySem.Spec PyProof.Rows L2 Ow
/-! ### the first fault of a frame's lists -/
def firstN {α : Type} (p : Nat → Option α) : Nat → Option α
  | 0 => none
  | n + 1 => match firstN p n with
    | some a => some a
    | none => p n
theorem firstN_more {α : Type} {p : Nat → Option α} {a : α} : ∀ {n m : Nat}, firstN p n = some a → n ≤ m → firstN p m = some a
  | n, 0, h, l => by
    obtain rfl : n = 0 := by omega
    exact h
  | n, m + 1, h, l => by
    by_cases e : n = m + 1
    · rw [← e]
      exact h
    · have z := firstN_more (m := m) h (by omega)
      unfold firstN
      rw [z]
theorem firstN_at {α : Type} {p : Nat → Option α} {a : α} {i n : Nat} (h : firstN p i = none) (e : p i = some a) (l : i < n) : firstN p n = some a :=
  firstN_more (n := i + 1) (by unfold firstN; rw [h]; exact e) l
theorem firstN_step {α : Type} {p : Nat → Option α} {i : Nat} (h : firstN p i = none) (e : p i = none) : firstN p (i + 1) = none := by
  unfold firstN
  rw [h]
  exact e
def firstL {α β : Type} (f : Nat → α → Option β) (xs : List α) : Option β := firstN (fun i => xs[i]?.bind (f i)) xs.length
theorem firstL_none {α β : Type} {f : Nat → α → Option β} {xs : List α} (h : firstN (fun i => xs[i]?.bind (f i)) xs.length = none) : ∀ (i : Nat) (x : α), xs[i]? = some x → f i x = none := by
  have key : ∀ n, n ≤ xs.length → firstN (fun i => xs[i]?.bind (f i)) n = none → ∀ (i : Nat) (x : α), i < n → xs[i]? = some x → f i x = none := by
    intro n
    induction n with
    | zero => intro _ _ i x hi; exact absurd hi (Nat.not_lt_zero i)
    | succ n ih =>
      intro hn h i x hi hx
      unfold firstN at h
      cases e : firstN (fun i => xs[i]?.bind (f i)) n with
      | some a => rw [e] at h; cases h
      | none =>
        rw [e] at h
        by_cases z : i = n
        · subst z
          rw [hx] at h
          exact h
        · exact ih (by omega) e i x (by omega) hx
  intro i x hx
  exact key xs.length (Nat.le_refl _) h i x (List.getElem?_eq_some_iff.mp hx).1 hx
abbrev Tt : Type := Str × Str
def ttV (q : Tt) : List V := [.str q.1, .str q.2]
def badN (xs : List Str) : Option Str := firstL (fun _ x => if isW x = true then none else some x) xs
def again (xs : List Str) : Option Str := firstL (fun i x => if x ∈ xs.take i then some x else none) xs
def badE (xs : List Str) (ls : List Lt) : Option Str := firstL (fun _ q => if q.2.1 ∉ xs then some q.2.1 else if q.2.2 ∉ xs then some q.2.2 else none) ls
def badT (ns : List Str) (ts : List Tt) : Option Str := firstL (fun _ q => if q.1 ∉ ns then some q.1 else none) ts
def badF (ts : List Tt) : Option Str := firstL (fun i q => if (q.2 ≠ ("on" : Str) ∧ q.2 ≠ ("back" : Str)) ∨ q ∈ ts.take i then some q.1 else none) ts
theorem again_nodup {xs : List Str} : again xs = none ↔ xs.Nodup := by
  constructor
  · intro h
    unfold List.Nodup
    rw [List.pairwise_iff_getElem]
    intro i j hi hj hij e
    have hx : xs[j]? = some xs[j] := List.getElem?_eq_getElem hj
    have z := firstL_none h j _ hx
    have m : xs[j] ∈ xs.take j := List.mem_of_getElem? (i := i) (by rw [List.getElem?_take_of_lt hij, List.getElem?_eq_getElem hi, e])
    rw [if_pos m] at z
    cases z
  · intro h
    cases e : again xs with
    | none => rfl
    | some a =>
      exfalso
      have key : ∀ n, firstN (fun i => xs[i]?.bind fun x => if x ∈ xs.take i then some x else none) n = none := by
        intro n
        induction n with
        | zero => rfl
        | succ n ih =>
          refine firstN_step ih ?_
          cases z : xs[n]? with
          | none => rfl
          | some x =>
            show (if x ∈ xs.take n then some x else none) = none
            refine if_neg fun m => ?_
            obtain ⟨i, hi, ei⟩ := List.getElem_of_mem m
            rw [List.length_take] at hi
            rw [List.getElem_take] at ei
            have ln := (List.getElem?_eq_some_iff.mp z)
            obtain ⟨l1, l2⟩ := ln
            have q := (List.pairwise_iff_getElem.mp h) i n (by omega) l1 (by omega)
            exact q (ei.trans l2.symm)
      have z := key xs.length
      unfold again firstL at e
      rw [z] at e
      cases e
/-- cn counts the unlike ones -/
theorem cn_nodup {xs : List Str} : cn xs xs.length < xs.length ↔ again xs ≠ none := by
  have key : ∀ n, n ≤ xs.length → (cn xs n < n ↔ firstN (fun i => xs[i]?.bind fun x => if x ∈ xs.take i then some x else none) n ≠ none) := by
    intro n
    induction n with
    | zero => intro _; exact ⟨fun h => absurd h (Nat.not_lt_zero _), fun h => absurd rfl h⟩
    | succ n ih =>
      intro hn
      have ih2 := ih (by omega)
      have le := cn_le xs n
      have hx : xs[n]? = some (xs[n]'(by omega)) := List.getElem?_eq_getElem _
      have eg : xs.getD n Str.empty = xs[n]'(by omega) := by rw [List.getD_eq_getElem?_getD, hx]; rfl
      unfold cn firstN
      rw [eg]
      cases e : firstN (fun i => xs[i]?.bind fun x => if x ∈ xs.take i then some x else none) n with
      | some a =>
        rw [e] at ih2
        have z := ih2.mpr (by simp)
        refine ⟨fun _ => by simp, fun _ => ?_⟩
        split <;> omega
      | none =>
        rw [e] at ih2
        have z : ¬ cn xs n < n := fun q => (ih2.mp q) rfl
        dsimp only
        rw [hx]
        show _ ↔ (if xs[n]'(by omega) ∈ xs.take n then some (xs[n]'(by omega)) else none) ≠ none
        by_cases m : xs[n]'(by omega) ∈ xs.take n
        · rw [if_pos m, if_pos (by rw [List.any_eq_true]; exact ⟨_, m, beq_self_eq_true _⟩)]
          exact ⟨fun _ => by simp, fun _ => by omega⟩
        · rw [if_neg m, if_neg (by
            intro q
            obtain ⟨y, hy, e2⟩ := List.any_eq_true.mp q
            rw [beq_iff_eq] at e2
            rw [e2] at hy
            exact m hy)]
          exact ⟨fun q => by omega, fun q => absurd rfl q⟩
  exact key xs.length (Nat.le_refl _)
end K22

namespace K22
open PySem PySem.Spec PyProof.Rows L2 Ow Xv
/-! ### the errors raised -/
structure XC (K : PySem.W.Frag) (C : Addr) (f : Str) (bm : List Value) (new : String) : Prop where
  ec : EC K C
  q : PySem.W.excInitIn K C bm new = true
  ov : PySem.W.excOver K C bm = true
  iC : PySem.W.findIn K (.ref C) "__init__" = some (some (.ref (He.ma K C "__init__")))
  tI : PySem.W.typeIn K (.ref (He.ma K C "__init__")) = some (.type "function")
  tk : PySem.W.takerIn K C f = some none
  no : PySem.W.findIn K (.ref C) f = some none
  ty : PySem.W.typeIn K (.ref C) = some (.type "type")
theorem xc_of {K : PySem.W.Frag} {C : Addr} {f : Str} {bm : List Value} {new : String} (h : xcB K C f bm new = true) : XC K C f bm new := by
  unfold xcB ecB at h
  obtain ⟨e, h⟩ := an h
  obtain ⟨e1, e⟩ := an e
  obtain ⟨e2, e⟩ := an e
  obtain ⟨e3, e⟩ := an e
  obtain ⟨e4, e⟩ := an e
  obtain ⟨e5, e⟩ := an e
  obtain ⟨e6, e⟩ := an e
  obtain ⟨e7, e⟩ := an e
  obtain ⟨e8, e9⟩ := an e
  obtain ⟨h1, h⟩ := an h
  obtain ⟨h2, h⟩ := an h
  obtain ⟨h3, h⟩ := an h
  obtain ⟨h4, h⟩ := an h
  obtain ⟨h5, h⟩ := an h
  obtain ⟨h6, h7⟩ := an h
  exact ⟨⟨e1, e2, He.eqO_ok e3, He.eqO_ok e4, He.eqO_ok e5, He.eqO_ok e6, of_decide_eq_true e7, of_decide_eq_true e8, e9⟩, h1, h2, He.eqO_ok h3, of_decide_eq_true h4, He.eqO_ok h5, He.eqO_ok h6, of_decide_eq_true h7⟩
theorem XC.xf {K : PySem.W.Frag} {C : Addr} {f : Str} {bm : List Value} {new : String} (h : XC K C f bm new) : XfC K C := ⟨h.ec.ga, h.ec.gg, h.ec.be, h.ec.hd⟩
def spXI (C : Addr) (n : Str) : Sp := fun vs H Q _ => ∃ (a : Addr) (x : V), vs = [.ref a, x] ∧ H a = some (exo a C none) ∧ ∀ dx, H dx = none → dx ≠ a → Q .non (upd (upd H dx (exd dx [(n, x)])) a (exo a C (some dx)))
/-- what a raise of such an error needs -/
structure RaC (P : Program) (w : World) (K : PySem.W.Frag) (mg : Str → Option Value) (base : Heap) (C : Addr) (ps : List Str) (sp : Sp) : Prop where
  ex : ∃ (B n1 n2 : String) (bmB : List Value) (fI : Addr) (fd : FuncData), ExcBaseFacts B n1 n2 bmB ∧ PySem.W.excInitIn K C bmB n1 = true ∧ PySem.W.findIn K (.ref C) "__init__" = some (some (.ref fI)) ∧ PySem.W.typeIn K (.ref fI) = some (.type "function") ∧
    FnOk P w K mg base CX0 1 fI fd ps sp ∧ Binds K fd ps []
  kp : PySem.W.keepIn K (.ref C) = true
  be : PySem.W.subIn K (.ref C) (.type "BaseException") = some true
  ty : PySem.W.typeIn K (.ref C) = some (.type "type")
theorem pmk_ra {X : Cx} {C : Addr} {ps : List Str} {sp : Sp} {x : Str} {p pos : Pos} {e : Expr} {es : List Expr} {ta : TA} (M : RaC X.prog X.w X.K X.mg X.base C ps sp) (hr : Room 2 X.A) (hg : Gl X x) (hm : X.mg x = some (.ref C)) (ha : PA X (e :: es) ta)
    (hdb : (x == ("__debug__" : Str)) = false := by decide) (he : starEach (e :: es) X.env = (false, eval e X.env) :: starEach es X.env := by rfl) (hpl : (backTo pos (starEach es X.env)).any (·.1) = false := by rfl) :
    PMk X (.Call (.Name x p) (e :: es) [] pos) (tMkO C sp [] ta) := by
  obtain ⟨B, n1, n2, bmB, fI, fd, F, q, iC, tI, F1, b⟩ := M.ex
  exact pmk_excI F q iC tI M.kp (raises_own M.be M.ty) F1 hr b pass0 hg hm ha hdb he hpl
theorem mkO_at {C : Addr} {n : Str} {x : V} {H : Hp} {Q : XK} (k : ∀ (d : Addr) (H' : Hp), Same H H' → H d = none → H' d = some (.xd [(n, x)]) → Q (.ref C) (some d) H') (a : Addr) (ha : H a = none) :
    spXI C n (.ref a :: ([x] ++ [])) (upd H a (exo a C none)) (fun v H2 => v = .non ∧ ∃ (d : Addr) (fs : List (Str × V)), H2 a = some (exo a C (some d)) ∧ H2 d = some (exd d fs) ∧ H d = none ∧ Q (.ref C) (some d) (upd (del H2 a) d (.xd fs))) (fun _ _ _ => False) := by
  refine ⟨a, x, rfl, upd_same, fun dx h1 h2 => ?_⟩
  have hd1 : H dx = none := (upd_ne h2).symm.trans h1
  refine ⟨rfl, dx, _, upd_same, (upd_ne h2).trans upd_same, hd1, k dx _ (fun b o eb => ?_) hd1 upd_same⟩
  have n1 := ne_of_none eb ha
  have n2 := ne_of_none eb hd1
  rw [upd_ne n2, del_ne n1, upd_ne n1, upd_ne n2, upd_ne n1]
  exact eb
section
variable {P : Program} {w : World} {K : PySem.W.Frag} {mg : Str → Option Value} {base : Heap}
theorem Fx.xBN (Y : Fx w K mg) : XC K (CBadName K) "name" veB "ValueError.__new__" := xc_of Y.x1
theorem Fx.xTT (Y : Fx w K mg) : XC K (CTwiceTold K) "name" veB "ValueError.__new__" := xc_of Y.x2
theorem Fx.xUN (Y : Fx w K mg) : XC K (CUnknownName K) "name" leB "LookupError.__new__" := xc_of Y.x3
theorem Fx.xBF (Y : Fx w K mg) : XC K (CBadFrame K) "name" veB "ValueError.__new__" := xc_of Y.x4
theorem Fx.xCR (Y : Fx w K mg) : XC K (CComesRound K) "members" veB "ValueError.__new__" := xc_of Y.x5
theorem scXN1 : FnScope ["self", "name"] ["self", "name"] (defScope sBadName_Init) := ⟨rfl, rfl, rfl, by decide +kernel, rfl, by decide +kernel, by decide +kernel⟩
theorem scXN2 : FnScope ["self", "name"] ["self", "name"] (defScope sTwiceTold_Init) := ⟨rfl, rfl, rfl, by decide +kernel, rfl, by decide +kernel, by decide +kernel⟩
theorem scXN3 : FnScope ["self", "name"] ["self", "name"] (defScope sUnknownName_Init) := ⟨rfl, rfl, rfl, by decide +kernel, rfl, by decide +kernel, by decide +kernel⟩
theorem scXN4 : FnScope ["self", "name"] ["self", "name"] (defScope sBadFrame_Init) := ⟨rfl, rfl, rfl, by decide +kernel, rfl, by decide +kernel, by decide +kernel⟩
theorem scXN5 : FnScope ["self", "members"] ["self", "members"] (defScope sComesRound_Init) := ⟨rfl, rfl, rfl, by decide +kernel, rfl, by decide +kernel, by decide +kernel⟩
theorem raBN (Y : Fx w K mg) : RaC P w K mg base (CBadName K) ["self", "name"] (spXI (CBadName K) "name") := by
  obtain ⟨fd, F⟩ := Y.dBadName_Init
  have b := FunD.bindsN (ps := ["self", "name"]) F fun _ _ _ _ _ _ us hl => match us, hl with | [_, _], _ => rfl
  refine ⟨⟨_, _, _, _, _, fd, PySem.F.excBase_ValueError, Y.xBN.q, Y.xBN.iC, Y.xBN.tI, ?_, b⟩, Y.xBN.ec.kp, Y.xBN.ec.be, Y.xBN.ty⟩
  refine okD F scXN1 (fun vs H Q E h => ?_) (fun cdv A outer s H vs Q E hr h => ?_)
  · obtain ⟨a, x, rfl, _⟩ := h
    rfl
  · refine ⟨_, pss_one (ps_st (C := CBadName K) PySem.F.store_ValueError Y.xBN.ec Y.xBN.ov Y.xBN.tk (pv 0) (pv 1)), ?_⟩
    obtain ⟨a, x, rfl, ha, k⟩ := h
    exact ⟨_, rfl, _, rfl, a, rfl, .inl ⟨ha, fun dx h1 h2 => k dx h1 h2⟩⟩
theorem raTT (Y : Fx w K mg) : RaC P w K mg base (CTwiceTold K) ["self", "name"] (spXI (CTwiceTold K) "name") := by
  obtain ⟨fd, F⟩ := Y.dTwiceTold_Init
  have b := FunD.bindsN (ps := ["self", "name"]) F fun _ _ _ _ _ _ us hl => match us, hl with | [_, _], _ => rfl
  refine ⟨⟨_, _, _, _, _, fd, PySem.F.excBase_ValueError, Y.xTT.q, Y.xTT.iC, Y.xTT.tI, ?_, b⟩, Y.xTT.ec.kp, Y.xTT.ec.be, Y.xTT.ty⟩
  refine okD F scXN2 (fun vs H Q E h => ?_) (fun cdv A outer s H vs Q E hr h => ?_)
  · obtain ⟨a, x, rfl, _⟩ := h
    rfl
  · refine ⟨_, pss_one (ps_st (C := CTwiceTold K) PySem.F.store_ValueError Y.xTT.ec Y.xTT.ov Y.xTT.tk (pv 0) (pv 1)), ?_⟩
    obtain ⟨a, x, rfl, ha, k⟩ := h
    exact ⟨_, rfl, _, rfl, a, rfl, .inl ⟨ha, fun dx h1 h2 => k dx h1 h2⟩⟩
theorem raUN (Y : Fx w K mg) : RaC P w K mg base (CUnknownName K) ["self", "name"] (spXI (CUnknownName K) "name") := by
  obtain ⟨fd, F⟩ := Y.dUnknownName_Init
  have b := FunD.bindsN (ps := ["self", "name"]) F fun _ _ _ _ _ _ us hl => match us, hl with | [_, _], _ => rfl
  refine ⟨⟨_, _, _, _, _, fd, PySem.F.excBase_LookupError, Y.xUN.q, Y.xUN.iC, Y.xUN.tI, ?_, b⟩, Y.xUN.ec.kp, Y.xUN.ec.be, Y.xUN.ty⟩
  refine okD F scXN3 (fun vs H Q E h => ?_) (fun cdv A outer s H vs Q E hr h => ?_)
  · obtain ⟨a, x, rfl, _⟩ := h
    rfl
  · refine ⟨_, pss_one (ps_st (C := CUnknownName K) PySem.F.store_LookupError Y.xUN.ec Y.xUN.ov Y.xUN.tk (pv 0) (pv 1)), ?_⟩
    obtain ⟨a, x, rfl, ha, k⟩ := h
    exact ⟨_, rfl, _, rfl, a, rfl, .inl ⟨ha, fun dx h1 h2 => k dx h1 h2⟩⟩
theorem raBF (Y : Fx w K mg) : RaC P w K mg base (CBadFrame K) ["self", "name"] (spXI (CBadFrame K) "name") := by
  obtain ⟨fd, F⟩ := Y.dBadFrame_Init
  have b := FunD.bindsN (ps := ["self", "name"]) F fun _ _ _ _ _ _ us hl => match us, hl with | [_, _], _ => rfl
  refine ⟨⟨_, _, _, _, _, fd, PySem.F.excBase_ValueError, Y.xBF.q, Y.xBF.iC, Y.xBF.tI, ?_, b⟩, Y.xBF.ec.kp, Y.xBF.ec.be, Y.xBF.ty⟩
  refine okD F scXN4 (fun vs H Q E h => ?_) (fun cdv A outer s H vs Q E hr h => ?_)
  · obtain ⟨a, x, rfl, _⟩ := h
    rfl
  · refine ⟨_, pss_one (ps_st (C := CBadFrame K) PySem.F.store_ValueError Y.xBF.ec Y.xBF.ov Y.xBF.tk (pv 0) (pv 1)), ?_⟩
    obtain ⟨a, x, rfl, ha, k⟩ := h
    exact ⟨_, rfl, _, rfl, a, rfl, .inl ⟨ha, fun dx h1 h2 => k dx h1 h2⟩⟩
end
end K22

namespace K22
open PySem PySem.Spec PyProof.Rows L2 Ow Xv
/-! ### names checked -/
theorem fl_strs (ws : List Str) : (ws.map V.str).all flatV = true := by
  rw [List.all_map]
  exact List.all_eq_true.mpr fun _ _ => rfl
section
variable {K : PySem.W.Frag} {H : Hp} {a : Addr} {xs : List V} {Q : VK} {lo hi : Option Int}
theorem slice_any (h : SqT K H a xs) (k : ∀ (T : Addr) (H' : Hp), Same H H' → SqT K H' T (cutV xs lo hi) → Q (.ref T) H') : rSlA K (.ref a) lo hi H Q :=
  ⟨a, xs, rfl, h, fun e => k a H (Same.refl _) (by rw [show cutV xs lo hi = xs by unfold cutV; rw [e.1, e.2]; simp]; exact h), fun _ p hp => k p _ (same_upd hp) (SqT.of upd_same)⟩
/-- a list or a tuple cut -/
theorem slice_q (h : SqA K H a xs) (k : ∀ (T : Addr) (H' : Hp), Same H H' → SqA K H' T (cutV xs lo hi) → Q (.ref T) H') : rSlL K (.ref a) lo hi H Q ∨ rSlA K (.ref a) lo hi H Q := by
  rcases h with h | h
  · exact .inl ⟨a, xs, rfl, h, fun p hp => k p _ (same_upd hp) (.inl (SqL.of upd_same))⟩
  · exact .inr (slice_any h fun T H' s g => k T H' s (.inr g))
end
def optV : Option Str → V
  | some x => .str x
  | none => .non
abbrev NFA : List Str := ["names", "at", "name"]
theorem scFA : FnScope NFA ["names"] (defScope sFirstAgain) := ⟨rfl, rfl, rfl, by decide +kernel, rfl, by decide +kernel, by decide +kernel⟩
def spFA (K : PySem.W.Frag) : Sp := fun vs H Q _ => ∃ (a : Addr) (xs : List Str), vs = [.ref a] ∧ SqA K H a (xs.map V.str) ∧ ∀ H', Same H H' → Q (optV (again xs)) H'
def spCk (K : PySem.W.Frag) : Sp := fun vs H Q E => ∃ (l a b : Addr) (xs ns : List Str), vs = [.ref l] ∧ SqL K H l [.ref a, .ref b] ∧ SqA K H a (xs.map V.str) ∧ SqA K H b (ns.map V.str) ∧ (∀ x ∈ xs ++ ns, x.length ≤ 900) ∧ xs.length < 64 ∧ ns.length < 64 ∧
  match badN (xs ++ ns) with
  | some x => ∀ (d : Addr) (H' : Hp), Same H H' → H d = none → H' d = some (.xd [("name", .str x)]) → E (.ref (CBadName K)) (some d) H'
  | none => (match again xs, again ns with
    | some x, _ => ∀ (d : Addr) (H' : Hp), Same H H' → H d = none → H' d = some (.xd [("name", .str x)]) → E (.ref (CTwiceTold K)) (some d) H'
    | none, some x => ∀ (d : Addr) (H' : Hp), Same H H' → H d = none → H' d = some (.xd [("name", .str x)]) → E (.ref (CTwiceTold K)) (some d) H'
    | none, none => ∀ H', Same H H' → Q .non H')
section
variable {P : Program} {w : World} {K : PySem.W.Frag} {mg : Str → Option Value} {base : Heap} {f : Addr} {fd : FuncData}
theorem ok_fa (F : FnP K "first_again" sFirstAgain f fd) (Y : Fx w K mg) : FnOk P w K mg base CX0 1 f fd ["names"] (spFA K) := by
  refine okD F scFA (fun vs H Q E h => ?_) (fun cdv A outer s H vs Q E hr h => ?_)
  · obtain ⟨a, xs, rfl, _⟩ := h
    rfl
  · have nd := scFA.nd
    refine ⟨_, pss_cons (ps_for PassesOwn.never rfl (pi_enumA (by rfl) Y.bEnumerate (pa_cons (pv 0) pa_nil)) (pg_tup rfl (pgs_cons (pg_name (i := 1) nd rfl (Or.inl rfl)) (pgs_cons (pg_name (i := 2) nd rfl (Or.inl rfl)) pgs_nil)))
        (pss_one (ps_if (pt_cmpR op_in_seq (pv 2) (pe_slice (sl_list.or sl_tupA) (pv 0) po_none (po_some (pv 1))) (by rfl)) (pss_one (ps_ret (pv 2))) pss_nil)))
      (pss_one (ps_ret pe_non)), ?_⟩
    obtain ⟨a, xs, rfl, ha, k⟩ := h
    refine ⟨_, rfl, a, xs.map V.str, rfl, ha, fun J GG wk gk => ?_⟩
    refine for_it wk (fun i σ G => ∃ v1 v2, σ = [some (.ref a), v1, v2] ∧ firstN (fun i => xs[i]?.bind fun x => if x ∈ xs.take i then some x else none) i = none ∧ Same H G) ⟨none, none, rfl, rfl, Same.refl _⟩ (fun i σ G _ ⟨_, _, _, _, q⟩ => gk G q) ?_ ?_
    · rintro i v σ G G' hi ⟨v1, v2, rfl, hn, sm⟩ ⟨T, x, y, rfl, hT, rfl, ex, ey⟩
      cases ex
      obtain ⟨z, ez, rfl⟩ := str_at (show (xs.map V.str)[i]? = some y from ey)
      have sT := same_upd (o := .tup [V.int (i : Int), V.str z]) hT
      refine ⟨T, _, rfl, SqT.of upd_same, rfl, _, _, rfl, _, _, rfl, rfl, ?_⟩
      dsimp only
      change tIfS _ _ _ _ [some (.ref a), some (.int (i : Int)), some (.str z)] (upd G T (.tup [V.int (i : Int), V.str z]))
      refine ⟨_, rfl, _, rfl, _, rfl, _, rfl, ?_⟩
      refine slice_q ((ha.same sm).same sT) fun T2 H2 s2 h2 => ?_
      rw [cutV_take, ← List.map_take] at h2
      refine ⟨T2, _, rfl, h2, rfl, fl_strs _, _, rfl, ?_⟩
      rw [if_neg Bool.false_ne_true, inV_strs]
      have li : i < xs.length := (List.getElem?_eq_some_iff.mp ez).1
      refine ite2 (fun hc => ?_) (fun hc => ?_)
      · have hm : z ∈ xs.take i := of_decide_eq_true hc
        have e : again xs = some z := firstN_at hn (by show (xs[i]?.bind _) = _; rw [ez]; exact if_pos hm) li
        rw [e] at k
        exact ⟨_, rfl, k _ (sm.trans (sT.trans s2))⟩
      · have hm : z ∉ xs.take i := fun q => hc (decide_eq_true q)
        exact ⟨_, _, rfl, firstN_step hn (by show (xs[i]?.bind _) = _; rw [ez]; exact if_neg hm), sm.trans (sT.trans s2)⟩
    · rintro σ G ⟨v1, v2, rfl, hn, sm⟩
      rw [List.length_map] at hn
      have e : again xs = none := hn
      rw [e] at k
      exact k G sm
end
end K22

namespace K22
open PySem PySem.Spec PyProof.Rows L2 Ow Xv
section
variable {P : Program} {w : World} {K : PySem.W.Frag} {mg : Str → Option Value} {base : Heap} {f : Addr} {fd : FuncData}
theorem ok_ck (F : FnP K "check_names" sCheckNames f fd) (Y : Fx w K mg) : FnOk P w K mg base (L2.CX P w) 3 f fd ["lists"] (spCk K) := by
  obtain ⟨dW, FW⟩ := Y.dIsWord
  obtain ⟨dA, FA⟩ := Y.dFirstAgain
  have bW := FunD.bindsN (ps := ["value"]) FW fun _ _ _ _ _ _ us hl => match us, hl with | [_], _ => rfl
  have bA := FunD.bindsN (ps := ["names"]) FA fun _ _ _ _ _ _ us hl => match us, hl with | [_], _ => rfl
  have GW : FnOk P w K mg base CX0 1 _ dW ["value"] spIW := ok_iw FW Y
  have GA : FnOk P w K mg base CX0 1 _ dA ["names"] (spFA K) := ok_fa FA Y
  refine F.ok scCN (fun vs H Q E h => ?_) (fun cdv A outer s H vs Q E hr h => ?_)
  · obtain ⟨l, a, b, xs, ns, rfl, _⟩ := h
    rfl
  · have nd := scCN.nd
    have B := Y.bl
    have hr1 : Room 1 _ := hr.mono (by decide)
    refine ⟨_, pss_cons (ps_for (passes_of rfl) rfl (pi_list (pv 0)) (pg_name (i := 1) nd rfl (Or.inl rfl)) (pss_one (ps_for (passes_of rfl) rfl (pi_seqA (pv 1)) (pg_name (i := 2) nd rfl (Or.inl rfl))
        (pss_one (ps_if (pt_not (pt_val (pe_call GW hr1 rfl Y.gIsWord FW.kp bW .nil pass0 (pa_cons (pv 2) pa_nil)))) (pss_one (ps_raise rfl (takes_of rfl rfl rfl rfl) (pmk_ra (raBN Y) hr (by rfl) Y.gBadName (pa_cons (pv 2) pa_nil)))) pss_nil)))))
      (pss_one (ps_for (passes_of rfl) rfl (pi_list (pv 0)) (pg_name (i := 1) nd rfl (Or.inl rfl))
        (pss_one (ps_if (pt_cmpR op_lt (pe_lenSetD rfl (by rfl) B.len (by rfl) Y.bSet (pv 1)) (pe_callB call_len_seq (by rfl) B.len PySem.boot_len (pa_cons (pv 1) pa_nil)) (nomark _))
          (pss_one (ps_raise rfl (takes_of rfl rfl rfl rfl) (pmk_ra (raTT Y) hr (by rfl) Y.gTwiceTold (pa_cons (pe_call GA hr1 rfl Y.gFirstAgain FA.kp bA .nil pass0 (pa_cons (pv 1) pa_nil)) pa_nil)))) pss_nil)))), ?_⟩
    obtain ⟨l, a, b, xs, ns, rfl, hl, hx, hn, lw, lx, ln, k⟩ := h
    obtain ⟨st, hst⟩ : ∃ st : Nat → Nat, st = fun i => if i = 0 then 0 else if i = 1 then xs.length else xs.length + ns.length := ⟨_, rfl⟩
    have st0 : st 0 = 0 := by rw [hst]; rfl
    have st1 : st 1 = xs.length := by rw [hst]; rfl
    have st2 : st 2 = xs.length + ns.length := by rw [hst]; rfl
    clear hst
    have it : ∀ (i : Nat) (v : V), ([.ref a, .ref b] : List V)[i]? = some v → ∃ (c : Addr) (zs : List Str), v = .ref c ∧ SqA K H c (zs.map V.str) ∧ zs.length < 64 ∧ (∀ x ∈ zs, x.length ≤ 900) ∧ st (i + 1) = st i + zs.length ∧ (∀ (j : Nat) (x : Str), zs[j]? = some x → (xs ++ ns)[st i + j]? = some x) ∧ ((i = 0 ∧ zs = xs) ∨ (i = 1 ∧ zs = ns)) := fun i v hi => by
      match i, hi with
      | 0, hi =>
        cases hi
        refine ⟨a, xs, rfl, hx, lx, fun x h => lw x (List.mem_append_left _ h), by rw [st0, st1, Nat.zero_add], fun j x h => ?_, .inl ⟨rfl, rfl⟩⟩
        rw [st0, Nat.zero_add, List.getElem?_append_left (List.getElem?_eq_some_iff.mp h).1]
        exact h
      | 1, hi =>
        cases hi
        refine ⟨b, ns, rfl, hn, ln, fun x h => lw x (List.mem_append_right _ h), by rw [st1, st2], fun j x h => ?_, .inr ⟨rfl, rfl⟩⟩
        rw [st1, List.getElem?_append_right (Nat.le_add_right _ _), Nat.add_sub_cancel_left]
        exact h
      | (i + 2), hi => cases hi
    refine ⟨_, rfl, l, rfl, ⟨_, hl⟩, for_list (K := K) (a := l) (xs := [.ref a, .ref b]) (fun i σ G => (∃ v1 v2, σ = [some (.ref l), v1, v2]) ∧ firstN (fun i => (xs ++ ns)[i]?.bind fun x => if isW x = true then none else some x) (st i) = none ∧ Same H G) ⟨⟨_, _, rfl⟩, by rw [st0]; rfl, Same.refl _⟩ (fun i σ G _ q => q.2.2.seq hl) ?_ ?_⟩
    · rintro i v σ G hi ⟨⟨v1, v2, rfl⟩, hF, sm⟩
      obtain ⟨c, zs, rfl, hA, lz, lzw, sti, at_, _⟩ := it i v hi
      refine ⟨_, rfl, c, zs.map V.str, rfl, hA.same sm, fun J GG wk gk => for_it wk (fun j σ G' => (∃ v2, σ = [some (.ref l), some (.ref c), v2]) ∧ firstN (fun i => (xs ++ ns)[i]?.bind fun x => if isW x = true then none else some x) (st i + j) = none ∧ Same G G') ⟨⟨_, rfl⟩, hF, Same.refl _⟩ (fun j σ G' _ q => gk _ q.2.2) ?_ ?_⟩
      · rintro j v σ G' G'' hj ⟨⟨v2, rfl⟩, hF2, s2⟩ ⟨rfl, ev⟩
        obtain ⟨x, ex, rfl⟩ := str_at ev
        have ea := at_ j x ex
        have lj := (List.getElem?_eq_some_iff.mp ea).1
        refine ⟨_, rfl, x, rfl, lzw x (List.mem_of_getElem? ex), fun G3 s3 => ⟨_, rfl, ite2 (fun hc => ?_) (fun hc => ?_)⟩⟩
        · have ew : isW x = false := by simpa using hc
          have e : badN (xs ++ ns) = some x := firstN_at hF2 (by show ((xs ++ ns)[st i + j]?.bind _) = _; rw [ea]; exact if_neg (by rw [ew]; exact Bool.false_ne_true)) lj
          rw [e] at k
          have smA := sm.trans (s2.trans s3)
          refine ⟨_, rfl, (by show 1 ≤ 1000; decide), fun q hq => mkO_at (fun d H' s hd e2 => k d H' (smA.trans s) (none_of smA hd) e2) q hq⟩
        · have ew : isW x = true := by simpa using hc
          exact ⟨⟨_, rfl⟩, firstN_step hF2 (by show ((xs ++ ns)[st i + j]?.bind _) = _; rw [ea]; exact if_pos ew), s2.trans s3⟩
      · rintro σ G' ⟨⟨v2, rfl⟩, hF2, s2⟩
        rw [List.length_map, ← sti] at hF2
        exact ⟨⟨_, _, rfl⟩, hF2, sm.trans s2⟩
    · rintro σ G ⟨⟨v1, v2, rfl⟩, hF, sm⟩
      have eN : badN (xs ++ ns) = none := by
        have z : st ([.ref a, .ref b] : List V).length = (xs ++ ns).length := by rw [List.length_append]; exact st2
        rw [z] at hF
        exact hF
      rw [eN] at k
      dsimp only at k
      refine ⟨_, rfl, l, rfl, ⟨_, sm.seq hl⟩, for_list (K := K) (a := l) (xs := [.ref a, .ref b]) (fun i σ G => (∃ v1 v2, σ = [some (.ref l), v1, v2]) ∧ (1 ≤ i → again xs = none) ∧ (2 ≤ i → again ns = none) ∧ Same H G) ⟨⟨_, _, rfl⟩, fun h => absurd h (by decide), fun h => absurd h (by decide), sm⟩ (fun i σ G _ q => q.2.2.2.seq hl) ?_ ?_⟩
      · rintro i v σ G hi ⟨⟨v1, v2, rfl⟩, h1, h2, sm⟩
        obtain ⟨c, zs, rfl, hA, lz, lzw, sti, at_, wh⟩ := it i v hi
        have hA2 := hA.same sm
        refine ⟨_, rfl, c, zs, rfl, hA2, lz, _, rfl, c, zs.map V.str, rfl, hA2, _, _, rfl, rfl, _, rfl, ?_⟩
        rw [List.length_map]
        refine ite2 (fun hc => ?_) (fun hc => ?_)
        · have lt : cn zs zs.length < zs.length := by
            have := of_decide_eq_true hc
            omega
          obtain ⟨x, ex⟩ := Option.ne_none_iff_exists'.mp (cn_nodup.mp lt)
          refine ⟨_, rfl, c, zs, rfl, hA2, fun H3 s3 => ?_⟩
          rw [ex]
          refine ⟨(by show 1 ≤ 1000; decide), fun q hq => mkO_at (fun d H' s hd e2 => ?_) q hq⟩
          have smA := sm.trans s3
          rcases wh with ⟨rfl, rfl⟩ | ⟨rfl, rfl⟩
          · rw [ex] at k
            exact k d H' (smA.trans s) (none_of smA hd) e2
          · rw [h1 (Nat.le_refl _), ex] at k
            exact k d H' (smA.trans s) (none_of smA hd) e2
        · have no : again zs = none := by
            cases e : again zs with
            | none => rfl
            | some x =>
              have lt := cn_nodup.mpr (by rw [e]; simp)
              exact absurd (decide_eq_true (show ((cn zs zs.length : Nat) : Int) < (zs.length : Int) by omega)) hc
          refine ⟨⟨_, _, rfl⟩, fun hh => ?_, fun hh => ?_, sm⟩
          · rcases wh with ⟨rfl, rfl⟩ | ⟨rfl, rfl⟩
            · exact no
            · exact h1 (by omega)
          · rcases wh with ⟨rfl, rfl⟩ | ⟨rfl, rfl⟩
            · omega
            · exact no
      · rintro σ G ⟨⟨v1, v2, rfl⟩, h1, h2, sm⟩
        rw [h1 (show 1 ≤ 2 by decide), h2 (show 2 ≤ 2 by decide)] at k
        exact k G sm
end
end K22

namespace K22
open PySem PySem.Spec PyProof.Rows L2 Ow Xv
/-! ### ends checked -/
def TupsA (K : PySem.W.Frag) (H : Hp) (l : Addr) (vss : List (List V)) : Prop := ∃ as : List Addr, SqA K H l (as.map V.ref) ∧ as.length = vss.length ∧ ∀ (i : Nat) (t : Addr), as[i]? = some t → ∃ vs, vss[i]? = some vs ∧ SqT K H t vs
theorem TupsA.same {K : PySem.W.Frag} {H H' : Hp} {l : Addr} {vss : List (List V)} (s : Same H H') (h : TupsA K H l vss) : TupsA K H' l vss := by
  obtain ⟨as, a, b, c⟩ := h
  exact ⟨as, a.same s, b, fun i t e => let ⟨vs, e1, e2⟩ := c i t e; ⟨vs, e1, sqt_same s e2⟩⟩
theorem tt_at {ts : List Tt} {i : Nat} {vs : List V} (e1 : (ts.map ttV)[i]? = some vs) : ∃ q, ts[i]? = some q ∧ vs = ttV q := by
  rw [List.getElem?_map] at e1
  cases e : ts[i]? with
  | none => rw [e] at e1; cases e1
  | some z => rw [e] at e1; exact ⟨z, rfl, (Option.some.inj e1).symm⟩
def spCE2 (K : PySem.W.Frag) : Sp := fun vs H Q E => ∃ (s l t : Addr) (xs : List Str) (ls : List Lt) (ts : List Tt), vs = [.ref s, .ref l, .ref t] ∧ SqA K H s (xs.map V.str) ∧ TupsA K H l (ls.map ltV) ∧ TupsA K H t (ts.map ttV) ∧ ls.length ≤ 60 ∧
  match badE xs ls with
  | some x => ∀ (d : Addr) (H' : Hp), Same H H' → H d = none → H' d = some (.xd [("name", .str x)]) → E (.ref (CUnknownName K)) (some d) H'
  | none => (match badT (ls.map (·.1)) ts with
    | some x => ∀ (d : Addr) (H' : Hp), Same H H' → H d = none → H' d = some (.xd [("name", .str x)]) → E (.ref (CUnknownName K)) (some d) H'
    | none => ∀ H', Same H H' → Q .non H')
section
variable {P : Program} {w : World} {K : PySem.W.Frag} {mg : Str → Option Value} {base : Heap} {f : Addr} {fd : FuncData}
theorem ok_ce2 (F : FnP K "_check_ends" sCheckEnds f fd) (Y : Fx w K mg) : FnOk P w K mg base (L2.CX P w) 3 f fd ["sorts", "letters", "totals"] (spCE2 K) := by
  refine F.ok scCE (fun vs H Q E h => ?_) (fun cdv A outer s H vs Q E hr h => ?_)
  · obtain ⟨a, b, c, xs, ls, ts, rfl, _⟩ := h
    rfl
  · have nd := scCE.nd
    refine ⟨_, pss_cons (ps_for (passes_of rfl) rfl (pi_seqA (pv 1)) (pg_tup rfl (pgs_cons (pg_name (i := 3) nd rfl (Or.inl rfl)) (pgs_cons (pg_name (i := 4) nd rfl (Or.inl rfl)) (pgs_cons (pg_name (i := 5) nd rfl (Or.inl rfl)) pgs_nil))))
        (pss_one (ps_for (passes_of rfl) rfl (pi_tup (pe_tup (pa_cons (pv 4) (pa_cons (pv 5) pa_nil)))) (pg_name (i := 6) nd rfl (Or.inl rfl))
          (pss_one (ps_if (pt_cmpR op_notIn_seq (pv 6) (pv 0) (by rfl)) (pss_one (ps_raise rfl (takes_of rfl rfl rfl rfl) (pmk_ra (raUN Y) hr (by rfl) Y.gUnknownName (pa_cons (pv 6) pa_nil)))) pss_nil)))))
      (pss_cons (ps_setLc (i := 7) (own := [("letter", 8)]) (g := gName 8) (tt := tYes) (te := tOp (rIxT K) (tVar 8) (tC (.int 0))) rfl nd rfl rfl (by rfl) (pi_seqA (pv 1)) (blkOk_by (N := NCE) (sc := defScope sCheckEnds) (by decide +kernel)) (fun _ _ _ _ _ => pg_name (i := 8) nd rfl (Or.inl rfl)) (fun _ _ _ _ _ => pts_nil)
        (fun _ _ _ _ _ => pe_ix ix_tup (pv 8) pe_int (fun _ _ => rfl)))
      (pss_one (ps_for (passes_of rfl) rfl (pi_seqA (pv 2)) (pg_tup rfl (pgs_cons (pg_name (i := 9) nd rfl (Or.inl rfl)) (pgs_cons (pg_name (i := 3) nd rfl (Or.inl rfl)) pgs_nil)))
        (pss_one (ps_if (pt_cmpR op_notIn_seq (pv 9) (pv 7) (by rfl)) (pss_one (ps_raise rfl (takes_of rfl rfl rfl rfl) (pmk_ra (raUN Y) hr (by rfl) Y.gUnknownName (pa_cons (pv 9) pa_nil)))) pss_nil))))), ?_⟩
    obtain ⟨a, l, t, xs, ls, ts, rfl, hs, hl, ht, hn, k⟩ := h
    obtain ⟨as, q, la, g⟩ := id hl
    rw [List.length_map] at la
    refine ⟨_, rfl, l, _, rfl, q, fun J GG wk gk => ?_⟩
    refine for_it wk (fun i σ G => (∃ v3 v4 v5 v6, σ = [some (.ref a), some (.ref l), some (.ref t), v3, v4, v5, v6, none, none, none]) ∧ firstN (fun i => ls[i]?.bind fun q => if q.2.1 ∉ xs then some q.2.1 else if q.2.2 ∉ xs then some q.2.2 else none) i = none ∧ Same H G) ⟨⟨_, _, _, _, rfl⟩, rfl, Same.refl _⟩ (fun i σ G _ p => gk G p.2.2) ?_ ?_
    · rintro i v σ G G' hi ⟨⟨v3, v4, v5, v6, rfl⟩, hF, sm⟩ ⟨rfl, ev⟩
      obtain ⟨b, eb, rfl⟩ := ref_at ev
      obtain ⟨vs, e1, hT⟩ := g i b eb
      obtain ⟨lt, e2, rfl⟩ := lt_at e1
      have li := (List.getElem?_eq_some_iff.mp e2).1
      refine ⟨b, _, rfl, sqt_same sm hT, rfl, _, _, rfl, _, _, rfl, _, _, rfl, rfl, ?_⟩
      refine ⟨_, rfl, _, rfl, szl (by show 2 ≤ 1000; decide), fun p hp => ?_⟩
      have sp : Same G' (upd G' p (.tup [.str lt.2.1, .str lt.2.2])) := same_upd hp
      refine ⟨p, rfl, ⟨_, SqT.of upd_same⟩, for_tup (K := K) (a := p) (xs := [.str lt.2.1, .str lt.2.2]) (fun j σ G2 => (∃ v6, σ = [some (.ref a), some (.ref l), some (.ref t), some (.str lt.1), some (.str lt.2.1), some (.str lt.2.2), v6, none, none, none]) ∧ (1 ≤ j → lt.2.1 ∈ xs) ∧ (2 ≤ j → lt.2.2 ∈ xs) ∧ Same (upd G' p (.tup [.str lt.2.1, .str lt.2.2])) G2) ⟨⟨_, rfl⟩, fun h => absurd h (by decide), fun h => absurd h (by decide), Same.refl _⟩ (fun j σ G2 _ z => sqt_same z.2.2.2 (SqT.of upd_same)) ?_ ?_⟩
      · rintro j v σ G2 hj ⟨⟨v6, rfl⟩, m1, m2, s2⟩
        have smA := sm.trans (sp.trans s2)
        obtain ⟨x, rfl, hx1, hx2⟩ : ∃ x : Str, v = .str x ∧ (x ∉ xs → badE xs ls = some x) ∧ (x ∈ xs → (1 ≤ j + 1 → lt.2.1 ∈ xs) ∧ (2 ≤ j + 1 → lt.2.2 ∈ xs)) := by
          match j, hj with
          | 0, hj =>
            cases hj
            exact ⟨_, rfl, fun h => firstN_at hF (by show (ls[i]?.bind _) = _; rw [e2]; exact if_pos h) li, fun h => ⟨fun _ => h, fun q => absurd q (by decide)⟩⟩
          | 1, hj =>
            cases hj
            exact ⟨_, rfl, fun h => firstN_at hF (by show (ls[i]?.bind _) = _; rw [e2]; show (if lt.2.1 ∉ xs then _ else _) = _; rw [if_neg (fun z => z (m1 (Nat.le_refl _))), if_pos h]) li, fun h => ⟨fun _ => m1 (Nat.le_refl _), fun _ => h⟩⟩
          | (j + 2), hj => cases hj
        refine ⟨_, rfl, _, rfl, a, xs.map V.str, rfl, hs.same smA, rfl, flat_strs xs, _, rfl, ?_⟩
        rw [if_pos rfl, inV_strs]
        refine ite2 (fun hc => ?_) (fun hc => ?_)
        · have no : x ∉ xs := by simpa using hc
          rw [hx1 no] at k
          exact ⟨_, rfl, (by show 1 ≤ 1000; decide), fun q hq => mkO_at (fun d H' s hd e => k d H' (smA.trans s) (none_of smA hd) e) q hq⟩
        · have yes : x ∈ xs := by simpa using hc
          exact ⟨⟨_, rfl⟩, (hx2 yes).1, (hx2 yes).2, s2⟩
      · rintro σ G2 ⟨⟨v6, rfl⟩, m1, m2, s2⟩
        exact ⟨⟨_, _, _, _, rfl⟩, firstN_step hF (by show (ls[i]?.bind _) = _; rw [e2]; show (if lt.2.1 ∉ xs then _ else _) = _; rw [if_neg (fun z => z (m1 (show 1 ≤ 2 by decide))), if_neg (fun z => z (m2 (show 2 ≤ 2 by decide)))]), sm.trans (sp.trans s2)⟩
    · rintro σ G ⟨⟨v3, v4, v5, v6, rfl⟩, hF, sm⟩
      rw [List.length_map, la] at hF
      have eE : badE xs ls = none := hF
      rw [eE] at k
      dsimp only at k
      refine ⟨_, rfl, l, _, rfl, q.same sm, fun J GG wk gk D hD => ?_⟩
      refine lc_it wk (fun i G' => G' D = some (.lst (((ls.take i).map (·.1)).map V.str)) ∧ Same G G') ⟨upd_same, same_upd hD⟩ (fun i G' _ p => gk G' p.2) ?_ ?_
      · rintro i v G1 G' hi ⟨e, s2⟩ ⟨rfl, ev⟩
        obtain ⟨b, eb, rfl⟩ := ref_at ev
        obtain ⟨vs, e1, hT⟩ := g i b eb
        obtain ⟨lt, e2, rfl⟩ := lt_at e1
        have li := (List.getElem?_eq_some_iff.mp e2).1
        refine ⟨rfl, _, rfl, b, _, 0, _, rfl, rfl, sqt_same (sm.trans s2) hT, rfl, _, e, ?_, ?_, same_put hD s2⟩
        · rw [List.length_map, List.length_map, List.length_take]
          exact small1000 (by omega)
        · rw [upd_same, List.take_add_one, e2, List.map_append, List.map_append]
          rfl
      · rintro G1 ⟨e, s2⟩
        rw [List.length_map, la, List.take_length] at e
        obtain ⟨bs, q2, lb, g2⟩ := id ht
        rw [List.length_map] at lb
        have sm1 := sm.trans s2
        refine ⟨_, rfl, t, _, rfl, q2.same sm1, fun J GG wk gk => ?_⟩
        refine for_it wk (fun i σ G2 => (∃ v3 v9, σ = [some (.ref a), some (.ref l), some (.ref t), v3, v4, v5, v6, some (.ref D), none, v9]) ∧ firstN (fun i => ts[i]?.bind fun q => if q.1 ∉ ls.map (·.1) then some q.1 else none) i = none ∧ Same G1 G2) ⟨⟨_, _, rfl⟩, rfl, Same.refl _⟩ (fun i σ G2 _ p => gk G2 p.2.2) ?_ ?_
        · rintro i v σ G2 G' hi ⟨⟨v3, v9, rfl⟩, hF2, s3⟩ ⟨rfl, ev⟩
          obtain ⟨b, eb, rfl⟩ := ref_at ev
          obtain ⟨vs, e1, hT⟩ := g2 i b eb
          obtain ⟨tt, e2, rfl⟩ := tt_at e1
          have li := (List.getElem?_eq_some_iff.mp e2).1
          have smA := sm1.trans s3
          refine ⟨b, _, rfl, sqt_same smA hT, rfl, _, _, rfl, _, _, rfl, rfl, ?_⟩
          refine ⟨_, rfl, _, rfl, D, _, rfl, .inl (SqL.of (s3 _ _ e)), rfl, flat_strs _, _, rfl, ?_⟩
          rw [if_pos rfl, inV_strs]
          refine ite2 (fun hc => ?_) (fun hc => ?_)
          · have no : tt.1 ∉ ls.map (·.1) := by simpa using hc
            have eb2 : badT (ls.map (·.1)) ts = some tt.1 := firstN_at hF2 (by show (ts[i]?.bind _) = _; rw [e2]; exact if_pos no) li
            rw [eb2] at k
            exact ⟨_, rfl, (by show 1 ≤ 1000; decide), fun q hq => mkO_at (fun d H' s hd e => k d H' (smA.trans s) (none_of smA hd) e) q hq⟩
          · have yes : ¬ (tt.1 ∉ ls.map (·.1)) := by
              intro z
              exact hc (by simpa using z)
            exact ⟨⟨_, _, rfl⟩, firstN_step hF2 (by show (ts[i]?.bind _) = _; rw [e2]; exact if_neg yes), s3⟩
        · rintro σ G2 ⟨⟨v3, v9, rfl⟩, hF2, s3⟩
          rw [List.length_map, lb] at hF2
          have eb2 : badT (ls.map (·.1)) ts = none := hF2
          rw [eb2] at k
          exact k G2 (sm1.trans s3)
end
end K22

namespace K22
open PySem PySem.Spec PyProof.Rows L2 Ow Xv
/-! ### totals checked -/
/-- a text that may be compared -/
structure Okx (x : Str) : Prop where
  l : x.length ≤ 900
  o : PyData.strOk x = true
def prD (q : Tt) : PyData := .tuple [.str q.1, .str q.2]
theorem prD_strs (q : Tt) : prD q = .tuple ([q.1, q.2].map PyData.str) := rfl
theorem eqv_strs : ∀ xs ys : List Str, PyData.eqv (.tuple (xs.map PyData.str)) (.tuple (ys.map PyData.str)) = decide (xs = ys)
  | [], [] => by simp [PyData.eqv, PyData.eqvAll]
  | [], y :: ys => by simp [PyData.eqv, PyData.eqvAll]
  | x :: xs, [] => by simp [PyData.eqv, PyData.eqvAll]
  | x :: xs, y :: ys => by
    have e := eqv_strs xs ys
    simp only [PyData.eqv] at e
    simp only [List.map_cons, PyData.eqv, PyData.eqvAll, e]
    by_cases h : x = y <;> by_cases g : xs = ys <;> simp [h, g]
theorem eqv_pr (p q : Tt) : PyData.eqv (prD p) (prD q) = decide (p = q) := by
  rw [prD_strs, prD_strs, eqv_strs]
  obtain ⟨a, b⟩ := p
  obtain ⟨c, d⟩ := q
  by_cases h : a = c <;> by_cases g : b = d <;> simp [h, g]
theorem any_pr (q : Tt) : ∀ ts : List Tt, ((ts.map prD).any fun z => PyData.eqv z (prD q)) = decide (q ∈ ts)
  | [] => rfl
  | p :: ts => by
    rw [List.map_cons, List.any_cons, any_pr q ts, eqv_pr]
    by_cases h : p = q
    · subst h
      simp
    · have h2 : ¬ q = p := fun e => h e.symm
      simp [h, h2]
theorem lay_pr {q : Tt} (h : Okx q.1 ∧ Okx q.2) : (prD q).canLay0 = true := by simp [prD, PyData.canLay0, PyData.canLayAll0, h.1.o, h.2.o]
theorem lay_prs : ∀ {ts : List Tt}, (∀ q ∈ ts, Okx q.1 ∧ Okx q.2) → PyData.canLayAll0 (ts.map prD) = true
  | [], _ => by simp [PyData.canLayAll0]
  | q :: ts, h => by simp [PyData.canLayAll0, lay_pr (h q List.mem_cons_self), lay_prs fun x hx => h x (List.mem_cons_of_mem _ hx)]
theorem dep_prs : ∀ ts : List Tt, PyData.depthAll (ts.map prD) ≤ 1
  | [] => by simp [PyData.depthAll]
  | q :: ts => by
    have := dep_prs ts
    simp only [List.map_cons, PyData.depthAll, prD, PyData.depth]
    omega
theorem shp_pr {q : Tt} (h : Okx q.1 ∧ Okx q.2) : SeqAt.shaped (prD q) = true := shp_of (lay_pr h) (by simp only [prD, PyData.depth, PyData.depthAll]; omega)
theorem shp_prs {ts : List Tt} (h : ∀ q ∈ ts, Okx q.1 ∧ Okx q.2) : SeqAt.shaped (.list (ts.map prD)) = true := shp_of (by simpa [PyData.canLay0] using lay_prs h) (by
  have := dep_prs ts
  simp only [PyData.depth]
  omega)
/-- at the addresses stand the pairs -/
theorem dpa_prs {K : PySem.W.Frag} {H : Hp} : ∀ {as : List Addr} {ts : List Tt}, as.length = ts.length → (∀ (i : Nat) (t : Addr), as[i]? = some t → ∃ q, ts[i]? = some q ∧ SqT K H t (ttV q)) → DpAll K H (as.map V.ref) (ts.map prD)
  | [], [], _, _ => .nil
  | [], q :: ts, l, _ => by cases l
  | a :: as, [], l, _ => by cases l
  | a :: as, q :: ts, l, h => by
    obtain ⟨q2, e, hq⟩ := h 0 a rfl
    cases e
    exact .cons (.tup hq (.cons (.str _) (.cons (.str _) .nil))) (dpa_prs (by simpa using l) fun i t e => h (i + 1) t e)
def spCT2 (K : PySem.W.Frag) : Sp := fun vs H Q E => ∃ (t : Addr) (ts : List Tt), vs = [.ref t] ∧ TupsAt K H t (ts.map ttV) ∧ (∀ q ∈ ts, Okx q.1 ∧ Okx q.2) ∧
  match badF ts with
  | some x => ∀ (d : Addr) (H' : Hp), Same H H' → H d = none → H' d = some (.xd [("name", .str x)]) → E (.ref (CBadFrame K)) (some d) H'
  | none => ∀ H', Same H H' → Q .non H'
section
variable {P : Program} {w : World} {K : PySem.W.Frag} {mg : Str → Option Value} {base : Heap} {f : Addr} {fd : FuncData}
theorem ok_ct2 (F : FnP K "_check_totals" sCheckTotals f fd) (Y : Fx w K mg) : FnOk P w K mg base (L2.CX P w) 3 f fd ["totals"] (spCT2 K) := by
  refine F.ok scCT (fun vs H Q E h => ?_) (fun cdv A outer s H vs Q E hr h => ?_)
  · obtain ⟨t, ts, rfl, _⟩ := h
    rfl
  · have nd := scCT.nd
    have hu64 := hu64_of hr
    have hu65 : (A.deeper (envOfC "_check_totals" (defScope sCheckTotals) s.heap.objs.size f cdv)).units + 65 < cLine := by have := hr.un; omega
    refine ⟨_, pss_one (ps_for (passes_of rfl) rfl (pi_enumA (by rfl) Y.bEnumerate (pa_cons (pv 0) pa_nil)) (pg_tup rfl (pgs_cons (pg_name (i := 1) nd rfl (Or.inl rfl)) (pgs_cons (pg_tup rfl (pgs_cons (pg_name (i := 2) nd rfl (Or.inl rfl)) (pgs_cons (pg_name (i := 3) nd rfl (Or.inl rfl)) pgs_nil))) pgs_nil)))
      (pss_one (ps_if (pw_or (pt_cmpR op_notIn_seq (pv 3) (pe_tup (pa_cons pe_str (pa_cons pe_str pa_nil))) (by rfl)) (pw_or1 (pt_cmpR (op_inD hu65) (pe_tup (pa_cons (pv 2) (pa_cons (pv 3) pa_nil))) (pe_slice sl_list (pv 0) po_none (po_some (pv 1))) (by rfl)))).pt
        (pss_one (ps_raise rfl (takes_of rfl rfl rfl rfl) (pmk_ra (raBF Y) hr (by rfl) Y.gBadFrame (pa_cons (pv 2) pa_nil)))) pss_nil))), ?_⟩
    obtain ⟨t, ts, rfl, ht, hok, k⟩ := h
    obtain ⟨as, q, la, g⟩ := id ht
    rw [List.length_map] at la
    refine ⟨_, rfl, t, _, rfl, .inl q, fun J GG wk gk => ?_⟩
    refine for_it wk (fun i σ G => (∃ v1 v2 v3, σ = [some (.ref t), v1, v2, v3]) ∧ firstN (fun i => ts[i]?.bind fun q => if (q.2 ≠ ("on" : Str) ∧ q.2 ≠ ("back" : Str)) ∨ q ∈ ts.take i then some q.1 else none) i = none ∧ Same H G) ⟨⟨_, _, _, rfl⟩, rfl, Same.refl _⟩ (fun i σ G _ p => gk G p.2.2) ?_ ?_
    · rintro i v σ G G' hi ⟨⟨v1, v2, v3, rfl⟩, hF, sm⟩ ⟨T, x, y, rfl, hT, rfl, ex, ey⟩
      cases ex
      obtain ⟨b, eb, rfl⟩ := ref_at (show (as.map V.ref)[i]? = some y from ey)
      obtain ⟨vs, e1, hB⟩ := g i b eb
      obtain ⟨tt, e2, rfl⟩ := tt_at e1
      have li := (List.getElem?_eq_some_iff.mp e2).1
      have sT := same_upd (o := .tup [V.int (i : Int), V.ref b]) hT
      have smT := sm.trans sT
      refine ⟨T, _, rfl, SqT.of upd_same, rfl, _, _, rfl, _, _, rfl, ⟨b, _, rfl, sqt_same smT hB, rfl, _, _, rfl, _, _, rfl, rfl, rfl, ?_⟩⟩
      dsimp only
      change tIfS _ _ _ _ [some (.ref t), some (.int (i : Int)), some (.str tt.1), some (.str tt.2)] (upd G T (.tup [V.int (i : Int), V.ref b]))
      refine ⟨_, rfl, szl (by show 2 ≤ 1000; decide), fun T2 hT2 => ?_⟩
      have s2 := same_upd (o := .tup [V.str "on", V.str "back"]) hT2
      have smA := smT.trans s2
      refine ⟨T2, _, rfl, .inr (SqT.of upd_same), rfl, fl_strs ["on", "back"], _, rfl, ?_⟩
      rw [if_pos rfl, show inV (V.str tt.2) [V.str "on", V.str "back"] = decide (tt.2 ∈ (["on", "back"] : List Str)) from inV_strs tt.2 ["on", "back"]]
      refine ite2 (fun hc => ?_) (fun hc => ?_)
      · have no : tt.2 ∉ (["on", "back"] : List Str) := by simpa using hc
        have e : badF ts = some tt.1 := firstN_at hF (by
          show (ts[i]?.bind _) = _
          rw [e2]
          exact if_pos (.inl ⟨fun z => no (by rw [z]; exact List.mem_cons_self), fun z => no (by rw [z]; exact List.mem_cons_of_mem _ List.mem_cons_self)⟩)) li
        rw [e] at k
        refine iteT ?_
        exact ⟨_, rfl, (by show 1 ≤ 1000; decide), fun q hq => mkO_at (fun d H' s hd e => k d H' (smA.trans s) (none_of smA hd) e) q hq⟩
      · have yes : tt.2 ∈ (["on", "back"] : List Str) := Classical.byContradiction fun z => hc (by rw [decide_eq_false z]; rfl)
        have nw : ¬ (tt.2 ≠ ("on" : Str) ∧ tt.2 ≠ ("back" : Str)) := fun z => by
          rcases List.mem_cons.mp yes with y | y
          · exact z.1 y
          · exact z.2 (List.mem_singleton.mp y)
        refine ⟨_, rfl, _, rfl, szl (by show 2 ≤ 1000; decide), fun T3 hT3 => ?_⟩
        have s3 := same_upd (o := .tup [V.str tt.1, V.str tt.2]) hT3
        refine ⟨_, rfl, _, rfl, _, rfl, t, _, rfl, (smA.trans s3).seq q, fun p hp => ?_⟩
        rw [cutV_take, ← List.map_take]
        have s4 := same_upd (o := .lst ((as.take i).map V.ref)) hp
        have smB := smA.trans (s3.trans s4)
        refine ⟨prD tt, (ts.take i).map prD, .tup (sqt_same s4 (SqT.of upd_same)) (.cons (.str _) (.cons (.str _) .nil)), .lst (SqL.of upd_same) (dpa_prs (by rw [List.length_take, List.length_take, la]) fun j t2 e => ?_), shp_pr (hok tt (List.mem_of_getElem? e2)), shp_prs (fun x hx => hok x (List.mem_of_mem_take hx)), ?_⟩
        · have lj : j < i := by
            have := (List.getElem?_eq_some_iff.mp e).1
            rw [List.length_take] at this
            omega
          rw [List.getElem?_take_of_lt lj] at e
          obtain ⟨vs, f1, f2⟩ := g j t2 e
          obtain ⟨q2, f3, rfl⟩ := tt_at f1
          exact ⟨q2, by rw [List.getElem?_take_of_lt lj]; exact f3, sqt_same smB f2⟩
        · refine ⟨_, rfl, ?_⟩
          rw [any_pr]
          refine ite2 (fun hc2 => ?_) (fun hc2 => ?_)
          · have hm : tt ∈ ts.take i := of_decide_eq_true hc2
            have e : badF ts = some tt.1 := firstN_at hF (by
              show (ts[i]?.bind _) = _
              rw [e2]
              exact if_pos (.inr hm)) li
            rw [e] at k
            exact ⟨_, rfl, (by show 1 ≤ 1000; decide), fun q hq => mkO_at (fun d H' s hd e => k d H' (smB.trans s) (none_of smB hd) e) q hq⟩
          · have hm : tt ∉ ts.take i := fun z => hc2 (decide_eq_true z)
            exact ⟨⟨_, _, _, rfl⟩, firstN_step hF (by
              show (ts[i]?.bind _) = _
              rw [e2]
              exact if_neg (fun z => z.elim nw hm)), smB⟩
    · rintro σ G ⟨⟨v1, v2, v3, rfl⟩, hF, sm⟩
      rw [List.length_map, la] at hF
      have eb2 : badF ts = none := hF
      rw [eb2] at k
      exact k G sm
end
end K22

namespace K22
open PySem PySem.Spec PyProof.Rows L2 Ow Xv
/-! ### the step of a total -/
def stepOf (q : Lt) (t : Tt) : Tt := if t.2 = ("on" : Str) then (q.2.1, q.2.2) else (q.2.2, q.2.1)
abbrev NSO : List Str := ["ends", "total", "name", "word", "first", "second"]
theorem scSO : FnScope NSO ["ends", "total"] (defScope sStepOf) := ⟨rfl, rfl, rfl, by decide +kernel, rfl, by decide +kernel, by decide +kernel⟩
def spSO (K : PySem.W.Frag) : Sp := fun vs H Q _ => ∃ (m t p : Addr) (q : Lt) (tt : Tt), vs = [.ref m, .ref t] ∧ DGet H m (.str q.1) (some (.ref p)) ∧ SqT K H p (endV q) ∧ SqT K H t (ttV tt) ∧ tt.1 = q.1 ∧ ∀ (T : Addr) (H' : Hp), Same H H' → SqT K H' T (ttV (stepOf q tt)) → Q (.ref T) H'
section
variable {P : Program} {w : World} {K : PySem.W.Frag} {mg : Str → Option Value} {base : Heap} {f : Addr} {fd : FuncData}
theorem ok_so (F : FnP K "_step_of" sStepOf f fd) (Y : Fx w K mg) : FnOk P w K mg base CX0 1 f fd ["ends", "total"] (spSO K) := by
  refine okD F scSO (fun vs H Q E h => ?_) (fun cdv A outer s H vs Q E hr h => ?_)
  · obtain ⟨m, t, p, q, tt, rfl, _⟩ := h
    rfl
  · have nd := scSO.nd
    have hu := hu_of hr
    refine ⟨_, pss_cons (ps_asg (pv 1) (pg_tup rfl (pgs_cons (pg_name (i := 2) nd rfl (Or.inl rfl)) (pgs_cons (pg_name (i := 3) nd rfl (Or.inl rfl)) pgs_nil))))
      (pss_cons (ps_asg (pe_dget hu (pv 0) (pv 2) nosl) (pg_tup rfl (pgs_cons (pg_name (i := 4) nd rfl (Or.inl rfl)) (pgs_cons (pg_name (i := 5) nd rfl (Or.inl rfl)) pgs_nil))))
      (pss_one (ps_ret (pe_ifExp (pt_cmpR op_eq (pv 3) pe_str (nomark _)) (pe_tup (pa_cons (pv 4) (pa_cons (pv 5) pa_nil))) (pe_tup (pa_cons (pv 5) (pa_cons (pv 4) pa_nil))))))), ?_⟩
    obtain ⟨m, t, p, q, tt, rfl, hm, hp, ht, en, k⟩ := h
    refine ⟨_, rfl, t, _, rfl, ht, rfl, _, _, rfl, _, _, rfl, rfl, ?_⟩
    dsimp only
    change tSeq _ _ _ [some (.ref m), some (.ref t), some (.str tt.1), some (.str tt.2), none, none] H
    refine ⟨_, rfl, _, rfl, m, .ref p, rfl, by rw [en]; exact hm, p, _, rfl, hp, rfl, _, _, rfl, _, _, rfl, rfl, ?_⟩
    dsimp only
    change tRet _ _ [some (.ref m), some (.ref t), some (.str tt.1), some (.str tt.2), some (.str q.2.1), some (.str q.2.2)] H
    refine ⟨_, rfl, rfl, _, rfl, ite2 (fun hc => ?_) (fun hc => ?_)⟩
    · have e : tt.2 = ("on" : Str) := by
        have z : V.str tt.2 = V.str "on" := of_decide_eq_true hc
        injection z
      refine ⟨_, rfl, _, rfl, szl (by show 2 ≤ 1000; decide), fun T hT => k T _ (same_upd hT) ?_⟩
      rw [show stepOf q tt = (q.2.1, q.2.2) from if_pos e]
      exact SqT.of upd_same
    · have e : tt.2 ≠ ("on" : Str) := fun z => hc (by rw [z]; exact decide_eq_true rfl)
      refine ⟨_, rfl, _, rfl, szl (by show 2 ≤ 1000; decide), fun T hT => k T _ (same_upd hT) ?_⟩
      rw [show stepOf q tt = (q.2.2, q.2.1) from if_neg e]
      exact SqT.of upd_same
end
end K22

namespace K22
open PySem PySem.Spec PyProof.Rows L2 Ow Xv
/-! ### steps checked -/
def spXM (K : PySem.W.Frag) (C : Addr) (n : Str) : Sp := fun vs H Q _ => ∃ (a m : Addr) (zs : List V), vs = [.ref a, .ref m] ∧ H a = some (exo a C none) ∧ SqL K H m zs ∧ ∀ (T : Addr) (dx : Addr), H T = none → dx ≠ T → dx ≠ a → H dx = none → Q .non (upd (upd (upd H T (.tup zs)) dx (exd dx [(n, .ref T)])) a (exo a C (some dx)))
theorem mkO_mem {K : PySem.W.Frag} {C m : Addr} {n : Str} {zs : List V} {H : Hp} {Q : XK} (hm : SqL K H m zs) (k : ∀ (d T : Addr) (H' : Hp), Same H H' → H d = none → H' d = some (.xd [(n, .ref T)]) → SqT K H' T zs → Q (.ref C) (some d) H') (a : Addr) (ha : H a = none) :
    spXM K C n (.ref a :: ([.ref m] ++ [])) (upd H a (exo a C none)) (fun v H2 => v = .non ∧ ∃ (d : Addr) (fs : List (Str × V)), H2 a = some (exo a C (some d)) ∧ H2 d = some (exd d fs) ∧ H d = none ∧ Q (.ref C) (some d) (upd (del H2 a) d (.xd fs))) (fun _ _ _ => False) := by
  refine ⟨a, m, zs, rfl, upd_same, (same_upd ha).seq hm, fun T dx hT n1 n2 hd => ?_⟩
  have nTa : T ≠ a := fun e => by rw [e, upd_same] at hT; cases hT
  have hd1 : H dx = none := (upd_ne n2).symm.trans hd
  have hT1 : H T = none := (upd_ne nTa).symm.trans hT
  refine ⟨rfl, dx, _, upd_same, (upd_ne n2).trans upd_same, hd1, k dx T _ (fun b o eb => ?_) hd1 upd_same ?_⟩
  · have m1 := ne_of_none eb ha
    have m2 := ne_of_none eb hd1
    have m3 := ne_of_none eb hT1
    rw [upd_ne m2, del_ne m1, upd_ne m1, upd_ne m2, upd_ne m3, upd_ne m1]
    exact eb
  · refine SqT.of ?_
    rw [upd_ne n1.symm, del_ne nTa, upd_ne nTa, upd_ne n1.symm, upd_same]
def lead (S : List Tt) (l : List Str) : List Str := l.filter fun x => l.any fun y => decide ((x, y) ∈ S)
def leadN (S : List Tt) : Nat → List Str → List Str
  | 0, l => l
  | n + 1, l => lead S (leadN S n l)
theorem lead_len (S : List Tt) (l : List Str) : (lead S l).length ≤ l.length := List.length_filter_le _ _
theorem lead_fix {S : List Tt} {l : List Str} (h : lead S l ≠ l) : (lead S l).length < l.length := by
  refine Nat.lt_of_le_of_ne (lead_len S l) fun e => h ?_
  unfold lead at e ⊢
  exact List.filter_eq_self.mpr (List.length_filter_eq_length_iff.mp e)
theorem leadN_fix {S : List Tt} {xs : List Str} {k : Nat} (h : lead S (leadN S k xs) = leadN S k xs) : ∀ m, k ≤ m → leadN S m xs = leadN S k xs := by
  intro m hm
  induction m with
  | zero => rw [show k = 0 by omega]
  | succ m ih =>
    by_cases e : k = m + 1
    · rw [e]
    · show lead S (leadN S m xs) = _
      rw [ih (by omega), h]
/-- what is left of the sorts -/
def rnd (S : List Tt) (xs : List Str) : List Str := leadN S xs.length xs
theorem rnd_at {S : List Tt} {xs : List Str} {k : Nat} (h : lead S (leadN S k xs) = leadN S k xs) (l : k ≤ xs.length) : rnd S xs = leadN S k xs := leadN_fix h _ l
section
variable {P : Program} {w : World} {K : PySem.W.Frag} {mg : Str → Option Value} {base : Heap} {f : Addr} {fd : FuncData}
theorem raCR (Y : Fx w K mg) : RaC P w K mg base (CComesRound K) ["self", "members"] (spXM K (CComesRound K) "members") := by
  obtain ⟨fd, F⟩ := Y.dComesRound_Init
  have b := FunD.bindsN (ps := ["self", "members"]) F fun _ _ _ _ _ _ us hl => match us, hl with | [_, _], _ => rfl
  refine ⟨⟨_, _, _, _, _, fd, PySem.F.excBase_ValueError, Y.xCR.q, Y.xCR.iC, Y.xCR.tI, ?_, b⟩, Y.xCR.ec.kp, Y.xCR.ec.be, Y.xCR.ty⟩
  refine okD F scXN5 (fun vs H Q E h => ?_) (fun cdv A outer s H vs Q E hr h => ?_)
  · obtain ⟨a, m, zs, rfl, _⟩ := h
    rfl
  · refine ⟨_, pss_one (ps_st (C := CComesRound K) PySem.F.store_ValueError Y.xCR.ec Y.xCR.ov Y.xCR.tk (pv 0) (pe_callTy call_tuple_of (by rfl) Y.bTuple (by decide +kernel) (pa_cons (pv 1) pa_nil))), ?_⟩
    obtain ⟨a, m, zs, rfl, ha, hm, k⟩ := h
    refine ⟨_, rfl, m, zs, rfl, .inl ⟨hm, fun T hT => ?_⟩⟩
    have nTa : a ≠ T := ne_of_none ha hT
    refine ⟨_, rfl, a, rfl, .inl ⟨(upd_ne nTa).trans ha, fun dx h1 h2 => ?_⟩⟩
    have nT : dx ≠ T := fun e => by rw [e, upd_same] at h1; cases h1
    exact k T dx hT nT h2 ((upd_ne nT).symm.trans h1)
end
end K22

namespace K22
open PySem PySem.Spec PyProof.Rows L2 Ow Xv
theorem prs_get {K : PySem.W.Frag} {H : Hp} {t : Addr} {S : List Tt} (h : TupsAt K H t (S.map ttV)) : ∃ as : List Addr, SqL K H t (as.map V.ref) ∧ DpAll K H (as.map V.ref) (S.map prD) := by
  obtain ⟨as, q, la, g⟩ := h
  rw [List.length_map] at la
  exact ⟨as, q, dpa_prs la fun i t e => let ⟨vs, e1, e2⟩ := g i t e; let ⟨q2, e3, e4⟩ := tt_at e1; ⟨q2, e3, e4 ▸ e2⟩⟩
/-- those from which a step leads to one of them -/
theorem lead_evG {K : PySem.W.Frag} {t L : Addr} {S : List Tt} {xs : List Str} {v0 v3 : Option V} {G : Hp} {Q : VK} (ht : TupsAt K G t (S.map ttV)) (hS : ∀ q ∈ S, Okx q.1 ∧ Okx q.2) (hL : SqL K G L (xs.map V.str)) (hx : ∀ x ∈ xs, Okx x) (lx : xs.length < 64) (k : ∀ D G', G D = none → Same G G' → G' D = some (.lst ((lead S xs).map V.str)) → Q (.ref D) G') :
    tLc (iList K (tVar 2)) (gName 4) (ttAny K) (tVar 4) [4] [v0, some (.ref t), some (.ref L), v3, none, none] G Q := by
  refine ⟨_, rfl, L, rfl, ⟨_, hL⟩, fun D hD => ?_⟩
  refine lc_list (K := K) (a := L) (xs := xs.map V.str) (fun i G' => G' D = some (.lst (((xs.take i).filter fun x => xs.any fun y => decide ((x, y) ∈ S)).map V.str)) ∧ Same G G') ⟨upd_same, same_upd hD⟩ (fun i G' _ p => p.2.seq hL) ?_ ?_
  · rintro i v G' hi ⟨e, s1⟩
    obtain ⟨x, ex, rfl⟩ := str_at hi
    have hxx := hx x (List.mem_of_getElem? ex)
    have li := (List.getElem?_eq_some_iff.mp ex).1
    refine ⟨rfl, ?_⟩
    show tB (tCB (rAny K) (tCons (tLc (iList K (tVar 2)) (gName 5) tYes (teIn K) [5]) tNil)) _ _ _
    refine ⟨_, rfl, L, rfl, ⟨_, s1.seq hL⟩, fun D2 hD2 => ?_⟩
    refine lc_list (K := K) (a := L) (xs := xs.map V.str) (fun j G2 => G2 D2 = some (.lst (((xs.take j).map fun y => decide ((x, y) ∈ S)).map V.bl)) ∧ Same G' G2) ⟨upd_same, same_upd hD2⟩ (fun j G2 _ p => p.2.seq (s1.seq hL)) ?_ ?_
    · rintro j v G2 hj ⟨e2, s2⟩
      obtain ⟨y, ey, rfl⟩ := str_at hj
      have hy := hx y (List.mem_of_getElem? ey)
      have lj := (List.getElem?_eq_some_iff.mp ey).1
      refine ⟨rfl, ?_⟩
      refine ⟨_, rfl, _, rfl, szl (by show 2 ≤ 1000; decide), fun T hT => ?_⟩
      have sT := same_upd (o := .tup [V.str x, V.str y]) hT
      obtain ⟨as, q, da⟩ := prs_get (ht.same (s1.trans (s2.trans sT)))
      refine ⟨_, rfl, prD (x, y), S.map prD, .tup (SqT.of upd_same) (.cons (.str _) (.cons (.str _) .nil)), .lst q da, shp_pr ⟨hxx, hy⟩, shp_prs hS, ?_⟩
      rw [any_pr]
      refine ⟨_, sT _ _ e2, ?_, ?_, same_put hD2 (s2.trans sT)⟩
      · rw [List.length_map, List.length_map, List.length_take]
        exact small1000 (by omega)
      · rw [upd_same, List.take_add_one, ey, List.map_append, List.map_append]
        rfl
    · rintro G2 ⟨e2, s2⟩
      rw [List.length_map, List.take_length] at e2
      refine ⟨D2, _, rfl, SqL.of e2, _, rfl, ?_⟩
      rw [List.any_map]
      have tk : (xs.take (i + 1)).filter (fun x => xs.any fun y => decide ((x, y) ∈ S)) = (xs.take i).filter (fun x => xs.any fun y => decide ((x, y) ∈ S)) ++ if (xs.any fun y => decide ((x, y) ∈ S)) = true then [x] else [] := by
        rw [List.take_add_one, ex, List.filter_append]
        congr 1
        show List.filter _ [x] = _
        rw [List.filter_cons, List.filter_nil]
      refine ite2 (fun hc => ?_) (fun hc => ?_)
      · have hc2 : (xs.any fun y => decide ((x, y) ∈ S)) = true := hc
        rw [if_pos hc2] at tk
        refine ⟨_, rfl, _, s2 _ _ e, ?_, ?_, same_put hD (s1.trans s2)⟩
        · rw [List.length_map]
          have := List.length_filter_le (fun x => xs.any fun y => decide ((x, y) ∈ S)) (xs.take i)
          rw [List.length_take] at this
          exact small1000 (by omega)
        · rw [upd_same, tk, List.map_append]
          rfl
      · have hc2 : ¬ (xs.any fun y => decide ((x, y) ∈ S)) = true := hc
        rw [if_neg hc2, List.append_nil] at tk
        refine ⟨?_, s1.trans s2⟩
        rw [tk]
        exact s2 _ _ e
  · rintro G' ⟨e, s1⟩
    rw [List.length_map, List.take_length] at e
    exact k D G' hD s1 e
theorem lead_stG {K : PySem.W.Frag} {t L : Addr} {S : List Tt} {xs : List Str} {v0 v3 : Option V} {G : Hp} {u : TS} {E : Ends} (ht : TupsAt K G t (S.map ttV)) (hS : ∀ q ∈ S, Okx q.1 ∧ Okx q.2) (hL : SqL K G L (xs.map V.str)) (hx : ∀ x ∈ xs, Okx x) (lx : xs.length < 64) (k : ∀ D G', G D = none → Same G G' → G' D = some (.lst ((lead S xs).map V.str)) → u E [v0, some (.ref t), some (.ref L), some (.ref D), none, none] G') :
    tSeq (tAsg (tLc (iList K (tVar 2)) (gName 4) (ttAny K) (tVar 4) (List.map (fun x => x.snd) [(("x" : Str), 4)])) (gName 3)) u E [v0, some (.ref t), some (.ref L), v3, none, none] G :=
  lead_evG (Q := fun v G' => gName 3 v [v0, some (.ref t), some (.ref L), v3, none, none] G' (u E)) ht hS hL hx lx k
theorem lay_okx : ∀ {xs : List Str}, (∀ x ∈ xs, Okx x) → PyData.canLayAll0 (xs.map PyData.str) = true
  | [], _ => by simp [PyData.canLayAll0]
  | x :: xs, h => by simp [PyData.canLayAll0, PyData.canLay0, (h x List.mem_cons_self).o, lay_okx fun y hy => h y (List.mem_cons_of_mem _ hy)]
theorem shp_okx {xs : List Str} (h : ∀ x ∈ xs, Okx x) : SeqAt.shaped (.list (xs.map PyData.str)) = true := shp_of (by simpa [PyData.canLay0] using lay_okx h) (by simp only [PyData.depth, dep_strs]; omega)
theorem eqv_lstrs (xs ys : List Str) : PyData.eqv (.list (xs.map PyData.str)) (.list (ys.map PyData.str)) = decide (xs = ys) := by
  have e := eqv_strs xs ys
  simp only [PyData.eqv] at e ⊢
  exact e
theorem lead_ok {S : List Tt} {xs : List Str} (h : ∀ x ∈ xs, Okx x) : ∀ x ∈ lead S xs, Okx x := fun x hx => h x (List.mem_filter.mp hx).1
def spCS2 (K : PySem.W.Frag) : Sp := fun vs H Q E => ∃ (s t : Addr) (xs : List Str) (S : List Tt), vs = [.ref s, .ref t] ∧ SqA K H s (xs.map V.str) ∧ (∀ x ∈ xs, Okx x) ∧ xs.length < 64 ∧ TupsAt K H t (S.map ttV) ∧ (∀ q ∈ S, Okx q.1 ∧ Okx q.2) ∧
  (rnd S xs ≠ [] → ∀ (d T : Addr) (H' : Hp), Same H H' → H d = none → H' d = some (.xd [("members", .ref T)]) → SqT K H' T ((rnd S xs).map V.str) → E (.ref (CComesRound K)) (some d) H') ∧ (rnd S xs = [] → ∀ H', Same H H' → Q .non H')
section
variable {P : Program} {w : World} {K : PySem.W.Frag} {mg : Str → Option Value} {base : Heap} {f : Addr} {fd : FuncData}
theorem ok_cs2 (F : FnP K "_check_steps" sCheckSteps f fd) (Y : Fx w K mg) : FnOk P w K mg base (L2.CX P w) 3 f fd ["sorts", "steps"] (spCS2 K) := by
  refine F.ok scCS (fun vs H Q E h => ?_) (fun cdv A outer s H vs Q E hr h => ?_)
  · obtain ⟨a, t, xs, S, rfl, _⟩ := h
    rfl
  · have nd := scCS.nd
    have hu65 : (A.deeper (envOfC "_check_steps" (defScope sCheckSteps) s.heap.objs.size f cdv)).units + 65 < cLine := by have := hr.un; omega
    have hu64 := hu64_of hr
    refine ⟨_, pss_cons (ps_set (i := 2) nd rfl (Or.inr rfl) (pe_callTy call_list_of (by rfl) Y.bList boot_list (pa_cons (pv 0) pa_nil)))
      (pss_cons (ps_setLc (i := 3) (own := [("x", 4)]) (g := gName 4) (tt := ttAny K) (te := tVar 4) rfl nd rfl rfl (by rfl) (pi_list (pv 2)) (blkOk_by (N := NCS) (sc := defScope sCheckSteps) (by decide +kernel)) (fun _ _ _ _ _ => pg_name (i := 4) nd rfl (Or.inr rfl))
          (fun _ _ _ _ _ => pts_one (pt_val (pe_callB (cr_any rfl) (by rfl) Y.bAny (by decide +kernel) (pa_cons (pe_lc (own := [("y", 5)]) (g := gName 5) (tt := tYes) (te := teIn K) rfl nd (pi_list (pv 2)) (blkOk_by (N := NCS) (sc := scCSx) (by decide +kernel)) (fun _ _ _ _ _ => pg_name (i := 5) nd rfl (Or.inl rfl)) (fun _ _ _ _ _ => pts_nil)
            (fun _ _ _ _ _ => pe_cmpR (op_inD hu65) (pe_tup (pa_cons (pv 4) (pa_cons (pv 5) pa_nil))) (pv 1) (by rfl))) pa_nil))))
          (fun _ _ _ _ _ => pv 4))
      (pss_cons (ps_while (passes_of rfl) (pt_cmpR (op_neD hu64) (pv 3) (pv 2) (nomark _))
        (pss_cons (ps_set (i := 2) nd rfl (Or.inr rfl) (pv 3))
        (pss_cons (ps_setLc (i := 3) (own := [("x", 4)]) (g := gName 4) (tt := ttAny K) (te := tVar 4) rfl nd rfl rfl (by rfl) (pi_list (pv 2)) (blkOk_by (N := NCS) (sc := defScope sCheckSteps) (by decide +kernel)) (fun _ _ _ _ _ => pg_name (i := 4) nd rfl (Or.inr rfl))
          (fun _ _ _ _ _ => pts_one (pt_val (pe_callB (cr_any rfl) (by rfl) Y.bAny (by decide +kernel) (pa_cons (pe_lc (own := [("y", 5)]) (g := gName 5) (tt := tYes) (te := teIn K) rfl nd (pi_list (pv 2)) (blkOk_by (N := NCS) (sc := scCSx) (by decide +kernel)) (fun _ _ _ _ _ => pg_name (i := 5) nd rfl (Or.inl rfl)) (fun _ _ _ _ _ => pts_nil)
            (fun _ _ _ _ _ => pe_cmpR (op_inD hu65) (pe_tup (pa_cons (pv 4) (pa_cons (pv 5) pa_nil))) (pv 1) (by rfl))) pa_nil))))
          (fun _ _ _ _ _ => pv 4)) pss_nil)))
      (pss_one (ps_if (pt_truth (pv 2) (by intro _; rfl)) (pss_one (ps_raise rfl (takes_of rfl rfl rfl rfl) (pmk_ra (raCR Y) hr (by rfl) Y.gComesRound (pa_cons (pv 2) pa_nil)))) pss_nil)))), ?_⟩
    obtain ⟨a, t, xs, S, rfl, hs, hx, lx, ht, hS, kE, kQ⟩ := h
    refine ⟨_, rfl, a, _, rfl, hs, fun L hL0 => ?_⟩
    have s0 := same_upd (o := .lst (xs.map V.str)) hL0
    have eL : upd H L (.lst (xs.map V.str)) L = some (.lst (xs.map V.str)) := upd_same
    change tSeq _ _ _ _ (upd H L (.lst (xs.map V.str)))
    refine lead_stG (xs := xs) (ht.same s0) hS (SqL.of eL) hx lx fun D G1 hD s1 eD => ?_
    have eL1 := s1 _ _ eL
    change tSeq (tWhile _ _) _ _ _ _
    refine while_by (fun σ G' => ∃ (L D : Addr) (n : Nat), σ = [some (.ref a), some (.ref t), some (.ref L), some (.ref D), none, none] ∧ G' L = some (.lst ((leadN S n xs).map V.str)) ∧ G' D = some (.lst ((lead S (leadN S n xs)).map V.str)) ∧ (∀ x ∈ leadN S n xs, Okx x) ∧ (leadN S n xs).length + n ≤ xs.length ∧ Same H G')
      (fun σ G' => match σ[2]? with
        | some (some (V.ref b)) => (match G' b with
          | some (.lst zs) => zs.length
          | _ => 0)
        | _ => 0) ⟨L, D, 0, rfl, eL1, eD, hx, Nat.le_refl _, s0.trans s1⟩ ?_ ?_
    · rintro σ G' ⟨L, D, n, rfl, hL, hD, hn, ln, sm⟩
      refine ⟨_, rfl, _, rfl, .list ((lead S (leadN S n xs)).map PyData.str), .list ((leadN S n xs).map PyData.str), .lst (SqL.of hD) (dpa_strs _), .lst (SqL.of hL) (dpa_strs _), shp_okx (lead_ok hn), shp_okx hn, ?_⟩
      rw [eqv_lstrs]
      by_cases fx : lead S (leadN S n xs) = leadN S n xs
      · refine ⟨false, by rw [decide_eq_true fx]; rfl, iteF ?_⟩
        have er := rnd_at fx (by omega)
        refine ⟨_, rfl, !(leadN S n xs).isEmpty, .inl ⟨_, SqL.of hL, by simp⟩, ?_⟩
        by_cases em : leadN S n xs = []
        · rw [em]
          refine iteF ?_
          exact kQ (er.trans em) G' sm
        · have ne : (!(leadN S n xs).isEmpty) = true := by simpa using em
          rw [ne]
          refine iteT ?_
          refine ⟨_, rfl, (by show 1 ≤ 1000; decide), fun q hq => mkO_mem (SqL.of hL) (fun d T H' s hd e hT => kE (by rw [er]; exact em) d T H' (sm.trans s) (none_of sm hd) e (by rw [er]; exact hT)) q hq⟩
      · refine ⟨true, by rw [decide_eq_false fx]; rfl, iteT ?_⟩
        refine ⟨_, rfl, ?_⟩
        change tSeq _ _ _ _ _
        have lt := lead_fix fx
        refine lead_stG (xs := lead S (leadN S n xs)) (ht.same sm) hS (SqL.of hD) (lead_ok hn) (by omega) fun D2 G2 hD2 s2 e2 => ?_
        refine ⟨⟨D, D2, n + 1, rfl, s2 _ _ hD, e2, lead_ok hn, by show (lead S (leadN S n xs)).length + (n + 1) ≤ _; omega, sm.trans s2⟩, ?_⟩
        show (match G2 D with
          | some (HO.lst zs) => zs.length
          | _ => 0) < (match G' L with
          | some (HO.lst zs) => zs.length
          | _ => 0)
        rw [s2 _ _ hD, hL]
        dsimp only
        rw [List.length_map, List.length_map]
        exact lt
    · rintro σ G' Q1 Q2 hq ⟨v, e1, u, e2, d, e, h1, h2, h3, h4, kk, e3, z⟩
      exact ⟨v, e1, u, e2, d, e, h1, h2, h3, h4, kk, e3, hq _ _ z⟩
end
end K22

namespace K22
open PySem PySem.Spec PyProof.Rows L2 Ow Xv
/-! ### a frame made, or the error that is due -/
section
variable {K : PySem.W.Frag} {x : Addr} {H H' : Hp}
theorem Keep.sqa {a : Addr} {xs : List V} (k : Keep x H H') (hx : ∃ u, H x = some u ∧ isIns u = true) (h : SqA K H a xs) : SqA K H' a xs := h.elim (fun h => .inl (k.sql hx h)) fun h => .inr (k.sqt hx h)
theorem Keep.tupsA {l : Addr} {vss : List (List V)} (k : Keep x H H') (hx : ∃ u, H x = some u ∧ isIns u = true) (h : TupsA K H l vss) : TupsA K H' l vss := by
  obtain ⟨as, q, e, g⟩ := h
  refine ⟨as, k.sqa hx q, e, fun i t z => ?_⟩
  obtain ⟨vs, e1, e2⟩ := g i t z
  exact ⟨vs, e1, k.sqt hx e2⟩
theorem Keep.ld {m : Addr} {ls : List Lt} (k : Keep x H H') (hx : ∃ u, H x = some u ∧ isIns u = true) (h : LdAt K H m ls) : LdAt K H' m ls := by
  obtain ⟨as, e, l, g⟩ := h
  refine ⟨as, k.one hx e rfl, l, fun i t z => ?_⟩
  obtain ⟨q, e1, e2⟩ := g i t z
  exact ⟨q, e1, k.sqt hx e2⟩
/-- a tuple of tuples -/
def TupsT (K : PySem.W.Frag) (H : Hp) (l : Addr) (vss : List (List V)) : Prop := ∃ as : List Addr, SqT K H l (as.map V.ref) ∧ AllT K H as vss
theorem TupsT.same {l : Addr} {vss : List (List V)} (s : Same H H') (h : TupsT K H l vss) : TupsT K H' l vss := by
  obtain ⟨as, a, b⟩ := h
  exact ⟨as, sqt_same s a, b.same s⟩
theorem TupsT.tups {l : Addr} {vss : List (List V)} (h : TupsT K H l vss) : TupsA K H l vss := by
  obtain ⟨as, a, b⟩ := h
  exact ⟨as, .inr a, b.1, b.2⟩
theorem Keep.allT {us : List Addr} {vss : List (List V)} (k : Keep x H H') (hx : ∃ u, H x = some u ∧ isIns u = true) (h : AllT K H us vss) : AllT K H' us vss := ⟨h.1, fun i t z => let ⟨vs, a, b⟩ := h.2 i t z; ⟨vs, a, k.sqt hx b⟩⟩
theorem Keep.tupsT {l : Addr} {vss : List (List V)} (k : Keep x H H') (hx : ∃ u, H x = some u ∧ isIns u = true) (h : TupsT K H l vss) : TupsT K H' l vss := by
  obtain ⟨as, a, b⟩ := h
  exact ⟨as, k.sqt hx a, k.allT hx b⟩
theorem tup_any {a : Addr} {xs : List V} {Q : VK} (h : SqA K H a xs) (k : ∀ (T : Addr) (H' : Hp), Same H H' → SqT K H' T xs → Q (.ref T) H') :
    ∃ p ys, [V.ref a] = [.ref p] ∧ ((SqL K H p ys ∧ ∀ l, H l = none → Q (.ref l) (upd H l (.tup ys))) ∨ (SqT K H p ys ∧ Q (.ref p) H)) :=
  ⟨a, xs, rfl, h.elim (fun h => .inl ⟨h, fun p hp => k p _ (same_upd hp) (SqT.of upd_same)⟩) (fun h => .inr ⟨h, k a H (Same.refl _) h⟩)⟩
end
theorem call_tupA {X : Cx} : CallR X (.type "tuple") (fun xs H Q => ∃ a ys, xs = [.ref a] ∧ SqA X.K H a ys ∧ ∀ T H', Same H H' → SqT X.K H' T ys → Q (.ref T) H') := by
  intro pins s σ H xs us Q I r h
  obtain ⟨a, ys, rfl, hs, k⟩ := h
  exact call_tuple_of pins s σ H _ us Q I r (tup_any hs k)
/-- at x stands the frame of these -/
def FrmAt (K : PySem.W.Frag) (H : Hp) (x : Addr) (xs : List Str) (ls : List Lt) (ts : List Tt) : Prop := ∃ dx s l t m : Addr,
  H x = some (.ins (CFrame K) dx [("_sorts", .ref s), ("_letters", .ref l), ("_totals", .ref t), ("_ends", .ref m)]) ∧ SqT K H s (xs.map V.str) ∧ TupsT K H l (ls.map ltV) ∧ TupsT K H t (ts.map ttV) ∧ LdAt K H m ls
theorem FrmAt.same {K : PySem.W.Frag} {H H' : Hp} {x : Addr} {xs : List Str} {ls : List Lt} {ts : List Tt} (s : Same H H') (h : FrmAt K H x xs ls ts) : FrmAt K H' x xs ls ts := by
  obtain ⟨dx, a, l, t, m, h1, h2, h3, h4, h5⟩ := h
  exact ⟨dx, a, l, t, m, s _ _ h1, sqt_same s h2, h3.same s, h4.same s, h5.same s⟩
inductive Flt where
  | nm (x : Str)
  | tw (x : Str)
  | un (x : Str)
  | fr (x : Str)
  | rd (zs : List Str)
def endOf (ls : List Lt) (n : Str) : Lt := (ls.find? fun q => decide (q.1 = n)).getD ("", "", "")
def stepsOf (ls : List Lt) (ts : List Tt) : List Tt := ts.map fun t => stepOf (endOf ls t.1) t
theorem endOf_ok {ls : List Lt} {n : Str} (h : n ∈ ls.map (·.1)) : endOf ls n ∈ ls ∧ (endOf ls n).1 = n := by
  obtain ⟨q, hq, e⟩ := List.mem_map.mp h
  unfold endOf
  cases z : ls.find? fun q => decide (q.1 = n) with
  | none =>
    have := List.find?_eq_none.mp z q hq
    exact absurd (decide_eq_true e) this
  | some p =>
    have z2 := List.find?_some z
    exact ⟨List.mem_of_find?_eq_some z, of_decide_eq_true z2⟩
/-- the error that is due -/
def dueF (xs : List Str) (ls : List Lt) (ts : List Tt) : Option Flt :=
  match badN (xs ++ ls.map (·.1)) with
  | some x => some (.nm x)
  | none => match again xs with
    | some x => some (.tw x)
    | none => match again (ls.map (·.1)) with
      | some x => some (.tw x)
      | none => match badE xs ls with
        | some x => some (.un x)
        | none => match badT (ls.map (·.1)) ts with
          | some x => some (.un x)
          | none => match badF ts with
            | some x => some (.fr x)
            | none => if rnd (stepsOf ls ts) xs = [] then none else some (.rd (rnd (stepsOf ls ts) xs))
/-- what is told of the error -/
def RaisedF (K : PySem.W.Frag) (H : Hp) (E : XK) : Flt → Prop
  | .nm x => ∀ (d : Addr) (H' : Hp), Same H H' → H d = none → H' d = some (.xd [("name", .str x)]) → E (.ref (CBadName K)) (some d) H'
  | .tw x => ∀ (d : Addr) (H' : Hp), Same H H' → H d = none → H' d = some (.xd [("name", .str x)]) → E (.ref (CTwiceTold K)) (some d) H'
  | .un x => ∀ (d : Addr) (H' : Hp), Same H H' → H d = none → H' d = some (.xd [("name", .str x)]) → E (.ref (CUnknownName K)) (some d) H'
  | .fr x => ∀ (d : Addr) (H' : Hp), Same H H' → H d = none → H' d = some (.xd [("name", .str x)]) → E (.ref (CBadFrame K)) (some d) H'
  | .rd zs => ∀ (d T : Addr) (H' : Hp), Same H H' → H d = none → H' d = some (.xd [("members", .ref T)]) → SqT K H' T (zs.map V.str) → E (.ref (CComesRound K)) (some d) H'
/-- lists that a frame may be asked of -/
structure FrIn (xs : List Str) (ls : List Lt) (ts : List Tt) : Prop where
  ox : ∀ x ∈ xs, Okx x
  ol : ∀ q ∈ ls, Okx q.1 ∧ Okx q.2.1 ∧ Okx q.2.2
  ot : ∀ q ∈ ts, Okx q.1 ∧ Okx q.2
  lx : xs.length ≤ 60
  ll : ls.length ≤ 60
  lt : ts.length ≤ 60
theorem ok_stepOf {q : Lt} {t : Tt} (h : Okx q.1 ∧ Okx q.2.1 ∧ Okx q.2.2) : Okx (stepOf q t).1 ∧ Okx (stepOf q t).2 := by
  unfold stepOf
  by_cases e : t.2 = ("on" : Str)
  · rw [if_pos e]
    exact ⟨h.2.1, h.2.2⟩
  · rw [if_neg e]
    exact ⟨h.2.2, h.2.1⟩
def spFI2 (K : PySem.W.Frag) : Sp := fun vs H Q E => ∃ (x s l t dx : Addr) (xs : List Str) (ls : List Lt) (ts : List Tt), vs = [.ref x, .ref s, .ref l, .ref t] ∧ H x = some (.ins (CFrame K) dx []) ∧ SqA K H s (xs.map V.str) ∧ TupsA K H l (ls.map ltV) ∧ TupsA K H t (ts.map ttV) ∧ FrIn xs ls ts ∧
  (∀ f, dueF xs ls ts = some f → RaisedF K H E f) ∧ (dueF xs ls ts = none → ∀ H', Keep x H H' → FrmAt K H' x xs ls ts → Q .non H')
section
variable {P : Program} {w : World} {K : PySem.W.Frag} {mg : Str → Option Value} {base : Heap} {f : Addr} {fd : FuncData}
theorem ok_fi2 (F : FnM K "__init__" "Frame.__init__" sFrame_Init f fd) (Y : Fx w K mg) : FnOk P w K mg base (L2.CX P w) 4 f fd ["self", "sorts", "letters", "totals"] (spFI2 K) := by
  obtain ⟨d1, F1⟩ := Y.dCheckNames
  obtain ⟨d2, F2⟩ := Y.dCheckEnds
  obtain ⟨d3, F3⟩ := Y.dCheckTotals
  obtain ⟨d4, F4⟩ := Y.dCheckSteps
  obtain ⟨d5, F5⟩ := Y.dStepOf
  have b1 := FunD.bindsN (ps := ["lists"]) F1 fun _ _ _ _ _ _ us hl => match us, hl with | [_], _ => rfl
  have b2 := FunD.bindsN (ps := ["sorts", "letters", "totals"]) F2 fun _ _ _ _ _ _ us hl => match us, hl with | [_, _, _], _ => rfl
  have b3 := FunD.bindsN (ps := ["totals"]) F3 fun _ _ _ _ _ _ us hl => match us, hl with | [_], _ => rfl
  have b4 := FunD.bindsN (ps := ["sorts", "steps"]) F4 fun _ _ _ _ _ _ us hl => match us, hl with | [_, _], _ => rfl
  have b5 := FunD.bindsN (ps := ["ends", "total"]) F5 fun _ _ _ _ _ _ us hl => match us, hl with | [_, _], _ => rfl
  have G1 : FnOk P w K mg base (L2.CX P w) 3 _ d1 ["lists"] (spCk K) := ok_ck F1 Y
  have G2 : FnOk P w K mg base (L2.CX P w) 3 _ d2 ["sorts", "letters", "totals"] (spCE2 K) := ok_ce2 F2 Y
  have G3 : FnOk P w K mg base (L2.CX P w) 3 _ d3 ["totals"] (spCT2 K) := ok_ct2 F3 Y
  have G4 : FnOk P w K mg base (L2.CX P w) 3 _ d4 ["sorts", "steps"] (spCS2 K) := ok_cs2 F4 Y
  have G5 : FnOk P w K mg base CX0 1 _ d5 ["ends", "total"] (spSO K) := ok_so F5 Y
  refine F.ok scFI (fun vs H Q E h => ?_) (fun cdv A outer s H vs Q E hr h => ?_)
  · obtain ⟨x, a, l, t, dx, xs, ls, ts, rfl, _⟩ := h
    rfl
  · have nd := scFI.nd
    have hr1 : Room 1 _ := hr.mono (by decide)
    refine ⟨_, pss_cons (ps_expr (pe_callS G1 hr (by rfl) Y.gCheckNames F1.kp b1 (fun σ => passAt (takes_of rfl rfl rfl rfl) σ) (pa_cons (pe_lst (pa_cons (pv 1) (pa_cons
          (pe_lc (own := [("letter", 6)]) (g := gName 6) (tt := tYes) (te := tOp (rIxT K) (tVar 6) (tC (.int 0))) rfl nd (pi_seqA (pv 2)) (blkOk_by (N := NFI) (sc := defScope sFrame_Init) (by decide +kernel)) (fun _ _ _ _ _ => pg_name (i := 6) nd rfl (Or.inl rfl)) (fun _ _ _ _ _ => pts_nil) (fun _ _ _ _ _ => pe_ix ix_tup (pv 6) pe_int (fun _ _ => rfl))) pa_nil))) pa_nil)))
      (pss_cons (ps_expr (pe_callS G2 hr (by rfl) Y.gCheckEnds F2.kp b2 (fun σ => passAt (takes_of rfl rfl rfl rfl) σ) (pa_cons (pv 1) (pa_cons (pv 2) (pa_cons (pv 3) pa_nil)))))
      (pss_cons (ps_setLc (i := 4) (own := [("name", 7), ("word", 8)]) (g := gTup K 2 (gCons (gName 7) (gCons (gName 8) gNil))) (tt := tYes) (te := tTup (tCons (tVar 7) (tCons (tVar 8) tNil))) rfl nd rfl rfl (by rfl) (pi_seqA (pv 3)) (blkOk_by (N := NFI) (sc := defScope sFrame_Init) (by decide +kernel)) (fun _ _ _ _ _ => pg_tup rfl (pgs_cons (pg_name (i := 7) nd rfl (Or.inl rfl)) (pgs_cons (pg_name (i := 8) nd rfl (Or.inl rfl)) pgs_nil))) (fun _ _ _ _ _ => pts_nil) (fun _ _ _ _ _ => pe_tup (pa_cons (pv 7) (pa_cons (pv 8) pa_nil))))
      (pss_cons (ps_expr (pe_callS G3 hr (by rfl) Y.gCheckTotals F3.kp b3 (fun σ => passAt (takes_of rfl rfl rfl rfl) σ) (pa_cons (pv 4) pa_nil)))
      (pss_cons (ps_set (i := 5) nd rfl (Or.inr rfl) (pe_dc (own := [("name", 7), ("first", 9), ("second", 10)]) (g := gTup K 3 (gCons (gName 7) (gCons (gName 9) (gCons (gName 10) gNil)))) (tt := tYes) (tk := tVar 7) (tv := tTup (tCons (tVar 9) (tCons (tVar 10) tNil))) rfl nd (pi_seqA (pv 2)) (blkOk_by (N := NFI) (sc := defScope sFrame_Init) (by decide +kernel))
          (fun _ _ _ _ _ => pg_tup rfl (pgs_cons (pg_name (i := 7) nd rfl (Or.inl rfl)) (pgs_cons (pg_name (i := 9) nd rfl (Or.inl rfl)) (pgs_cons (pg_name (i := 10) nd rfl (Or.inl rfl)) pgs_nil)))) (fun _ _ _ _ _ => pts_nil) (fun _ _ _ _ _ => pv 7) (fun _ _ _ _ _ => pe_tup (pa_cons (pv 9) (pa_cons (pv 10) pa_nil)))))
      (pss_cons (ps_expr (pe_callS G4 hr (by rfl) Y.gCheckSteps F4.kp b4 (fun σ => passAt (takes_of rfl rfl rfl rfl) σ) (pa_cons (pv 1) (pa_cons
          (pe_lc (own := [("total", 11)]) (g := gName 11) (tt := tYes) (te := tCall (spSO K) [] E0 (tCons (tVar 5) (tCons (tVar 11) tNil))) rfl nd (pi_list (pv 4)) (blkOk_by (N := NFI) (sc := defScope sFrame_Init) (by decide +kernel)) (fun _ _ _ _ _ => pg_name (i := 11) nd rfl (Or.inl rfl)) (fun _ _ _ _ _ => pts_nil)
            (fun _ _ _ _ _ => pe_call G5 hr1 (by rfl) Y.gStepOf F5.kp b5 .nil pass0 (pa_cons (pv 5) (pa_cons (pv 11) pa_nil)))) pa_nil))))
      (pss_cons (ps_fld (pv 0) (pe_callTy call_tupA (by rfl) Y.bTuple (by decide +kernel) (pa_cons (pv 1) pa_nil)) rfl)
      (pss_cons (ps_fld (pv 0) (pe_callTy call_tupA (by rfl) Y.bTuple (by decide +kernel) (pa_cons
          (pe_lc (own := [("name", 7), ("first", 9), ("second", 10)]) (g := gTup K 3 (gCons (gName 7) (gCons (gName 9) (gCons (gName 10) gNil)))) (tt := tYes) (te := tTup (tCons (tVar 7) (tCons (tVar 9) (tCons (tVar 10) tNil)))) rfl nd (pi_seqA (pv 2)) (blkOk_by (N := NFI) (sc := defScope sFrame_Init) (by decide +kernel))
            (fun _ _ _ _ _ => pg_tup rfl (pgs_cons (pg_name (i := 7) nd rfl (Or.inl rfl)) (pgs_cons (pg_name (i := 9) nd rfl (Or.inl rfl)) (pgs_cons (pg_name (i := 10) nd rfl (Or.inl rfl)) pgs_nil)))) (fun _ _ _ _ _ => pts_nil) (fun _ _ _ _ _ => pe_tup (pa_cons (pv 7) (pa_cons (pv 9) (pa_cons (pv 10) pa_nil))))) pa_nil)) rfl)
      (pss_cons (ps_fld (pv 0) (pe_callTy call_tupA (by rfl) Y.bTuple (by decide +kernel) (pa_cons (pv 4) pa_nil)) rfl)
      (pss_one (ps_fld (pv 0) (pv 5) rfl)))))))))), ?_⟩
    obtain ⟨x, a, l, t, dx, xs, ls, ts, rfl, hx, hs, hl, ht, ok, kE, kQ⟩ := h
    obtain ⟨as, q, la, g⟩ := id hl
    rw [List.length_map] at la
    obtain ⟨bs, q2, lb, g2⟩ := id ht
    rw [List.length_map] at lb
    have n60 := ok.ll
    have t60 := ok.lt
    refine ⟨_, rfl, _, rfl, l, _, rfl, q, fun J GG wk gk D hD => ?_⟩
    refine lc_it wk (fun i G' => G' D = some (.lst (((ls.take i).map (·.1)).map V.str)) ∧ Same H G') ⟨upd_same, same_upd hD⟩ (fun i G' _ p => gk G' p.2) ?_ ?_
    · rintro i v G1 G' hi ⟨e, s2⟩ ⟨rfl, ev⟩
      obtain ⟨b, eb, rfl⟩ := ref_at ev
      obtain ⟨vs, e1, hT⟩ := g i b eb
      obtain ⟨lt, e2, rfl⟩ := lt_at e1
      have li := (List.getElem?_eq_some_iff.mp e2).1
      refine ⟨rfl, _, rfl, b, _, 0, _, rfl, rfl, sqt_same s2 hT, rfl, _, e, ?_, ?_, same_put hD s2⟩
      · rw [List.length_map, List.length_map, List.length_take]
        exact small1000 (by omega)
      · rw [upd_same, List.take_add_one, e2, List.map_append, List.map_append]
        rfl
    rintro G0 ⟨eD, s0⟩
    rw [List.length_map, la, List.take_length] at eD
    refine ⟨szl (by show 2 ≤ 1000; decide), fun p hp => ?_⟩
    have sp := s0.trans (same_upd (o := .lst [V.ref a, V.ref D]) hp)
    refine ⟨p, a, D, xs, ls.map (·.1), rfl, SqL.of upd_same, hs.same sp, .inl (SqL.of (same_upd hp _ _ eD)), fun x hx => ?_, by have := ok.lx; omega, by rw [List.length_map]; omega, ?_⟩
    · rcases List.mem_append.mp hx with z | z
      · exact (ok.ox x z).l
      · obtain ⟨q, hq, e⟩ := List.mem_map.mp z
        rw [← e]
        exact (ok.ol q hq).1.l
    clear eD s0 hD
    unfold dueF at kE kQ
    cases e1 : badN (xs ++ ls.map (·.1)) with
    | some z =>
      rw [e1] at kE
      exact fun d H' s hd e => kE _ rfl d H' (sp.trans s) (none_of sp hd) e
    | none =>
    rw [e1] at kE kQ
    dsimp only at kE kQ ⊢
    cases e2 : again xs with
    | some z =>
      rw [e2] at kE
      exact fun d H' s hd e => kE _ rfl d H' (sp.trans s) (none_of sp hd) e
    | none =>
    rw [e2] at kE kQ
    dsimp only at kE kQ ⊢
    cases e3 : again (ls.map (·.1)) with
    | some z =>
      rw [e3] at kE
      exact fun d H' s hd e => kE _ rfl d H' (sp.trans s) (none_of sp hd) e
    | none =>
    rw [e3] at kE kQ
    dsimp only at kE kQ ⊢
    intro H1 s1
    replace s1 := sp.trans s1
    clear sp hp
    refine ⟨_, rfl, _, rfl, _, rfl, a, l, t, xs, ls, ts, rfl, hs.same s1, hl.same s1, ht.same s1, n60, ?_⟩
    cases e4 : badE xs ls with
    | some z =>
      rw [e4] at kE
      exact fun d H' s hd e => kE _ rfl d H' (s1.trans s) (none_of s1 hd) e
    | none =>
    rw [e4] at kE kQ
    dsimp only at kE kQ ⊢
    cases e5 : badT (ls.map (·.1)) ts with
    | some z =>
      rw [e5] at kE
      exact fun d H' s hd e => kE _ rfl d H' (s1.trans s) (none_of s1 hd) e
    | none =>
    rw [e5] at kE kQ
    dsimp only at kE kQ ⊢
    intro H2 s2
    replace s2 := s1.trans s2
    clear s1
    refine ⟨_, rfl, t, _, rfl, q2.same s2, fun J GG wk gk T hT => ?_⟩
    refine lc_it wk (fun i G => ∃ us : List Addr, G T = some (.lst (us.map V.ref)) ∧ AllT K G us ((ts.take i).map ttV) ∧ Same H2 G) ⟨[], upd_same, AllT.nil, same_upd hT⟩ (fun i G _ ⟨_, _, _, p⟩ => gk G p) ?_ ?_
    · rintro i v G G' hi ⟨us, e, hA, s3⟩ ⟨rfl, ev⟩
      obtain ⟨b, eb, rfl⟩ := ref_at ev
      obtain ⟨vs, e1, hB⟩ := g2 i b eb
      obtain ⟨tt, e2, rfl⟩ := tt_at e1
      have li := (List.getElem?_eq_some_iff.mp e2).1
      refine ⟨b, _, rfl, sqt_same (s2.trans s3) hB, rfl, _, _, rfl, _, _, rfl, rfl, rfl, ?_⟩
      refine ⟨_, rfl, _, rfl, szl (by show 2 ≤ 1000; decide), fun T2 hT2 => ?_⟩
      have eT := same_upd (o := .tup [V.str tt.1, V.str tt.2]) hT2 _ _ e
      refine ⟨_, eT, ?_, us ++ [T2], ?_, ?_, same_put hT (s3.trans (same_upd hT2))⟩
      · have z := hA.1
        rw [List.length_map, List.length_take] at z
        rw [List.length_map]
        exact small1000 (by omega)
      · rw [upd_same, List.map_append]
        rfl
      · rw [List.take_add_one, e2, List.map_append]
        exact ((hA.same (same_upd hT2)).snoc (SqT.of upd_same)).put eT
    rintro G3 ⟨us, eT, hA, s3⟩
    rw [List.length_map, lb, List.take_length] at hA
    have hTt : TupsAt K G3 T (ts.map ttV) := hA.tups (SqL.of eT)
    replace s3 := s2.trans s3
    clear hT s2
    refine ⟨_, rfl, T, ts, rfl, hTt, ok.ot, ?_⟩
    cases e6 : badF ts with
    | some z =>
      rw [e6] at kE
      exact fun d H' s hd e => kE _ rfl d H' (s3.trans s) (none_of s3 hd) e
    | none =>
    rw [e6] at kE kQ
    dsimp only at kE kQ ⊢
    intro H4 s4
    replace eT := s4 _ _ eT
    replace hA := hA.same s4
    replace s4 := s3.trans s4
    clear s3 hTt
    have ndl : (ls.map (·.1)).Nodup := again_nodup.mp e3
    refine ⟨_, rfl, l, _, rfl, q.same s4, fun J GG wk gk N hN => ?_⟩
    refine dc_it wk (fun i G => ∃ ws : List Addr, G N = some (.dK (kvL (ls.take i) ws)) ∧ AllT K G ws ((ls.take i).map endV) ∧ Same H4 G) ⟨[], upd_same, AllT.nil, same_upd hN⟩ (fun i G _ ⟨_, _, _, p⟩ => gk G p) ?_ ?_
    · rintro i v G G' hi ⟨ws, e, hW, s5⟩ ⟨rfl, ev⟩
      obtain ⟨b, eb, rfl⟩ := ref_at ev
      obtain ⟨vs, e1, hB⟩ := g i b eb
      obtain ⟨lt, e2, rfl⟩ := lt_at e1
      have li := (List.getElem?_eq_some_iff.mp e2).1
      refine ⟨b, _, rfl, sqt_same (s4.trans s5) hB, rfl, _, _, rfl, _, _, rfl, _, _, rfl, rfl, rfl, _, rfl, _, rfl, _, rfl, szl (by show 2 ≤ 1000; decide), fun T2 hT2 => ?_⟩
      have eN := same_upd (o := .tup [V.str lt.2.1, V.str lt.2.2]) hT2 _ _ e
      have lw : ws.length = (ls.take i).length := by rw [hW.1, List.length_map]
      refine ⟨_, .inr lt.1, rfl, eN, ?_, ws ++ [T2], ?_, ?_, same_put hN (s5.trans (same_upd hT2))⟩
      · have := kvL_len (ls.take i) ws
        rw [List.length_take] at this
        exact small1000 (by omega)
      · have hno : lt.1 ∉ (ls.take i).map (·.1) := by
          intro z
          obtain ⟨i2, l2, e3⟩ := List.getElem_of_mem z
          rw [List.length_map, List.length_take] at l2
          refine List.pairwise_iff_getElem.mp ndl i2 i (by rw [List.length_map]; omega) (by rw [List.length_map]; omega) (by omega) ?_
          rw [List.getElem_map, List.getElem_take] at e3
          rw [List.getElem_map, List.getElem_map, e3]
          rw [List.getElem?_eq_getElem li] at e2
          rw [Option.some.inj e2]
        rw [upd_same, putK_new _ (kvL_no _ ws hno), List.take_add_one, e2]
        show some (HO.dK _) = some (.dK (kvL (ls.take i ++ [lt]) _))
        rw [kvL_snoc _ _ _ _ lw.symm]
      · rw [List.take_add_one, e2, List.map_append]
        exact ((hW.same (same_upd hT2)).snoc (SqT.of upd_same)).putD eN
    rintro G5 ⟨ws, eN, hW, s5⟩
    rw [List.length_map, la, List.take_length] at eN hW
    replace eT := s5 _ _ eT
    replace hA := hA.same s5
    replace s5 := s4.trans s5
    clear s4 hN
    have hN5 : LdAt K G5 N ls := ⟨ws, eN, by rw [hW.1, List.length_map], fun i u z => by
      obtain ⟨vs, a1, b1⟩ := hW.2 i u z
      rw [List.getElem?_map] at a1
      cases e : ls[i]? with
      | none => rw [e] at a1; cases a1
      | some q => rw [e] at a1; exact ⟨q, rfl, Option.some.inj a1 ▸ b1⟩⟩
    have mem5 : ∀ tt ∈ ts, tt.1 ∈ ls.map (·.1) := fun tt htt => by
      obtain ⟨i, li, e⟩ := List.getElem_of_mem htt
      have z := firstL_none e5 i tt (by rw [List.getElem?_eq_getElem li, e])
      by_cases c : tt.1 ∈ ls.map (·.1)
      · exact c
      · rw [if_pos c] at z
        cases z
    refine ⟨_, rfl, _, rfl, T, rfl, ⟨_, SqL.of eT⟩, fun U hU => ?_⟩
    have lu : us.length = ts.length := by rw [hA.1, List.length_map]
    refine lc_list (K := K) (a := T) (xs := us.map V.ref) (fun i G => ∃ zs : List Addr, G U = some (.lst (zs.map V.ref)) ∧ AllT K G zs (((stepsOf ls ts).take i).map ttV) ∧ Same G5 G) ⟨[], upd_same, AllT.nil, same_upd hU⟩ (fun i G _ ⟨_, _, _, p⟩ => p.seq (SqL.of eT)) ?_ ?_
    · rintro i v G hi ⟨zs, e, hZ, s6⟩
      obtain ⟨b, eb, rfl⟩ := ref_at hi
      obtain ⟨vs, e1, hB⟩ := hA.2 i b eb
      obtain ⟨tt, e2, rfl⟩ := tt_at e1
      have li := (List.getElem?_eq_some_iff.mp e2).1
      have mt := mem5 tt (List.mem_of_getElem? e2)
      obtain ⟨mq, nq⟩ := endOf_ok mt
      obtain ⟨j, lj, ej⟩ := List.getElem_of_mem mq
      obtain ⟨pa, dg, hp⟩ := (hN5.same s6).get ndl (show ls[j]? = some (endOf ls tt.1) by rw [List.getElem?_eq_getElem lj, ej])
      refine ⟨rfl, _, rfl, _, rfl, N, b, pa, endOf ls tt.1, tt, rfl, dg, hp, sqt_same s6 hB, nq.symm, fun T2 G' s7 hT2 => ?_⟩
      have eU := s7 _ _ e
      refine ⟨_, eU, ?_, zs ++ [T2], ?_, ?_, same_put hU (s6.trans s7)⟩
      · have z := hZ.1
        unfold stepsOf at z
        rw [List.length_map, List.length_take, List.length_map] at z
        rw [List.length_map]
        exact small1000 (by omega)
      · rw [upd_same, List.map_append]
        rfl
      · have es : (stepsOf ls ts)[i]? = some (stepOf (endOf ls tt.1) tt) := by
          unfold stepsOf
          rw [List.getElem?_map, e2]
          rfl
        rw [List.take_add_one, es, List.map_append]
        exact ((hZ.same s7).snoc hT2).put eU
    rintro G6 ⟨zs, eU, hZ, s6⟩
    rw [List.length_map, lu, show ts.length = (stepsOf ls ts).length by unfold stepsOf; rw [List.length_map], List.take_length] at hZ
    replace eT := s6 _ _ eT
    replace hA := hA.same s6
    replace hN5 := hN5.same s6
    replace s6 := s5.trans s6
    clear s5 hU
    refine ⟨a, U, xs, stepsOf ls ts, rfl, hs.same s6, ok.ox, by have := ok.lx; omega, hZ.tups (SqL.of eU), fun z hz => ?_, fun ne => ?_, fun em => ?_⟩
    · unfold stepsOf at hz
      obtain ⟨tt, htt, rfl⟩ := List.mem_map.mp hz
      exact ok_stepOf (ok.ol _ (endOf_ok (mem5 tt htt)).1)
    · rw [if_neg ne] at kE
      exact fun d T' H' s hd e hT' => kE _ rfl d T' H' (s6.trans s) (none_of s6 hd) e hT'
    rw [if_pos em] at kQ
    intro H7 s7
    replace eT := s7 _ _ eT
    replace hA := hA.same s7
    replace hN5 := hN5.same s7
    replace s7 := s6.trans s7
    clear s6 eU hZ
    have x1 := s7 _ _ hx
    have hs1 := hs.same s7
    have hl1 := hl.same s7
    have k1 : Keep x H H7 := .of s7
    clear s7
    -- the fields
    refine ⟨_, rfl, a, _, rfl, hs1, fun S G1 s8 hS => ⟨_, rfl, x, CFrame K, dx, _, rfl, s8 _ _ x1, Y.cFrame, Y.nFrameSorts, (by show 0 < 1000; decide), ?_⟩⟩
    have kk : Keep x H7 (upd G1 x (.ins (CFrame K) dx [("_sorts", .ref S)])) := (Keep.of s8).trans .put
    have hx7 : ∃ u, H7 x = some u ∧ isIns u = true := ⟨_, x1, rfl⟩
    replace hl1 := kk.tupsA hx7 hl1
    replace eT := kk.one hx7 eT rfl
    replace hA := kk.allT hx7 hA
    replace hN5 := kk.ld hx7 hN5
    replace hS := (Keep.put (x := x) (H := G1) (o := HO.ins (CFrame K) dx [("_sorts", .ref S)])).sqt ⟨_, s8 _ _ x1, rfl⟩ hS
    replace k1 := k1.trans kk
    replace x1 : upd G1 x (.ins (CFrame K) dx [("_sorts", .ref S)]) x = some (.ins (CFrame K) dx [("_sorts", .ref S)]) := upd_same
    obtain ⟨G2, e1⟩ : ∃ Z, Z = upd G1 x (.ins (CFrame K) dx [("_sorts", .ref S)]) := ⟨_, rfl⟩
    change tSeq _ _ _ _ (upd G1 x (.ins (CFrame K) dx [("_sorts", .ref S)]))
    rw [← e1] at hl1 eT hA hN5 hS k1 x1 ⊢
    clear kk e1 hs1 s8 hx7
    obtain ⟨as2, q2, la2, g2⟩ := hl1
    rw [List.length_map] at la2
    refine ⟨_, rfl, l, _, rfl, q2, fun J GG wk gk D hD => ?_⟩
    refine lc_it wk (fun i G => ∃ zs : List Addr, G D = some (.lst (zs.map V.ref)) ∧ AllT K G zs ((ls.take i).map ltV) ∧ Same G2 G) ⟨[], upd_same, AllT.nil, same_upd hD⟩ (fun i G _ ⟨_, _, _, p⟩ => gk G p) ?_ ?_
    · rintro i v G G' hi ⟨zs, e, hZ, s2⟩ ⟨rfl, ev⟩
      obtain ⟨b, eb, rfl⟩ := ref_at ev
      obtain ⟨vs, e1, hT⟩ := g2 i b eb
      obtain ⟨lt, e2, rfl⟩ := lt_at e1
      have li : i < ls.length := (List.getElem?_eq_some_iff.mp e2).1
      refine ⟨b, _, rfl, sqt_same s2 hT, rfl, _, _, rfl, _, _, rfl, _, _, rfl, rfl, rfl, ?_⟩
      refine ⟨_, rfl, _, rfl, _, rfl, szl (by show 3 ≤ 1000; decide), fun T2 hT2 => ?_⟩
      have eD := same_upd (o := .tup [V.str lt.1, V.str lt.2.1, V.str lt.2.2]) hT2 _ _ e
      refine ⟨_, eD, ?_, zs ++ [T2], ?_, ?_, same_put hD (s2.trans (same_upd hT2))⟩
      · have z := hZ.1
        rw [List.length_map, List.length_take] at z
        rw [List.length_map]
        exact small1000 (by omega)
      · rw [upd_same, List.map_append]
        rfl
      · rw [List.take_add_one, e2, List.map_append]
        exact ((hZ.same (same_upd hT2)).snoc (SqT.of upd_same)).put eD
    rintro G3 ⟨zs, eD, hZ, s2⟩
    rw [List.length_map, la2, List.take_length] at hZ
    replace x1 := s2 _ _ x1
    replace eT := s2 _ _ eT
    replace hA := hA.same s2
    replace hN5 := hN5.same s2
    replace hS := sqt_same s2 hS
    replace k1 := k1.trans (Keep.of s2)
    clear s2 hD q2 g2 la2
    refine ⟨D, _, rfl, .inl (SqL.of eD), fun L G4 s8 hL => ⟨_, rfl, x, CFrame K, dx, _, rfl, s8 _ _ x1, Y.cFrame, Y.nFrameLetters, (by show 1 < 1000; decide), ?_⟩⟩
    have kk : Keep x G3 (upd G4 x (.ins (CFrame K) dx [("_sorts", .ref S), ("_letters", .ref L)])) := (Keep.of s8).trans .put
    have hx7 : ∃ u, G3 x = some u ∧ isIns u = true := ⟨_, x1, rfl⟩
    replace eT := kk.one hx7 eT rfl
    replace hA := kk.allT hx7 hA
    replace hN5 := kk.ld hx7 hN5
    replace hS := kk.sqt hx7 hS
    have hL1 : TupsT K (upd G4 x (.ins (CFrame K) dx [("_sorts", .ref S), ("_letters", .ref L)])) L (ls.map ltV) :=
      ⟨zs, (Keep.put (x := x) (H := G4) (o := HO.ins (CFrame K) dx [("_sorts", .ref S), ("_letters", .ref L)])).sqt ⟨_, s8 _ _ x1, rfl⟩ hL, kk.allT hx7 hZ⟩
    replace k1 := k1.trans kk
    replace x1 : upd G4 x (.ins (CFrame K) dx [("_sorts", .ref S), ("_letters", .ref L)]) x = some (.ins (CFrame K) dx [("_sorts", .ref S), ("_letters", .ref L)]) := upd_same
    obtain ⟨G5, e1⟩ : ∃ Z, Z = upd G4 x (.ins (CFrame K) dx [("_sorts", .ref S), ("_letters", .ref L)]) := ⟨_, rfl⟩
    change tSeq _ _ _ _ (upd G4 x (.ins (CFrame K) dx [("_sorts", .ref S), ("_letters", .ref L)]))
    rw [← e1] at eT hA hN5 hS hL1 k1 x1 ⊢
    clear kk e1 s8 hx7 hL
    refine ⟨_, rfl, T, _, rfl, .inl (SqL.of eT), fun U G6 s8 hU => ⟨_, rfl, x, CFrame K, dx, _, rfl, s8 _ _ x1, Y.cFrame, Y.nFrameTotals, (by show 2 < 1000; decide), ?_⟩⟩
    refine ⟨_, rfl, _, rfl, x, CFrame K, dx, _, rfl, upd_same, Y.cFrame, Y.nFrameEnds, (by show 3 < 1000; decide), ?_⟩
    have kk := ((Keep.of (x := x) s8).trans (.put (o := .ins (CFrame K) dx [("_sorts", .ref S), ("_letters", .ref L), ("_totals", .ref U)]))).trans (.put (o := .ins (CFrame K) dx [("_sorts", .ref S), ("_letters", .ref L), ("_totals", .ref U), ("_ends", .ref N)]))
    have kk2 := ((Keep.refl (x := x) (H := G6)).trans (.put (o := .ins (CFrame K) dx [("_sorts", .ref S), ("_letters", .ref L), ("_totals", .ref U)]))).trans (.put (o := .ins (CFrame K) dx [("_sorts", .ref S), ("_letters", .ref L), ("_totals", .ref U), ("_ends", .ref N)]))
    have hx7 : ∃ u, G5 x = some u ∧ isIns u = true := ⟨_, x1, rfl⟩
    exact kQ rfl _ (k1.trans kk) ⟨dx, S, L, U, N, upd_same, kk.sqt hx7 hS, kk.tupsT hx7 hL1, ⟨us, kk2.sqt ⟨_, s8 _ _ x1, rfl⟩ hU, kk.allT hx7 hA⟩, kk.ld hx7 hN5⟩
end
end K22

namespace K22
open PySem PySem.Spec PyProof.Rows L2 Ow Xv
/-! ### the methods of a frame -/
theorem passX {X : Cx} : Passes (L2.CX X.prog X.w) X E0 := fun _ _ _ _ _ _ _ h => by
  obtain ⟨_, _, _, _, _, _, _, _, _, _, _, _, e⟩ := h
  exact e.elim
/-- a frame that has been made of these -/
structure Good (xs : List Str) (ls : List Lt) (ts : List Tt) : Prop where
  fi : FrIn xs ls ts
  no : dueF xs ls ts = none
theorem Good.parts {xs : List Str} {ls : List Lt} {ts : List Tt} (g : Good xs ls ts) : badN (xs ++ ls.map (·.1)) = none ∧ again xs = none ∧ again (ls.map (·.1)) = none ∧ badE xs ls = none ∧ badT (ls.map (·.1)) ts = none ∧ badF ts = none ∧ rnd (stepsOf ls ts) xs = [] := by
  have h := g.no
  unfold dueF at h
  cases e1 : badN (xs ++ ls.map (·.1)) with
  | some z => rw [e1] at h; cases h
  | none =>
  rw [e1] at h
  cases e2 : again xs with
  | some z => rw [e2] at h; cases h
  | none =>
  rw [e2] at h
  cases e3 : again (ls.map (·.1)) with
  | some z => rw [e3] at h; cases h
  | none =>
  rw [e3] at h
  cases e4 : badE xs ls with
  | some z => rw [e4] at h; cases h
  | none =>
  rw [e4] at h
  cases e5 : badT (ls.map (·.1)) ts with
  | some z => rw [e5] at h; cases h
  | none =>
  rw [e5] at h
  cases e6 : badF ts with
  | some z => rw [e6] at h; cases h
  | none =>
  rw [e6] at h
  refine ⟨rfl, rfl, rfl, rfl, rfl, rfl, ?_⟩
  dsimp only at h
  by_cases em : rnd (stepsOf ls ts) xs = []
  · exact em
  · rw [if_neg em] at h
    cases h
theorem Good.nd {xs : List Str} {ls : List Lt} {ts : List Tt} (g : Good xs ls ts) : (ls.map (·.1)).Nodup := again_nodup.mp g.parts.2.2.1
theorem badT_mem {ls : List Lt} {ts : List Tt} (h : badT (ls.map (·.1)) ts = none) : ∀ tt ∈ ts, tt.1 ∈ ls.map (·.1) := fun tt htt => by
  obtain ⟨i, li, e⟩ := List.getElem_of_mem htt
  have z := firstL_none h i tt (by rw [List.getElem?_eq_getElem li, e])
  by_cases c : tt.1 ∈ ls.map (·.1)
  · exact c
  · rw [if_pos c] at z
    cases z
theorem Good.mem {xs : List Str} {ls : List Lt} {ts : List Tt} (g : Good xs ls ts) : ∀ tt ∈ ts, tt.1 ∈ ls.map (·.1) := badT_mem g.parts.2.2.2.2.1
theorem kvL_some {x : Str} : ∀ {ls : List Lt} {as : List Addr}, as.length = ls.length → x ∈ ls.map (·.1) → (valV (kvL ls as) (.inr x)).isSome = true
  | [], _, _, h => absurd h List.not_mem_nil
  | _ :: _, [], l, _ => by cases l
  | q :: ls, a :: as, l, h => by
    show (valV ((.inr q.1, .ref a) :: kvL ls as) (.inr x)).isSome = true
    by_cases e : (.inr q.1 : Key) = .inr x
    · rw [valV_pos (p := ((Sum.inr q.1 : Key), V.ref a)) e]
      rfl
    · rw [valV_neg e]
      refine kvL_some (by simpa using l) ?_
      rcases List.mem_cons.mp h with z | z
      · exact absurd (by rw [z]) e
      · exact z
theorem isTx_str (z : Str) (xs : List Str) : isTx (.str z) xs = decide (z ∈ xs) := by
  unfold isTx
  induction xs with
  | nil => rfl
  | cons x xs ih =>
    rw [List.any_cons, ih]
    by_cases h : z = x
    · subst h
      simp
    · have h2 : ¬ (V.str z = V.str x) := fun e => h (V.str.inj e)
      rw [decide_eq_false h2, Bool.false_or]
      simp [h]
theorem isTx_no {v : V} (h : ∀ z, v ≠ .str z) (xs : List Str) : isTx v xs = false := by
  unfold isTx
  rw [List.any_eq_false]
  intro z _
  simpa using h z
abbrev NM1 : List Str := ["self"]
theorem scMs : FnScope NM1 ["self"] (defScope sFrame_Sorts) := ⟨rfl, rfl, rfl, by decide +kernel, rfl, by decide +kernel, by decide +kernel⟩
theorem scMl : FnScope NM1 ["self"] (defScope sFrame_Letters) := ⟨rfl, rfl, rfl, by decide +kernel, rfl, by decide +kernel, by decide +kernel⟩
theorem scMt : FnScope NM1 ["self"] (defScope sFrame_Totals) := ⟨rfl, rfl, rfl, by decide +kernel, rfl, by decide +kernel, by decide +kernel⟩
theorem scHS : FnScope ["self", "value"] ["self", "value"] (defScope sFrame_HasSort) := ⟨rfl, rfl, rfl, by decide +kernel, rfl, by decide +kernel, by decide +kernel⟩
theorem scHL : FnScope ["self", "value"] ["self", "value"] (defScope sFrame_HasLetter) := ⟨rfl, rfl, rfl, by decide +kernel, rfl, by decide +kernel, by decide +kernel⟩
theorem scEn : FnScope ["self", "name"] ["self", "name"] (defScope sFrame_Ends) := ⟨rfl, rfl, rfl, by decide +kernel, rfl, by decide +kernel, by decide +kernel⟩
def spMs (K : PySem.W.Frag) : Sp := fun vs H Q _ => ∃ (x : Addr) (xs : List Str) (ls : List Lt) (ts : List Tt), vs = [.ref x] ∧ FrmAt K H x xs ls ts ∧ ∀ (l : Addr) (H' : Hp), Same H H' → H l = none → H' l = some (.lst (xs.map V.str)) → Q (.ref l) H'
def spMl (K : PySem.W.Frag) : Sp := fun vs H Q _ => ∃ (x : Addr) (xs : List Str) (ls : List Lt) (ts : List Tt), vs = [.ref x] ∧ FrmAt K H x xs ls ts ∧ ∀ (l : Addr) (as : List Addr) (H' : Hp), Same H H' → H l = none → H' l = some (.lst (as.map V.ref)) → AllT K H' as (ls.map ltV) → Q (.ref l) H'
def spMt (K : PySem.W.Frag) : Sp := fun vs H Q _ => ∃ (x : Addr) (xs : List Str) (ls : List Lt) (ts : List Tt), vs = [.ref x] ∧ FrmAt K H x xs ls ts ∧ ∀ (l : Addr) (as : List Addr) (H' : Hp), Same H H' → H l = none → H' l = some (.lst (as.map V.ref)) → AllT K H' as (ts.map ttV) → Q (.ref l) H'
def spHS (K : PySem.W.Frag) : Sp := fun vs H Q _ => ∃ (x : Addr) (v : V) (d : PyData) (xs : List Str) (ls : List Lt) (ts : List Tt), vs = [.ref x, v] ∧ FrmAt K H x xs ls ts ∧ Any K H v d ∧ Q (.bl (isTx v xs)) H
def spHL (K : PySem.W.Frag) : Sp := fun vs H Q _ => ∃ (x : Addr) (v : V) (d : PyData) (xs : List Str) (ls : List Lt) (ts : List Tt), vs = [.ref x, v] ∧ FrmAt K H x xs ls ts ∧ Any K H v d ∧ Q (.bl (isTx v (ls.map (·.1)))) H
def spEn (K : PySem.W.Frag) : Sp := fun vs H Q E => ∃ (x : Addr) (v : V) (d : PyData) (xs : List Str) (ls : List Lt) (ts : List Tt), vs = [.ref x, v] ∧ FrmAt K H x xs ls ts ∧ (ls.map (·.1)).Nodup ∧ Any K H v d ∧
  (isTx v (ls.map (·.1)) = false → ∀ (d : Addr) (H' : Hp), Same H H' → H d = none → H' d = some (.xd [("name", v)]) → E (.ref (CUnknownName K)) (some d) H') ∧ ∀ q ∈ ls, v = .str q.1 → ∀ t, SqT K H t (endV q) → Q (.ref t) H
section
variable {P : Program} {w : World} {K : PySem.W.Frag} {mg : Str → Option Value} {base : Heap} {f : Addr} {fd : FuncData}
theorem ok_ms (F : FnM K "sorts" "Frame.sorts" sFrame_Sorts f fd) (Y : Fx w K mg) : FnOk P w K mg base CX0 1 f fd ["self"] (spMs K) := by
  refine okD F scMs (fun vs H Q E h => ?_) (fun cdv A outer s H vs Q E hr h => ?_)
  · obtain ⟨x, xs, ls, ts, rfl, _⟩ := h
    rfl
  · refine ⟨_, pss_one (ps_ret (pe_callTy call_list_of (by rfl) Y.bList boot_list (pa_cons (pe_fld (pv 0) rfl) pa_nil))), ?_⟩
    obtain ⟨x, xs, ls, ts, rfl, ⟨dx, a, l, t, m, h1, h2, h3, h4, h5⟩, k⟩ := h
    exact ⟨_, rfl, x, _, dx, _, _, rfl, h1, Y.cFrame, Y.nFrameSorts, rfl, a, _, rfl, .inr h2, fun p hp => k p _ (same_upd hp) hp upd_same⟩
theorem ok_ml (F : FnM K "letters" "Frame.letters" sFrame_Letters f fd) (Y : Fx w K mg) : FnOk P w K mg base CX0 1 f fd ["self"] (spMl K) := by
  refine okD F scMl (fun vs H Q E h => ?_) (fun cdv A outer s H vs Q E hr h => ?_)
  · obtain ⟨x, xs, ls, ts, rfl, _⟩ := h
    rfl
  · refine ⟨_, pss_one (ps_ret (pe_callTy call_list_of (by rfl) Y.bList boot_list (pa_cons (pe_fld (pv 0) rfl) pa_nil))), ?_⟩
    obtain ⟨x, xs, ls, ts, rfl, ⟨dx, a, l, t, m, h1, h2, ⟨as, h3, h6⟩, h4, h5⟩, k⟩ := h
    exact ⟨_, rfl, x, _, dx, _, _, rfl, h1, Y.cFrame, Y.nFrameLetters, rfl, l, _, rfl, .inr h3, fun p hp => k p as _ (same_upd hp) hp upd_same (h6.same (same_upd hp))⟩
theorem ok_mt (F : FnM K "totals" "Frame.totals" sFrame_Totals f fd) (Y : Fx w K mg) : FnOk P w K mg base CX0 1 f fd ["self"] (spMt K) := by
  refine okD F scMt (fun vs H Q E h => ?_) (fun cdv A outer s H vs Q E hr h => ?_)
  · obtain ⟨x, xs, ls, ts, rfl, _⟩ := h
    rfl
  · refine ⟨_, pss_one (ps_ret (pe_callTy call_list_of (by rfl) Y.bList boot_list (pa_cons (pe_fld (pv 0) rfl) pa_nil))), ?_⟩
    obtain ⟨x, xs, ls, ts, rfl, ⟨dx, a, l, t, m, h1, h2, h3, ⟨as, h4, h6⟩, h5⟩, k⟩ := h
    exact ⟨_, rfl, x, _, dx, _, _, rfl, h1, Y.cFrame, Y.nFrameTotals, rfl, t, _, rfl, .inr h4, fun p hp => k p as _ (same_upd hp) hp upd_same (h6.same (same_upd hp))⟩
theorem ok_hs (F : FnM K "has_sort" "Frame.has_sort" sFrame_HasSort f fd) (Y : Fx w K mg) : FnOk P w K mg base CX0 1 f fd ["self", "value"] (spHS K) := by
  refine okD F scHS (fun vs H Q E h => ?_) (fun cdv A outer s H vs Q E hr h => ?_)
  · obtain ⟨x, v, d, xs, ls, ts, rfl, _⟩ := h
    rfl
  · have hu := hu_of hr
    refine ⟨_, pss_one (ps_ret (pe_cmpR (op_inAny hu) (pv 1) (pe_fld (pv 0) rfl) (by rfl))), ?_⟩
    obtain ⟨x, v, d, xs, ls, ts, rfl, ⟨dx, a, l, t, m, h1, h2, h3, h4, h5⟩, hv, k⟩ := h
    exact ⟨_, rfl, _, rfl, x, _, dx, _, _, rfl, h1, Y.cFrame, Y.nFrameSorts, rfl, d, a, xs, rfl, h2, hv, k⟩
theorem ok_hl (F : FnM K "has_letter" "Frame.has_letter" sFrame_HasLetter f fd) (Y : Fx w K mg) : FnOk P w K mg base CX0 1 f fd ["self", "value"] (spHL K) := by
  refine okD F scHL (fun vs H Q E h => ?_) (fun cdv A outer s H vs Q E hr h => ?_)
  · obtain ⟨x, v, d, xs, ls, ts, rfl, _⟩ := h
    rfl
  · have hu := hu_of hr
    refine ⟨_, pss_one (ps_ret (pe_and (pe_callB call_isi (by rfl) Y.bIsinstance boot_isinstance (pa_cons (pv 1) (pa_cons (pe_bltn (v := .ty "str") (u := .type "str") (by rfl) Y.bStr (by decide +kernel) rfl) pa_nil)))
      (pe_one (pe_cmp (pc_din hu (pv 1) (pe_fld (pv 0) rfl)))))), ?_⟩
    obtain ⟨x, v, d, xs, ls, ts, rfl, ⟨dx, a, l, t, m, h1, h2, h3, h4, ⟨as, h5, h6, h7⟩⟩, hv, k⟩ := h
    obtain ⟨T, b, hT, kb, hc⟩ := hv.ty
    refine ⟨_, rfl, _, _, _, _, b, rfl, .ty _, hT, kit_ty kb, _, rfl, ?_⟩
    rcases hc with ⟨rfl, z, rfl⟩ | ⟨rfl, hz⟩
    · rw [if_pos rfl]
      refine ⟨_, rfl, _, rfl, x, _, dx, _, _, rfl, h1, Y.cFrame, Y.nFrameEnds, rfl, m, _, rfl, DGet.k (k := .inr z) h5, ?_⟩
      rw [isTx_str] at k
      by_cases e : z ∈ ls.map (·.1)
      · rw [kvL_some h6 e]
        rw [decide_eq_true e] at k
        exact k
      · rw [kvL_no ls as e]
        rw [decide_eq_false e] at k
        exact k
    · rw [if_neg Bool.false_ne_true]
      rw [isTx_no hz] at k
      exact k
theorem ok_en (F : FnM K "ends" "Frame.ends" sFrame_Ends f fd) (Y : Fx w K mg) : FnOk P w K mg base (L2.CX P w) 3 f fd ["self", "name"] (spEn K) := by
  obtain ⟨d1, F1⟩ := Y.dFrame_HasLetter
  have b1 := FunD.bindsN (ps := ["self", "value"]) F1 fun _ _ _ _ _ _ us hl => match us, hl with | [_, _], _ => rfl
  have G1 : FnOk P w K mg base CX0 1 _ d1 ["self", "value"] (spHL K) := ok_hl F1 Y
  refine F.ok scEn (fun vs H Q E h => ?_) (fun cdv A outer s H vs Q E hr h => ?_)
  · obtain ⟨x, v, d, xs, ls, ts, rfl, _⟩ := h
    rfl
  · have hu := hu_of hr
    have hr1 : Room 1 _ := hr.mono (by decide)
    refine ⟨_, pss_cons (ps_if (pt_not (pt_val (pe_meth (pv 0) Y.cFrame Y.mFrame_HasLetter G1 hr1 b1 .nil pass0 (pa_cons (pv 1) pa_nil)))) (pss_one (ps_raise rfl (takes_of rfl rfl rfl rfl) (pmk_ra (raUN Y) hr (by rfl) Y.gUnknownName (pa_cons (pv 1) pa_nil)))) pss_nil)
      (pss_one (ps_ret (pe_dget hu (pe_fld (pv 0) rfl) (pv 1) nosl))), ?_⟩
    obtain ⟨x, v, d, xs, ls, ts, rfl, hF, nd, hv, kE, kQ⟩ := h
    obtain ⟨dx, a, l, t, m, h1, h2, h3, h4, h5⟩ := id hF
    refine ⟨_, rfl, x, dx, _, rfl, h1, rfl, _, rfl, x, v, d, xs, ls, ts, rfl, hF, hv, _, rfl, ?_⟩
    cases c : isTx v (ls.map (·.1)) with
    | false =>
      refine iteT ?_
      exact ⟨_, rfl, (by show 1 ≤ 1000; decide), fun q hq => mkO_at (fun d H' s hd e => kE c d H' s hd e) q hq⟩
    | true =>
      refine iteF ?_
      obtain ⟨z, hz, e⟩ := List.any_eq_true.mp c
      obtain rfl : v = .str z := of_decide_eq_true e
      obtain ⟨q, hq, rfl⟩ := List.mem_map.mp hz
      obtain ⟨i, li, ei⟩ := List.getElem_of_mem hq
      obtain ⟨p, dg, hp⟩ := h5.get nd (show ls[i]? = some q by rw [List.getElem?_eq_getElem li, ei])
      exact ⟨_, rfl, x, _, dx, _, _, rfl, h1, Y.cFrame, Y.nFrameEnds, rfl, _, rfl, m, .ref p, rfl, dg, kQ q hq rfl p hp⟩
end
end K22

namespace K22
open PySem PySem.Spec PyProof.Rows L2 Ow Xv
/-! ### rows of texts as data; what a frame has from a sort; equal frames -/
def ltS (q : Lt) : List Str := [q.1, q.2.1, q.2.2]
def ttS (q : Tt) : List Str := [q.1, q.2]
def rowD (r : List Str) : PyData := .tuple (r.map PyData.str)
theorem ltS_inj : ∀ {a b : Lt}, ltS a = ltS b → a = b
  | (_, _, _), (_, _, _), h => by cases h; rfl
theorem ttS_inj : ∀ {a b : Tt}, ttS a = ttS b → a = b
  | (_, _), (_, _), h => by cases h; rfl
theorem map_inj' {α β : Type} {f : α → β} (hf : ∀ {a b : α}, f a = f b → a = b) : ∀ {xs ys : List α}, xs.map f = ys.map f → xs = ys
  | [], [], _ => rfl
  | [], _ :: _, h => by cases h
  | _ :: _, [], h => by cases h
  | x :: xs, y :: ys, h => by
    injection h with h1 h2
    rw [hf h1, map_inj' hf h2]
theorem eqv_rows : ∀ xs ys : List (List Str), PyData.eqv (.tuple (xs.map rowD)) (.tuple (ys.map rowD)) = decide (xs = ys)
  | [], [] => by simp [PyData.eqv, PyData.eqvAll]
  | [], y :: ys => by simp [PyData.eqv, PyData.eqvAll]
  | x :: xs, [] => by simp [PyData.eqv, PyData.eqvAll]
  | x :: xs, y :: ys => by
    have e := eqv_rows xs ys
    have e1 := eqv_strs x y
    simp only [PyData.eqv] at e e1
    simp only [List.map_cons, PyData.eqv, PyData.eqvAll, rowD, e, e1]
    by_cases h : x = y <;> by_cases g : xs = ys <;> simp [h, g]
theorem eqv_lrows (xs ys : List (List Str)) : PyData.eqv (.list (xs.map rowD)) (.list (ys.map rowD)) = decide (xs = ys) := by
  have e := eqv_rows xs ys
  simp only [PyData.eqv] at e ⊢
  exact e
/-- at these stand tuples of these texts -/
theorem dpa_rows {K : PySem.W.Frag} {H : Hp} : ∀ {as : List Addr} {rows : List (List Str)}, AllT K H as (rows.map fun r => r.map V.str) → DpAll K H (as.map V.ref) (rows.map rowD)
  | [], [], _ => .nil
  | [], _ :: _, h => by cases h.1
  | _ :: _, [], h => by cases h.1
  | a :: as, r :: rows, h => by
    obtain ⟨vs, e, ht⟩ := h.2 0 a rfl
    cases e
    refine .cons (.tup ht (Xv.dpa_str r)) (dpa_rows ⟨by simpa using h.1, fun i t e => h.2 (i + 1) t e⟩)
theorem rows_lt (ls : List Lt) : ls.map ltV = (ls.map ltS).map fun r => r.map V.str := by rw [List.map_map]; rfl
theorem rows_tt (ts : List Tt) : ts.map ttV = (ts.map ttS).map fun r => r.map V.str := by rw [List.map_map]; rfl
def OkRow (r : List Str) : Prop := ∀ x ∈ r, Okx x
theorem lay_rows : ∀ {rows : List (List Str)}, (∀ r ∈ rows, OkRow r) → PyData.canLayAll0 (rows.map rowD) = true
  | [], _ => by simp [PyData.canLayAll0]
  | r :: rows, h => by
    have e := lay_okx (h r List.mem_cons_self)
    simp [PyData.canLayAll0, rowD, PyData.canLay0, e, lay_rows fun x hx => h x (List.mem_cons_of_mem _ hx)]
theorem dep_rows : ∀ rows : List (List Str), PyData.depthAll (rows.map rowD) ≤ 1
  | [] => by simp [PyData.depthAll]
  | r :: rows => by
    have := dep_rows rows
    have e := dep_strs r
    simp only [List.map_cons, PyData.depthAll, rowD, PyData.depth, e]
    omega
theorem shp_rowsT {rows : List (List Str)} (h : ∀ r ∈ rows, OkRow r) : SeqAt.shaped (.tuple (rows.map rowD)) = true := shp_of (by simpa [PyData.canLay0] using lay_rows h) (by
  have := dep_rows rows
  simp only [PyData.depth]
  omega)
theorem okr_lt {ls : List Lt} (h : ∀ q ∈ ls, Okx q.1 ∧ Okx q.2.1 ∧ Okx q.2.2) : ∀ r ∈ ls.map ltS, OkRow r := fun r hr x hx => by
  obtain ⟨q, hq, rfl⟩ := List.mem_map.mp hr
  obtain ⟨a, b, c⟩ := h q hq
  unfold ltS at hx
  simp only [List.mem_cons, List.not_mem_nil, or_false] at hx
  rcases hx with rfl | rfl | rfl
  · exact a
  · exact b
  · exact c
theorem okr_tt {ts : List Tt} (h : ∀ q ∈ ts, Okx q.1 ∧ Okx q.2) : ∀ r ∈ ts.map ttS, OkRow r := fun r hr x hx => by
  obtain ⟨q, hq, rfl⟩ := List.mem_map.mp hr
  obtain ⟨a, b⟩ := h q hq
  unfold ttS at hx
  simp only [List.mem_cons, List.not_mem_nil, or_false] at hx
  rcases hx with rfl | rfl
  · exact a
  · exact b
theorem shp_tok {xs : List Str} (h : ∀ x ∈ xs, Okx x) : SeqAt.shaped (.tuple (xs.map PyData.str)) = true := shp_of (by simpa [PyData.canLay0] using lay_okx h) (by simp only [PyData.depth, dep_strs]; omega)
abbrev NTF : List Str := ["self", "sort", "total"]
theorem scTF : FnScope NTF ["self", "sort"] (defScope sFrame_TotalsFrom) := ⟨rfl, rfl, rfl, by decide +kernel, rfl, by decide +kernel, by decide +kernel⟩
theorem scEq : FnScope ["self", "other"] ["self", "other"] (defScope sFrame_Eq) := ⟨rfl, rfl, rfl, by decide +kernel, rfl, by decide +kernel, by decide +kernel⟩
def tfs (ls : List Lt) (ts : List Tt) (z : Str) : List Tt := ts.filter fun t => decide ((stepOf (endOf ls t.1) t).1 = z)
def ttTF (K : PySem.W.Frag) : TT := tTest (tOp rEq (tOp (rIxT K) (tCall (spSO K) [] E0 (tCons (tFld K (tVar 0) "_ends") (tCons (tVar 2) tNil))) (tC (.int 0))) (tVar 1))
def spTF (K : PySem.W.Frag) : Sp := fun vs H Q E => ∃ (x : Addr) (v : V) (d : PyData) (xs : List Str) (ls : List Lt) (ts : List Tt), vs = [.ref x, v] ∧ FrmAt K H x xs ls ts ∧ Good xs ls ts ∧ Any K H v d ∧
  (isTx v xs = false → ∀ (d : Addr) (H' : Hp), Same H H' → H d = none → H' d = some (.xd [("name", v)]) → E (.ref (CUnknownName K)) (some d) H') ∧
  ∀ z, z ∈ xs → v = .str z → ∀ (l : Addr) (as : List Addr) (H' : Hp), Same H H' → H l = none → H' l = some (.lst (as.map V.ref)) → AllT K H' as ((tfs ls ts z).map ttV) → Q (.ref l) H'
def spEqF (K : PySem.W.Frag) : Sp := fun vs H Q _ => ∃ (x : Addr) (y : V) (xs : List Str) (ls : List Lt) (ts : List Tt), vs = [.ref x, y] ∧ FrmAt K H x xs ls ts ∧ FrIn xs ls ts ∧
  ((∃ (b : Addr) (xs2 : List Str) (ls2 : List Lt) (ts2 : List Tt), y = .ref b ∧ FrmAt K H b xs2 ls2 ts2 ∧ FrIn xs2 ls2 ts2 ∧ Q (.bl (decide (xs = xs2 ∧ ls = ls2 ∧ ts = ts2))) H) ∨ ∃ T, Oth K H y T ∧ Q (.bl false) H)
section
variable {P : Program} {w : World} {K : PySem.W.Frag} {mg : Str → Option Value} {base : Heap} {f : Addr} {fd : FuncData}
theorem ok_tf (F : FnM K "totals_from" "Frame.totals_from" sFrame_TotalsFrom f fd) (Y : Fx w K mg) : FnOk P w K mg base (L2.CX P w) 3 f fd ["self", "sort"] (spTF K) := by
  obtain ⟨d1, F1⟩ := Y.dFrame_HasSort
  obtain ⟨d5, F5⟩ := Y.dStepOf
  have b1 := FunD.bindsN (ps := ["self", "value"]) F1 fun _ _ _ _ _ _ us hl => match us, hl with | [_, _], _ => rfl
  have b5 := FunD.bindsN (ps := ["ends", "total"]) F5 fun _ _ _ _ _ _ us hl => match us, hl with | [_, _], _ => rfl
  have G1 : FnOk P w K mg base CX0 1 _ d1 ["self", "value"] (spHS K) := ok_hs F1 Y
  have G5 : FnOk P w K mg base CX0 1 _ d5 ["ends", "total"] (spSO K) := ok_so F5 Y
  refine F.ok scTF (fun vs H Q E h => ?_) (fun cdv A outer s H vs Q E hr h => ?_)
  · obtain ⟨x, v, d, xs, ls, ts, rfl, _⟩ := h
    rfl
  · have hu := hu_of hr
    have nd := scTF.nd
    have hr1 : Room 1 _ := hr.mono (by decide)
    refine ⟨_, pss_cons (ps_if (pt_not (pt_val (pe_meth (pv 0) Y.cFrame Y.mFrame_HasSort G1 hr1 b1 .nil pass0 (pa_cons (pv 1) pa_nil)))) (pss_one (ps_raise rfl (takes_of rfl rfl rfl rfl) (pmk_ra (raUN Y) hr (by rfl) Y.gUnknownName (pa_cons (pv 1) pa_nil)))) pss_nil)
      (pss_one (ps_ret (pe_lc (own := [("total", 2)]) (g := gName 2) (tt := ttTF K) (te := tVar 2) rfl nd (pi_seqA (pe_fld (pv 0) rfl)) (blkOk_by (N := NTF) (sc := defScope sFrame_TotalsFrom) (by decide +kernel)) (fun _ _ _ _ _ => pg_name (i := 2) nd rfl (Or.inl rfl))
        (fun _ _ _ _ _ => pts_one (pt_cmpR op_eq (pe_ix ix_tup (pe_call G5 hr1 (by rfl) Y.gStepOf F5.kp b5 .nil pass0 (pa_cons (pe_fld (pv 0) rfl) (pa_cons (pv 2) pa_nil))) pe_int (fun _ _ => rfl)) (pv 1) (nomark _))) (fun _ _ _ _ _ => pv 2)))), ?_⟩
    obtain ⟨x, v, d, xs, ls, ts, rfl, hF, gd, hv, kE, kQ⟩ := h
    obtain ⟨dx, a, l, t, m, h1, h2, h3, ⟨bs, h4, h6⟩, h5⟩ := id hF
    refine ⟨_, rfl, x, dx, _, rfl, h1, rfl, _, rfl, x, v, d, xs, ls, ts, rfl, hF, hv, _, rfl, ?_⟩
    cases c : isTx v xs with
    | false =>
      refine iteT ?_
      exact ⟨_, rfl, (by show 1 ≤ 1000; decide), fun q hq => mkO_at (fun d H' s hd e => kE c d H' s hd e) q hq⟩
    | true =>
      refine iteF ?_
      obtain ⟨z, hz, e⟩ := List.any_eq_true.mp c
      obtain rfl : v = .str z := of_decide_eq_true e
      have lb : bs.length = ts.length := by rw [h6.1, List.length_map]
      have l60 := gd.fi.lt
      refine ⟨_, rfl, x, _, dx, _, _, rfl, h1, Y.cFrame, Y.nFrameTotals, rfl, t, _, rfl, .inr h4, fun J GG wk gk D hD => ?_⟩
      refine lc_it wk (fun i G => ∃ us : List Addr, G D = some (.lst (us.map V.ref)) ∧ AllT K G us ((tfs ls (ts.take i) z).map ttV) ∧ Same H G) ⟨[], upd_same, AllT.nil, same_upd hD⟩ (fun i G _ ⟨_, _, _, p⟩ => gk G p) ?_ ?_
      · rintro i v G G' hi ⟨us, e, hA, sm⟩ ⟨rfl, ev⟩
        obtain ⟨b, eb, rfl⟩ := ref_at ev
        obtain ⟨vs, e1, hB⟩ := h6.2 i b eb
        obtain ⟨tt, e2, rfl⟩ := tt_at e1
        have li := (List.getElem?_eq_some_iff.mp e2).1
        obtain ⟨mq, nq⟩ := endOf_ok (gd.mem tt (List.mem_of_getElem? e2))
        obtain ⟨j, lj, ej⟩ := List.getElem_of_mem mq
        obtain ⟨pa, dg, hp⟩ := (h5.same sm).get gd.nd (show ls[j]? = some (endOf ls tt.1) by rw [List.getElem?_eq_getElem lj, ej])
        refine ⟨rfl, ?_⟩
        show ttTF K _ _ _
        refine ⟨_, rfl, x, _, dx, _, _, rfl, sm _ _ h1, Y.cFrame, Y.nFrameEnds, rfl, _, rfl, m, b, pa, endOf ls tt.1, tt, rfl, dg, hp, sqt_same sm hB, nq.symm, fun T2 G2 s7 hT2 => ?_⟩
        refine ⟨T2, _, 0, _, rfl, rfl, hT2, rfl, _, rfl, rfl, _, rfl, ?_⟩
        have smA := sm.trans s7
        have lu : us.length ≤ i := by
          have z1 := hA.1
          rw [List.length_map] at z1
          have z2 := List.length_filter_le (fun t => decide ((stepOf (endOf ls t.1) t).1 = z)) (ts.take i)
          rw [List.length_take] at z2
          unfold tfs at z1
          omega
        have tk : tfs ls (ts.take (i + 1)) z = tfs ls (ts.take i) z ++ if (stepOf (endOf ls tt.1) tt).1 = z then [tt] else [] := by
          unfold tfs
          rw [List.take_add_one, e2, List.filter_append]
          congr 1
          show List.filter _ [tt] = _
          rw [List.filter_cons, List.filter_nil]
          by_cases q : (stepOf (endOf ls tt.1) tt).1 = z
          · rw [if_pos q, if_pos (decide_eq_true q)]
          · rw [if_neg q, if_neg (by rw [decide_eq_false q]; exact Bool.false_ne_true)]
        refine ite2 (fun hc => ?_) (fun hc => ?_)
        · have hc2 : (stepOf (endOf ls tt.1) tt).1 = z := V.str.inj (of_decide_eq_true hc)
          rw [if_pos hc2] at tk
          have e3 := s7 _ _ e
          refine ⟨_, rfl, _, e3, ?_, us ++ [b], ?_, ?_, same_put hD smA⟩
          · rw [List.length_map]
            exact small1000 (by omega)
          · rw [upd_same, List.map_append]
            rfl
          · rw [tk, List.map_append]
            exact ((hA.same s7).snoc (sqt_same smA hB)).put e3
        · have hc2 : ¬ (stepOf (endOf ls tt.1) tt).1 = z := fun q => hc (decide_eq_true (congrArg V.str q))
          rw [if_neg hc2, List.append_nil] at tk
          exact ⟨us, s7 _ _ e, by rw [tk]; exact hA.same s7, smA⟩
      · rintro G ⟨us, e, hA, sm⟩
        rw [List.length_map, lb, List.take_length] at hA
        exact kQ z hz rfl D us G sm hD e hA
theorem ok_eqf (F : FnM K "__eq__" "Frame.__eq__" sFrame_Eq f fd) (Y : Fx w K mg) : FnOk P w K mg base CX0 1 f fd ["self", "other"] (spEqF K) := by
  refine okD F scEq (fun vs H Q E h => ?_) (fun cdv A outer s H vs Q E hr h => ?_)
  · obtain ⟨x, y, xs, ls, ts, rfl, _⟩ := h
    rfl
  · have hu64 := hu64_of hr
    refine ⟨_, pss_one (ps_ret (pe_and (pe_callB call_isi (by rfl) Y.bIsinstance boot_isinstance (pa_cons (pv 1) (pa_cons (pe_glob (v := .ref (CFrame K)) (by rfl) Y.gFrame rfl) pa_nil)))
      (pe_and (pe_cmpR (op_eqD hu64) (pe_fld (pv 0) rfl) (pe_fld (pv 1) rfl) (nomark _)) (pe_and (pe_cmpR (op_eqD hu64) (pe_fld (pv 0) rfl) (pe_fld (pv 1) rfl) (nomark _)) (pe_one (pe_cmpR (op_eqD hu64) (pe_fld (pv 0) rfl) (pe_fld (pv 1) rfl) (nomark _))))))), ?_⟩
    obtain ⟨x, y, xs, ls, ts, rfl, ⟨dx, a, l, t, m, h1, h2, ⟨as, h3, h6⟩, ⟨bs, h4, h7⟩, h5⟩, fi, h | ⟨T, ho, k⟩⟩ := h
    · obtain ⟨b, xs2, ls2, ts2, rfl, ⟨dx', a', l', t', m', g1, g2, ⟨as', g3, g6⟩, ⟨bs', g4, g7⟩, g5⟩, fi2, k⟩ := h
      obtain ⟨i1, i2⟩ := an Y.x7
      obtain ⟨i3, i4⟩ := an i1
      obtain ⟨i5, i6⟩ := an i2
      refine ⟨_, rfl, _, _, _, _, true, rfl, .own _, .base (.ins g1 Y.cFrame (He.eqO_ok i3) (He.eqO_ok i5) (of_decide_eq_true i6) (of_decide_eq_true i4)), of_decide_eq_true Y.x8, true, rfl, ?_⟩
      rw [if_pos rfl]
      rw [rows_lt] at h6 g6
      rw [rows_tt] at h7 g7
      refine ⟨_, rfl, x, _, dx, _, _, rfl, h1, Y.cFrame, Y.nFrameSorts, rfl, _, rfl, b, _, dx', _, _, rfl, g1, Y.cFrame, Y.nFrameSorts, rfl, .tuple (xs.map PyData.str), .tuple (xs2.map PyData.str), .tup h2 (Xv.dpa_str xs), .tup g2 (Xv.dpa_str xs2), shp_tok fi.ox, shp_tok fi2.ox, _, rfl, ?_⟩
      rw [eqv_strs]
      by_cases c1 : xs = xs2
      · rw [decide_eq_true c1, if_pos rfl]
        refine ⟨_, rfl, x, _, dx, _, _, rfl, h1, Y.cFrame, Y.nFrameLetters, rfl, _, rfl, b, _, dx', _, _, rfl, g1, Y.cFrame, Y.nFrameLetters, rfl, .tuple ((ls.map ltS).map rowD), .tuple ((ls2.map ltS).map rowD), .tup h3 (dpa_rows h6), .tup g3 (dpa_rows g6), shp_rowsT (okr_lt fi.ol), shp_rowsT (okr_lt fi2.ol), _, rfl, ?_⟩
        rw [eqv_rows]
        by_cases c2 : ls = ls2
        · rw [decide_eq_true (congrArg _ c2), if_pos rfl]
          refine ⟨_, rfl, x, _, dx, _, _, rfl, h1, Y.cFrame, Y.nFrameTotals, rfl, _, rfl, b, _, dx', _, _, rfl, g1, Y.cFrame, Y.nFrameTotals, rfl, .tuple ((ts.map ttS).map rowD), .tuple ((ts2.map ttS).map rowD), .tup h4 (dpa_rows h7), .tup g4 (dpa_rows g7), shp_rowsT (okr_tt fi.ot), shp_rowsT (okr_tt fi2.ot), ?_⟩
          rw [eqv_rows]
          have e : decide (ts.map ttS = ts2.map ttS) = decide (xs = xs2 ∧ ls = ls2 ∧ ts = ts2) := by
            by_cases c3 : ts = ts2
            · rw [decide_eq_true (congrArg _ c3), decide_eq_true ⟨c1, c2, c3⟩]
            · rw [decide_eq_false (fun z => c3 (map_inj' ttS_inj z)), decide_eq_false (fun z => c3 z.2.2)]
          rw [e]
          exact k
        · rw [decide_eq_false (fun z => c2 (map_inj' ltS_inj z)), if_neg Bool.false_ne_true]
          rw [decide_eq_false (fun z => c2 z.2.1)] at k
          exact k
      · rw [decide_eq_false c1, if_neg Bool.false_ne_true]
        rw [decide_eq_false (fun z => c1 z.1)] at k
        exact k
    · have kf : ∀ T', T' ∈ ["list", "int"] → PySem.W.kitOne K (.type T') (.ref (CFrame K)) = some false := fun T' hT => of_decide_eq_true (an (List.all_eq_true.mp Y.x9 T' hT)).1
      obtain ⟨T', hT, hm⟩ : ∃ T', TyX K H y (.type T') ∧ T' ∈ ["list", "int"] := by
        cases ho with
        | lst h => exact ⟨_, sql_ty h, by simp⟩
        | int i => exact ⟨_, .base (.int i), by simp⟩
      refine ⟨_, rfl, _, _, _, _, false, rfl, .own _, hT, kf T' hm, false, rfl, ?_⟩
      rw [if_neg Bool.false_ne_true]
      exact k
end
end K22

namespace K22
open PySem PySem.Spec PyProof.Rows L2 Ow Xv
/-! ### the law's own words, twice, round -/
theorem scLW : FnScope ["_law_value", "_law_sign"] ["_law_value"] (defScope sLawIsWord) := ⟨rfl, rfl, rfl, by decide +kernel, rfl, by decide +kernel, by decide +kernel⟩
def spLW : Sp := fun vs H Q _ => ∃ x : Str, vs = [.str x] ∧ Okx x ∧ ∀ H', Same H H' → Q (.bl (isW x)) H'
def sg1 (c : Nat) : Str := ⟨#[c]⟩
def ttIW : TT := tTest (tOp (fun x y H Q => ∃ (c : Nat) (z : Str), x = .str ⟨#[c]⟩ ∧ y = .str z ∧ Q (.bl (!decide (c ∈ z.cps.toList))) H) (tVar 1) (tC (.str SG)))
theorem sg1_ok {x : Str} (h : PyData.strOk x = true) {c : Nat} (hc : c ∈ x.cps.toList) : PyData.strOk (sg1 c) = true := by
  unfold PyData.strOk at h ⊢
  rw [Array.all_eq_true'] at h ⊢
  intro y hy
  have e : y = c := by simpa [sg1] using hy
  rw [e]
  exact h c (Array.mem_toList_iff.mp hc)
theorem lay_sg {x : Str} (h : PyData.strOk x = true) : ∀ {cs : List Nat}, (∀ c ∈ cs, c ∈ x.cps.toList) → PyData.canLayAll0 ((cs.map sg1).map PyData.str) = true
  | [], _ => by simp [PyData.canLayAll0]
  | c :: cs, hc => by
    have e := lay_sg h fun y hy => hc y (List.mem_cons_of_mem _ hy)
    simp only [List.map_cons, PyData.canLayAll0, PyData.canLay0, sg1_ok h (hc c List.mem_cons_self), e, Bool.and_self]
theorem eqv_nil (ds : List PyData) : PyData.eqv (.list ds) (.list []) = ds.isEmpty := by
  cases ds <;> simp [PyData.eqv, PyData.eqvAll]
section
variable {P : Program} {w : World} {K : PySem.W.Frag} {mg : Str → Option Value} {base : Heap} {f : Addr} {fd : FuncData}
theorem ok_lw (F : FnP K "_law_is_word" sLawIsWord f fd) (Y : Fx w K mg) : FnOk P w K mg base CX0 1 f fd ["_law_value"] spLW := by
  refine okD F scLW (fun vs H Q E h => ?_) (fun cdv A outer s H vs Q E hr h => ?_)
  · obtain ⟨x, rfl, _⟩ := h
    rfl
  · have nd := scLW.nd
    have B := Y.bl
    have hu64 := hu64_of hr
    refine ⟨_, pss_cons (ps_if (pw_or (pt_not (pt_val (pe_callB call_isi (by rfl) Y.bIsinstance boot_isinstance (pa_cons (pv 0) (pa_cons (pe_bltn (v := .ty "str") (u := .type "str") (by rfl) Y.bStr (by decide +kernel) rfl) pa_nil)))))
        (pw_or (pt_not (pt_chain op_lt op_lt pe_int (pe_callB call_len_str (by rfl) B.len PySem.boot_len (pa_cons (pv 0) pa_nil)) pe_int)) (pw_or1 (pt_cmpR op_notIn_sign (pe_ix ix_str (pv 0) pe_int (fun _ _ => rfl)) pe_str (by rfl))))).pt (pss_one (ps_ret pe_bl)) pss_nil)
      (pss_one (ps_ret (pe_cmpR (op_eqD hu64) (pe_lc (own := [("_law_sign", 1)]) (g := gName 1) (tt := ttIW) (te := tVar 1) rfl nd (pi_str (pv 0)) (blkOk_by (N := ["_law_value", "_law_sign"]) (sc := defScope sLawIsWord) (by decide +kernel)) (fun _ _ _ _ _ => pg_name (i := 1) nd rfl (Or.inl rfl))
        (fun _ _ _ _ _ => pts_one (pt_cmpR op_notIn_sign (pv 1) pe_str (by rfl))) (fun _ _ _ _ _ => pv 1)) (pe_lst pa_nil) (by rfl)))), ?_⟩
    obtain ⟨x, rfl, ox, k⟩ := h
    have lz : x.length ≤ sizeLine := Nat.le_of_lt (small1000 (by have := ox.l; omega))
    refine ⟨_, rfl, _, _, _, _, true, rfl, .ty _, .base (.str x), (of_decide_eq_true Y.x0), true, rfl, iteF ⟨_, rfl, x, rfl, lz, _, _, rfl, rfl, _, rfl, ite2 (fun h1 => ?_) (fun n => ?_)⟩⟩
    · have l1 : 1 ≤ x.length := by
        have : (0 : Int) < (x.length : Int) := of_decide_eq_true h1
        omega
      refine ⟨_, _, rfl, rfl, _, rfl, ite2 (fun h2 => ?_) (fun h2 => ?_)⟩
      · have z : isW x = false := by
          have e : decide ((x.length : Int) < 13) = false := by simpa using h2
          have e2 : ¬ (x.length ≤ 12) := by
            have := of_decide_eq_false e
            omega
          unfold isW
          rw [decide_eq_false e2, Bool.false_and, Bool.and_false]
        rw [z] at k
        exact k _ (Same.refl _)
      · have l2 : x.length ≤ 12 := by
          have e : decide ((x.length : Int) < 13) = true := by simpa using h2
          have := of_decide_eq_true e
          omega
        obtain ⟨c, ec⟩ : ∃ c, x.cps[0]? = some c := ⟨x.cps[0]'(show 0 < x.cps.size from l1), Array.getElem?_eq_getElem _⟩
        have ew : isW x = (inC LT c && x.cps.toList.all (inC SG)) := by
          unfold isW
          rw [decide_eq_true l1, decide_eq_true l2, ec]
          rfl
        rw [ew] at k
        refine ⟨_, rfl, x, 0, c, rfl, rfl, lz, (show atI x.cps.toList ((0 : Nat) : Int) = some c from atI_nat (by rw [Array.getElem?_toList]; exact ec)), c, LT, rfl, rfl, _, rfl, ite2 (fun h3 => ?_) (fun h3 => ?_)⟩
        · have e3 : inC LT c = false := by
            have z : (!decide (c ∈ LT.cps.toList)) = true := h3
            show decide (c ∈ LT.cps.toList) = false
            simpa using z
          rw [e3, Bool.false_and] at k
          exact k _ (Same.refl _)
        · have e3 : inC LT c = true := by
            show decide (c ∈ LT.cps.toList) = true
            by_cases z : c ∈ LT.cps.toList
            · exact decide_eq_true z
            · exact absurd (show (!decide (c ∈ LT.cps.toList)) = true by rw [decide_eq_false z]; rfl) h3
          rw [e3, Bool.true_and] at k
          refine ⟨_, rfl, x, rfl, fun D hD => ?_⟩
          refine lc_it walk_str (fun i H' => H' D = some (.lst ((((x.cps.toList.take i).filter fun c => !inC SG c).map sg1).map V.str)) ∧ Same H H') ⟨upd_same, same_upd hD⟩ (fun _ _ _ _ => trivial) ?_ ?_
          · rintro i v G G' hi ⟨e, q⟩ ⟨rfl, z, ez, rfl⟩
            have ez2 : x.cps.toList[i]? = some z := by rw [Array.getElem?_toList]; exact ez
            have tk : (x.cps.toList.take (i + 1)).filter (fun c => !inC SG c) = (x.cps.toList.take i).filter (fun c => !inC SG c) ++ if (!inC SG z) = true then [z] else [] := by
              rw [List.take_add_one, ez2, List.filter_append]
              congr 1
              show List.filter _ [z] = _
              rw [List.filter_cons, List.filter_nil]
            refine ⟨rfl, ?_⟩
            show ttIW _ _ _
            refine ⟨_, rfl, z, SG, rfl, rfl, _, rfl, ite2 (fun hc => ?_) (fun hc => ?_)⟩
            · have hc2 : (!inC SG z) = true := hc
              rw [if_pos hc2] at tk
              refine ⟨_, rfl, _, e, ?_, ?_, same_put hD q⟩
              · have l5 := List.length_filter_le (fun c => !inC SG c) (x.cps.toList.take i)
                rw [List.length_take] at l5
                rw [List.length_map, List.length_map]
                have : i < x.length := hi
                exact small1000 (by omega)
              · rw [upd_same, tk, List.map_append, List.map_append]
                rfl
            · have hc2 : ¬ (!inC SG z) = true := hc
              rw [if_neg hc2, List.append_nil] at tk
              exact ⟨by rw [tk]; exact e, q⟩
          · rintro G ⟨e, q⟩
            have lx : x.cps.size = x.cps.toList.length := by rw [Array.length_toList]
            rw [lx, List.take_length] at e
            refine ⟨szl (by show 0 ≤ 1000; decide), fun L hL => ?_⟩
            have sL := same_upd (o := .lst []) hL
            refine ⟨.list (((x.cps.toList.filter fun c => !inC SG c).map sg1).map PyData.str), .list [], .lst (SqL.of (sL _ _ e)) (Xv.dpa_str _), .lst (SqL.of upd_same) .nil, shp_of (by simpa [PyData.canLay0] using lay_sg ox.o (cs := x.cps.toList.filter fun c => !inC SG c) fun c hc => (List.mem_filter.mp hc).1) (by simp only [PyData.depth, dep_strs]; omega), shp_nil, ?_⟩
            rw [eqv_nil]
            have e5 : (((x.cps.toList.filter fun c => !inC SG c).map sg1).map PyData.str).isEmpty = x.cps.toList.all (inC SG) := by
              rw [List.isEmpty_map, List.isEmpty_map]
              generalize x.cps.toList = cs
              induction cs with
              | nil => rfl
              | cons c cs ih =>
                rw [List.filter_cons, List.all_cons]
                cases h : inC SG c with
                | true => simpa using ih
                | false => simp
            rw [e5]
            exact k _ (q.trans sL)
    · refine ⟨_, rfl, ite2 (fun h2 => ?_) (fun h2 => ?_)⟩
      · have z : isW x = false := by
          have e2 : ¬ (1 ≤ x.length) := by
            intro q
            exact n (decide_eq_true (show (0 : Int) < (x.length : Int) by omega))
          unfold isW
          rw [decide_eq_false e2, Bool.false_and]
        rw [z] at k
        exact k _ (Same.refl _)
      · exfalso
        exact h2 rfl
abbrev NTw : List Str := ["_law_names_here", "_law_at"]
theorem scTw : FnScope NTw ["_law_names_here"] (defScope sLawTwice) := ⟨rfl, rfl, rfl, by decide +kernel, rfl, by decide +kernel, by decide +kernel⟩
def spTw (K : PySem.W.Frag) : Sp := fun vs H Q _ => ∃ (a : Addr) (xs : List Str), vs = [.ref a] ∧ SqL K H a (xs.map V.str) ∧ xs.length ≤ 900 ∧ ∀ H', Same H H' → Q (optV (again xs)) H'
theorem ok_tw (F : FnP K "_law_twice" sLawTwice f fd) (Y : Fx w K mg) : FnOk P w K mg base CX0 1 f fd ["_law_names_here"] (spTw K) := by
  refine okD F scTw (fun vs H Q E h => ?_) (fun cdv A outer s H vs Q E hr h => ?_)
  · obtain ⟨a, xs, rfl, _⟩ := h
    rfl
  · have nd := scTw.nd
    refine ⟨_, pss_cons (ps_for PassesOwn.never rfl (pi_range1 (by rfl) Y.bRange (pa_cons (pe_callB call_len_seq (by rfl) Y.bLen PySem.boot_len (pa_cons (pv 0) pa_nil)) pa_nil)) (pg_name (i := 1) nd rfl (Or.inl rfl))
        (pss_one (ps_if (pt_cmpR op_in_seq (pe_ix ix_list (pv 0) (pv 1) (fun _ _ => rfl)) (pe_slice sl_list (pv 0) po_none (po_some (pv 1))) (by rfl)) (pss_one (ps_ret (pe_ix ix_list (pv 0) (pv 1) (fun _ _ => rfl)))) pss_nil)))
      (pss_one (ps_ret pe_non)), ?_⟩
    obtain ⟨a, xs, rfl, ha, lx, k⟩ := h
    refine ⟨_, rfl, a, _, rfl, .inl ha, _, rfl, by omega, by rw [List.length_map]; omega, ?_⟩
    rw [Int.toNat_natCast, List.length_map]
    refine for_range (lo := 0) (n := xs.length) (fun i σ G => (∃ v1, σ = [some (.ref a), v1]) ∧ firstN (fun i => xs[i]?.bind fun x => if x ∈ xs.take i then some x else none) i = none ∧ Same H G) ⟨⟨none, rfl⟩, rfl, Same.refl _⟩ ?_ ?_
    · rintro i σ G hi ⟨⟨v1, rfl⟩, hn, sm⟩
      have e0 : (0 : Int) + (i : Int) = (i : Int) := Int.zero_add _
      rw [e0]
      dsimp only [gName]
      change tIfS _ _ _ _ [some (.ref a), some (.int (i : Int))] G
      have ha' := sm.seq ha
      refine ⟨_, rfl, _, rfl, a, _, _, _, rfl, rfl, ha', str_ix hi, _, rfl, _, rfl, _, rfl, a, _, rfl, ha', fun T hT => ?_⟩
      have sT := same_upd (o := .lst (cutV (xs.map V.str) none (some (i : Int)))) hT
      rw [cutV_take, ← List.map_take] at sT ⊢
      refine ⟨T, _, rfl, .inl (SqL.of upd_same), rfl, fl_strs _, _, rfl, ?_⟩
      rw [if_neg Bool.false_ne_true, inV_strs]
      have ez : xs[i]? = some xs[i] := List.getElem?_eq_getElem hi
      refine ite2 (fun hc => ?_) (fun hc => ?_)
      · have hm : xs[i] ∈ xs.take i := of_decide_eq_true hc
        have e : again xs = some xs[i] := firstN_at hn (by show (xs[i]?.bind _) = _; rw [ez]; exact if_pos hm) hi
        rw [e] at k
        exact ⟨_, rfl, _, rfl, a, _, _, _, rfl, rfl, sT.seq ha', str_ix hi, k _ (sm.trans sT)⟩
      · have hm : xs[i] ∉ xs.take i := fun q => hc (decide_eq_true q)
        exact ⟨⟨_, rfl⟩, firstN_step hn (by show (xs[i]?.bind _) = _; rw [ez]; exact if_neg hm), sm.trans sT⟩
    · rintro σ G ⟨⟨v1, rfl⟩, hn, sm⟩
      have e : again xs = none := hn
      rw [e] at k
      exact k G sm
end
end K22

namespace K22
open PySem PySem.Spec PyProof.Rows L2 Ow Xv
/-! ### the law's own rounds -/
abbrev NRd : List Str := ["_law_sorts", "_law_steps", "_law_left", "_law_turn", "_law_sort", "_law_step"]
theorem scRd : FnScope NRd ["_law_sorts", "_law_steps"] (defScope sLawRound) := ⟨rfl, rfl, rfl, by decide +kernel, rfl, by decide +kernel, by decide +kernel⟩
/-- the block of the outer comprehension -/
def scRdx : Scope := { kind := .function, names := [(".0", .local), ("_law_sort", .cell), ("_law_left", .cell), ("_law_steps", .cell)], isGenerator := false, isCoroutine := false }
def ttRi (K : PySem.W.Frag) : TT := tAnd (tTest (tOp rEq (tOp (rIxT K) (tVar 5) (tC (.int 0))) (tVar 4))) (tTest (tOp (rIn K false) (tOp (rIxT K) (tVar 5) (tC (.int 1))) (tVar 2)))
def teRi (K : PySem.W.Frag) : TE := tLc (iList K (tVar 1)) (gName 5) (ttRi K) (tVar 5) [5]
def ttRd (K : PySem.W.Frag) : TT := tTest (tOp (rNeD K) (teRi K) (tLst tNil))
def spRd (K : PySem.W.Frag) : Sp := fun vs H Q _ => ∃ (s t : Addr) (xs : List Str) (S : List Tt), vs = [.ref s, .ref t] ∧ SqL K H s (xs.map V.str) ∧ xs.length ≤ 900 ∧ TupsAt K H t (S.map ttV) ∧ (∀ q ∈ S, Okx q.1 ∧ Okx q.2) ∧ S.length ≤ 900 ∧
  ∀ (l : Addr) (H' : Hp), Same H H' → H l = none → H' l = some (.lst ((rnd S xs).map V.str)) → Q (.ref l) H'
/-- the steps from x into these -/
def into (S : List Tt) (x : Str) (l : List Str) : List Tt := S.filter fun q => decide (q.1 = x) && decide (q.2 ∈ l)
theorem into_lead (S : List Tt) (x : Str) (l : List Str) : (!(into S x l).isEmpty) = l.any fun y => decide ((x, y) ∈ S) := by
  cases h : l.any fun y => decide ((x, y) ∈ S) with
  | true =>
    obtain ⟨y, hy, e⟩ := List.any_eq_true.mp h
    have m : (x, y) ∈ into S x l := List.mem_filter.mpr ⟨of_decide_eq_true e, by simp [hy]⟩
    cases z : into S x l with
    | nil => rw [z] at m; cases m
    | cons a b => rfl
  | false =>
    cases z : into S x l with
    | nil => rfl
    | cons a b =>
      exfalso
      have m : a ∈ into S x l := by rw [z]; exact List.mem_cons_self
      obtain ⟨m1, m2⟩ := List.mem_filter.mp m
      obtain ⟨m3, m4⟩ := an m2
      have e3 : a.1 = x := of_decide_eq_true m3
      have e4 : a.2 ∈ l := of_decide_eq_true m4
      have q := List.any_eq_false.mp h a.2 e4
      rw [← e3] at q
      exact q (decide_eq_true m1)
theorem shp_rowsL {rows : List (List Str)} (h : ∀ r ∈ rows, OkRow r) : SeqAt.shaped (.list (rows.map rowD)) = true := shp_of (by simpa only [PyData.canLay0] using lay_rows h) (by
  have := dep_rows rows
  simp only [PyData.depth]
  omega)
theorem leadN_app (S : List Tt) : ∀ (n : Nat) (l : List Str), (leadN S n l).length ≤ l.length
  | 0, l => Nat.le_refl _
  | n + 1, l => Nat.le_trans (lead_len S _) (leadN_app S n l)
section
variable {P : Program} {w : World} {K : PySem.W.Frag} {mg : Str → Option Value} {base : Heap} {f : Addr} {fd : FuncData}
theorem ok_rd (F : FnP K "_law_round" sLawRound f fd) (Y : Fx w K mg) : FnOk P w K mg base CX0 1 f fd ["_law_sorts", "_law_steps"] (spRd K) := by
  refine okD F scRd (fun vs H Q E h => ?_) (fun cdv A outer s H vs Q E hr h => ?_)
  · obtain ⟨a, t, xs, S, rfl, _⟩ := h
    rfl
  · have nd := scRd.nd
    have hu64 := hu64_of hr
    refine ⟨_, pss_cons (ps_set (i := 2) nd rfl (Or.inr rfl) (pe_callTy call_list_of (by rfl) Y.bList boot_list (pa_cons (pv 0) pa_nil)))
      (pss_cons (ps_for PassesOwn.never rfl (pi_range1 (by rfl) Y.bRange (pa_cons (pe_callB call_len_seq (by rfl) Y.bLen PySem.boot_len (pa_cons (pv 0) pa_nil)) pa_nil)) (pg_name (i := 3) nd rfl (Or.inl rfl))
        (pss_one (ps_set (i := 2) nd rfl (Or.inr rfl) (pe_lc (own := [("_law_sort", 4)]) (g := gName 4) (tt := ttRd K) (te := tVar 4) rfl nd (pi_list (pv 2)) (blkOk_by (N := NRd) (sc := defScope sLawRound) (by decide +kernel)) (fun _ _ _ _ _ => pg_name (i := 4) nd rfl (Or.inr rfl))
          (fun _ _ _ _ _ => pts_one (pt_cmpR (op_neD hu64) (pe_lc (own := [("_law_step", 5)]) (g := gName 5) (tt := ttRi K) (te := tVar 5) rfl nd (pi_list (pv 1)) (blkOk_by (N := NRd) (sc := scRdx) (by decide +kernel)) (fun _ _ _ _ _ => pg_name (i := 5) nd rfl (Or.inl rfl))
            (fun _ _ _ _ _ => pts_one (pw_and (pt_cmpR op_eq (pe_ix ix_tup (pv 5) pe_int (fun _ _ => rfl)) (pv 4) (nomark _)) (pw_and1 (pt_cmpR op_in_seq (pe_ix ix_tup (pv 5) pe_int (fun _ _ => rfl)) (pv 2) (by rfl)))).pt) (fun _ _ _ _ _ => pv 5)) (pe_lst pa_nil) (by rfl)))
          (fun _ _ _ _ _ => pv 4)))))
      (pss_one (ps_ret (pv 2)))), ?_⟩
    obtain ⟨a, t, xs, S, rfl, hs, lx, ht, hS, lS, k⟩ := h
    obtain ⟨as, q, la, g⟩ := id ht
    rw [List.length_map] at la
    refine ⟨_, rfl, a, _, rfl, .inl hs, fun L hL => ?_⟩
    have s0 := same_upd (o := .lst (xs.map V.str)) hL
    have eL : upd H L (.lst (xs.map V.str)) L = some (.lst (xs.map V.str)) := upd_same
    dsimp only [gName]
    refine ⟨_, rfl, a, _, rfl, .inl (s0.seq hs), _, rfl, by omega, by rw [List.length_map]; omega, ?_⟩
    rw [Int.toNat_natCast, List.length_map]
    refine for_range (lo := 0) (n := xs.length) (fun i σ G => ∃ (L : Addr) (v3 : Option V), σ = [some (.ref a), some (.ref t), some (.ref L), v3, none, none] ∧ H L = none ∧ G L = some (.lst ((leadN S i xs).map V.str)) ∧ Same H G) ⟨L, none, rfl, hL, eL, s0⟩ ?_ ?_
    · clear eL s0 hL L
      rintro i σ G hi ⟨L, v3, rfl, hL, eL, sm⟩
      dsimp only [gName]
      have ln := leadN_app S i xs
      have sq := sm.seq q
      refine ⟨_, rfl, L, rfl, ⟨_, SqL.of eL⟩, fun D hD => ?_⟩
      refine lc_list (K := K) (a := L) (xs := (leadN S i xs).map V.str) (fun j G' => G' D = some (.lst ((((leadN S i xs).take j).filter fun x => (leadN S i xs).any fun y => decide ((x, y) ∈ S)).map V.str)) ∧ Same G G') ⟨upd_same, same_upd hD⟩ (fun j G' _ p => SqL.of (p.2 _ _ eL)) ?_ ?_
      · rintro j v G' hj ⟨e, s1⟩
        obtain ⟨x, ex, rfl⟩ := str_at hj
        have lj := (List.getElem?_eq_some_iff.mp ex).1
        refine ⟨rfl, ?_⟩
        show tTest (tOp (rNeD K) (tLc (iList K (tVar 1)) (gName 5) (ttRi K) (tVar 5) [5]) (tLst tNil)) _ _ _
        refine ⟨_, rfl, t, rfl, ⟨_, s1.seq sq⟩, fun D2 hD2 => ?_⟩
        refine lc_list (K := K) (a := t) (xs := as.map V.ref) (fun m G2 => ∃ us : List Addr, G2 D2 = some (.lst (us.map V.ref)) ∧ AllT K G2 us ((into (S.take m) x (leadN S i xs)).map ttV) ∧ Same G' G2) ⟨[], upd_same, AllT.nil, same_upd hD2⟩ (fun m G2 _ ⟨_, _, _, p⟩ => p.seq (s1.seq sq)) ?_ ?_
        · rintro m v G2 hm ⟨us, e2, hA, s2⟩
          obtain ⟨b, eb, rfl⟩ := ref_at hm
          obtain ⟨vs, e1, hB⟩ := g m b eb
          obtain ⟨tt, et, rfl⟩ := tt_at e1
          have lm := (List.getElem?_eq_some_iff.mp et).1
          have hB2 := sqt_same (sm.trans (s1.trans s2)) hB
          have lu : us.length ≤ m := by
            have z1 := hA.1
            have z2 := List.length_filter_le (fun q => decide (q.1 = x) && decide (q.2 ∈ leadN S i xs)) (S.take m)
            rw [List.length_take] at z2
            unfold into at z1
            rw [List.length_map] at z1
            omega
          have tk : into (S.take (m + 1)) x (leadN S i xs) = into (S.take m) x (leadN S i xs) ++ if (decide (tt.1 = x) && decide (tt.2 ∈ leadN S i xs)) = true then [tt] else [] := by
            unfold into
            rw [List.take_add_one, et, List.filter_append]
            congr 1
            show List.filter _ [tt] = _
            rw [List.filter_cons, List.filter_nil]
          refine ⟨rfl, ?_⟩
          show ttRi K _ _ _
          refine ⟨_, rfl, b, _, 0, _, rfl, rfl, hB2, rfl, _, rfl, rfl, _, rfl, ite2 (fun hc => ?_) (fun hc => ?_)⟩
          · have c1 : tt.1 = x := V.str.inj (of_decide_eq_true hc)
            refine ⟨_, rfl, b, _, 1, _, rfl, rfl, hB2, rfl, _, rfl, L, _, rfl, .inl (SqL.of (s2 _ _ (s1 _ _ eL))), rfl, fl_strs _, _, rfl, ?_⟩
            rw [if_neg Bool.false_ne_true, inV_strs]
            refine ite2 (fun hc2 => ?_) (fun hc2 => ?_)
            · rw [if_pos (by rw [decide_eq_true c1, hc2]; rfl)] at tk
              refine ⟨_, rfl, _, e2, ?_, us ++ [b], ?_, ?_, same_put hD2 s2⟩
              · rw [List.length_map]
                exact small1000 (by omega)
              · rw [upd_same, List.map_append]
                rfl
              · rw [tk, List.map_append]
                exact (hA.snoc hB2).put e2
            · rw [if_neg (by rw [Bool.eq_false_iff.mpr hc2, Bool.and_false]; exact Bool.false_ne_true), List.append_nil] at tk
              exact ⟨us, e2, by rw [tk]; exact hA, s2⟩
          · have c1 : ¬ tt.1 = x := fun z => hc (decide_eq_true (congrArg V.str z))
            rw [if_neg (by rw [decide_eq_false c1, Bool.false_and]; exact Bool.false_ne_true), List.append_nil] at tk
            exact iteF ⟨us, e2, by rw [tk]; exact hA, s2⟩
        · rintro G2 ⟨us, e2, hA, s2⟩
          rw [List.length_map, la, List.take_length] at hA
          refine ⟨szl (by show 0 ≤ 1000; decide), fun L2 hL2 => ?_⟩
          have sL := same_upd (o := .lst []) hL2
          have hA2 := hA.same sL
          rw [rows_tt] at hA2
          refine ⟨.list (((into S x (leadN S i xs)).map ttS).map rowD), .list [], .lst (SqL.of (sL _ _ e2)) (dpa_rows hA2), .lst (SqL.of upd_same) .nil, shp_rowsL (okr_tt fun q hq => hS q (List.mem_filter.mp hq).1), shp_nil, _, rfl, ?_⟩
          rw [eqv_nil, List.isEmpty_map, List.isEmpty_map, into_lead]
          have sA := s1.trans (s2.trans sL)
          have e3 := sL _ _ (s2 _ _ e)
          have tk : ((leadN S i xs).take (j + 1)).filter (fun x => (leadN S i xs).any fun y => decide ((x, y) ∈ S)) = ((leadN S i xs).take j).filter (fun x => (leadN S i xs).any fun y => decide ((x, y) ∈ S)) ++ if ((leadN S i xs).any fun y => decide ((x, y) ∈ S)) = true then [x] else [] := by
            rw [List.take_add_one, ex, List.filter_append]
            congr 1
            show List.filter _ [x] = _
            rw [List.filter_cons, List.filter_nil]
          refine ite2 (fun hc => ?_) (fun hc => ?_)
          · rw [if_pos hc] at tk
            refine ⟨_, rfl, _, e3, ?_, ?_, same_put hD sA⟩
            · rw [List.length_map]
              have := List.length_filter_le (fun x => (leadN S i xs).any fun y => decide ((x, y) ∈ S)) ((leadN S i xs).take j)
              rw [List.length_take] at this
              exact small1000 (by omega)
            · rw [upd_same, tk, List.map_append]
              rfl
          · rw [if_neg hc, List.append_nil] at tk
            exact ⟨by rw [tk]; exact e3, sA⟩
      · rintro G' ⟨e, s1⟩
        rw [List.length_map, List.take_length] at e
        exact ⟨D, _, rfl, none_of sm hD, e, sm.trans s1⟩
    · rintro σ G ⟨L, v3, rfl, hL, eL, sm⟩
      exact ⟨_, rfl, k L G sm hL eL⟩
end
end K22

namespace K22
open PySem PySem.Spec PyProof.Rows L2 Ow Xv
/-! ### the law's own errors -/
theorem seq_any {a u : TS} {D : Ends} {σ : L2.St} {H : Hp} (I : L2.St → Hp → Prop) (hu : ∀ σ' H', I σ' H' → u D σ' H') (h : ∀ nx : L2.St → Hp → Prop, (∀ σ' H', I σ' H' → nx σ' H') → a { D with nx := nx } σ H) : tSeq a u D σ H := h _ hu
theorem cutV_tl (x : V) (xs : List V) : cutV (x :: xs) (some 1) none = xs := by
  have e1 : HT.sIx (x :: xs).length 0 (some 1) = 1 := by
    unfold HT.sIx
    simp
  unfold cutV
  rw [e1, HT.sIx_none]
  show (xs.take _) = xs
  rw [List.length_cons, Nat.add_sub_cancel, List.take_length]
theorem slice_from {K : PySem.W.Frag} {H : Hp} {a : Addr} {xs : List V} {σ : L2.St} {lo : Option Int} {Q : VK} (h : SqT K H a xs) (k : ∀ (T : Addr) (H' : Hp), Same H H' → SqT K H' T (cutV xs lo none) → Q (.ref T) H') :
    tNoPart σ H (fun u H3 => rSlA K (.ref a) lo u H3 Q) := slice_any h k
def kindF : Flt → Str
  | .nm _ => "name"
  | .tw _ => "twice"
  | .un _ => "unknown"
  | .fr _ => "frame"
  | .rd _ => "round"
/-- what an error tells -/
def FvAt (K : PySem.W.Frag) (H : Hp) : Flt → V → Prop
  | .nm x, v => v = .str x
  | .tw x, v => v = .str x
  | .un x, v => v = .str x
  | .fr x, v => v = .str x
  | .rd zs, v => ∃ T, v = .ref T ∧ SqT K H T (zs.map V.str)
theorem FvAt.same {K : PySem.W.Frag} {H H' : Hp} (s : Same H H') : ∀ {f : Flt} {v : V}, FvAt K H f v → FvAt K H' f v
  | .nm _, _, h => h
  | .tw _, _, h => h
  | .un _, _, h => h
  | .fr _, _, h => h
  | .rd _, _, ⟨T, e, h⟩ => ⟨T, e, sqt_same s h⟩
def FltAt (K : PySem.W.Frag) (H : Hp) (a : Addr) (f : Flt) : Prop := ∃ v : V, H a = some (.lst [.str (kindF f), v]) ∧ FvAt K H f v
theorem FltAt.same {K : PySem.W.Frag} {H H' : Hp} {a : Addr} {f : Flt} (s : Same H H') (h : FltAt K H a f) : FltAt K H' a f := by
  obtain ⟨v, e, g⟩ := h
  exact ⟨v, s _ _ e, g.same s⟩
def DueAt (K : PySem.W.Frag) (H : Hp) : Option Flt → V → Prop
  | none, v => v = .non
  | some f, v => ∃ a, v = .ref a ∧ FltAt K H a f
section
variable {xs : List Str} {ls : List Lt} {ts : List Tt}
theorem due_nm {z : Str} (e : badN (xs ++ ls.map (·.1)) = some z) : dueF xs ls ts = some (.nm z) := by unfold dueF; rw [e]
theorem due_tw1 {z : Str} (e : badN (xs ++ ls.map (·.1)) = none) (e1 : again xs = some z) : dueF xs ls ts = some (.tw z) := by unfold dueF; rw [e]; dsimp only; rw [e1]
theorem due_tw2 {z : Str} (e : badN (xs ++ ls.map (·.1)) = none) (e1 : again xs = none) (e2 : again (ls.map (·.1)) = some z) : dueF xs ls ts = some (.tw z) := by unfold dueF; rw [e]; dsimp only; rw [e1]; dsimp only; rw [e2]
theorem due_un1 {z : Str} (e : badN (xs ++ ls.map (·.1)) = none) (e1 : again xs = none) (e2 : again (ls.map (·.1)) = none) (e3 : badE xs ls = some z) : dueF xs ls ts = some (.un z) := by unfold dueF; rw [e]; dsimp only; rw [e1]; dsimp only; rw [e2]; dsimp only; rw [e3]
theorem due_un2 {z : Str} (e : badN (xs ++ ls.map (·.1)) = none) (e1 : again xs = none) (e2 : again (ls.map (·.1)) = none) (e3 : badE xs ls = none) (e4 : badT (ls.map (·.1)) ts = some z) : dueF xs ls ts = some (.un z) := by unfold dueF; rw [e]; dsimp only; rw [e1]; dsimp only; rw [e2]; dsimp only; rw [e3]; dsimp only; rw [e4]
theorem due_fr {z : Str} (e : badN (xs ++ ls.map (·.1)) = none) (e1 : again xs = none) (e2 : again (ls.map (·.1)) = none) (e3 : badE xs ls = none) (e4 : badT (ls.map (·.1)) ts = none) (e5 : badF ts = some z) : dueF xs ls ts = some (.fr z) := by
  unfold dueF; rw [e]; dsimp only; rw [e1]; dsimp only; rw [e2]; dsimp only; rw [e3]; dsimp only; rw [e4]; dsimp only; rw [e5]
theorem due_rd (e : badN (xs ++ ls.map (·.1)) = none) (e1 : again xs = none) (e2 : again (ls.map (·.1)) = none) (e3 : badE xs ls = none) (e4 : badT (ls.map (·.1)) ts = none) (e5 : badF ts = none) : dueF xs ls ts = if rnd (stepsOf ls ts) xs = [] then none else some (.rd (rnd (stepsOf ls ts) xs)) := by
  unfold dueF; rw [e]; dsimp only; rw [e1]; dsimp only; rw [e2]; dsimp only; rw [e3]; dsimp only; rw [e4]; dsimp only; rw [e5]
end
abbrev NDu : List Str := ["_law_sorts", "_law_letters", "_law_totals", "_law_names_here", "_law_name", "_law_some", "_law_letter", "_law_word", "_law_at", "_law_steps", "_law_ends", "_law_left"]
theorem scDu : FnScope NDu ["_law_sorts", "_law_letters", "_law_totals"] (defScope sLawDue) := ⟨rfl, rfl, rfl, by decide +kernel, rfl, by decide +kernel, by decide +kernel⟩
abbrev lD (a l t : Addr) (v3 v4 v5 v6 v7 v8 v9 v10 v11 : Option V) : L2.St := [some (.ref a), some (.ref l), some (.ref t), v3, v4, v5, v6, v7, v8, v9, v10, v11]
def ttDu (K : PySem.W.Frag) : TT := tTest (tOp rEq (tOp (rIxT K) (tVar 6) (tC (.int 0))) (tVar 4))
def teDu (K : PySem.W.Frag) : TE := tSl (rSlA K) (tVar 6) (tPart (tC (.int 1))) tNoPart
def spDu (K : PySem.W.Frag) : Sp := fun vs H Q _ => ∃ (a l t : Addr) (xs : List Str) (ls : List Lt) (ts : List Tt), vs = [.ref a, .ref l, .ref t] ∧ H a = some (.lst (xs.map V.str)) ∧ TupsAt K H l (ls.map ltV) ∧ TupsAt K H t (ts.map ttV) ∧ FrIn xs ls ts ∧
  ∀ (v : V) (H' : Hp), Same H H' → DueAt K H' (dueF xs ls ts) v → Q v H'
section
variable {P : Program} {w : World} {K : PySem.W.Frag} {mg : Str → Option Value} {base : Heap} {f : Addr} {fd : FuncData}
theorem ok_du (F : FnP K "_law_due" sLawDue f fd) (Y : Fx w K mg) : FnOk P w K mg base CX0 2 f fd ["_law_sorts", "_law_letters", "_law_totals"] (spDu K) := by
  obtain ⟨dW, FW⟩ := Y.dLawIsWord
  obtain ⟨dT, FT⟩ := Y.dLawTwice
  obtain ⟨dR, FR⟩ := Y.dLawRound
  have bW := FunD.bindsN (ps := ["_law_value"]) FW fun _ _ _ _ _ _ us hl => match us, hl with | [_], _ => rfl
  have bT := FunD.bindsN (ps := ["_law_names_here"]) FT fun _ _ _ _ _ _ us hl => match us, hl with | [_], _ => rfl
  have bR := FunD.bindsN (ps := ["_law_sorts", "_law_steps"]) FR fun _ _ _ _ _ _ us hl => match us, hl with | [_, _], _ => rfl
  have GW : FnOk P w K mg base CX0 1 _ dW ["_law_value"] spLW := ok_lw FW Y
  have GT : FnOk P w K mg base CX0 1 _ dT ["_law_names_here"] (spTw K) := ok_tw FT Y
  have GR : FnOk P w K mg base CX0 1 _ dR ["_law_sorts", "_law_steps"] (spRd K) := ok_rd FR Y
  refine okD F scDu (fun vs H Q E h => ?_) (fun cdv A outer s H vs Q E hr h => ?_)
  · obtain ⟨a, l, t, xs, ls, ts, rfl, _⟩ := h
    rfl
  · have nd := scDu.nd
    have hu64 := hu64_of hr
    have hu65 : (A.deeper (envOfC "_law_due" (defScope sLawDue) s.heap.objs.size f cdv)).units + 65 < cLine := by have := hr.un; omega
    refine ⟨_, pss_cons (ps_setLc (i := 3) (own := [("_law_letter", 6)]) (g := gName 6) (tt := tYes) (te := tOp (rIxT K) (tVar 6) (tC (.int 0))) rfl nd rfl rfl (by rfl) (pi_list (pv 1)) (blkOk_by (N := NDu) (sc := defScope sLawDue) (by decide +kernel)) (fun _ _ _ _ _ => pg_name (i := 6) nd rfl (Or.inl rfl)) (fun _ _ _ _ _ => pts_nil) (fun _ _ _ _ _ => pe_ix ix_tup (pv 6) pe_int (fun _ _ => rfl)))
      (pss_cons (ps_for PassesOwn.never rfl (pi_list (pe_op op_cat (pv 0) (pv 3))) (pg_name (i := 4) nd rfl (Or.inr rfl))
        (pss_one (ps_if (pt_not (pt_val (pe_call GW hr (by rfl) Y.gLawIsWord FW.kp bW .nil pass0 (pa_cons (pv 4) pa_nil)))) (pss_one (ps_ret (pe_lst (pa_cons pe_str (pa_cons (pv 4) pa_nil))))) pss_nil)))
      (pss_cons (ps_for PassesOwn.never rfl (pi_tup (pe_tup (pa_cons (pv 0) (pa_cons (pv 3) pa_nil)))) (pg_name (i := 5) nd rfl (Or.inl rfl))
        (pss_one (ps_if (pt_cmp (pc_notN (pe_call GT hr (by rfl) Y.gLawTwice FT.kp bT .nil pass0 (pa_cons (pv 5) pa_nil)))) (pss_one (ps_ret (pe_lst (pa_cons pe_str (pa_cons (pe_call GT hr (by rfl) Y.gLawTwice FT.kp bT .nil pass0 (pa_cons (pv 5) pa_nil)) pa_nil))))) pss_nil)))
      (pss_cons (ps_for PassesOwn.never rfl (pi_list (pv 1)) (pg_name (i := 6) nd rfl (Or.inl rfl))
        (pss_one (ps_for PassesOwn.never rfl (pi_tup (pe_slice sl_tupA (pv 6) (po_some pe_int) po_none)) (pg_name (i := 4) nd rfl (Or.inr rfl))
          (pss_one (ps_if (pt_cmpR op_notIn_seq (pv 4) (pv 0) (by rfl)) (pss_one (ps_ret (pe_lst (pa_cons pe_str (pa_cons (pv 4) pa_nil))))) pss_nil)))))
      (pss_cons (ps_for PassesOwn.never rfl (pi_list (pv 2)) (pg_tup rfl (pgs_cons (pg_name (i := 4) nd rfl (Or.inr rfl)) (pgs_cons (pg_name (i := 7) nd rfl (Or.inl rfl)) pgs_nil)))
        (pss_one (ps_if (pt_cmpR op_notIn_seq (pv 4) (pv 3) (by rfl)) (pss_one (ps_ret (pe_lst (pa_cons pe_str (pa_cons (pv 4) pa_nil))))) pss_nil)))
      (pss_cons (ps_for PassesOwn.never rfl (pi_range1 (by rfl) Y.bRange (pa_cons (pe_callB call_len_seq (by rfl) Y.bLen PySem.boot_len (pa_cons (pv 2) pa_nil)) pa_nil)) (pg_name (i := 8) nd rfl (Or.inl rfl))
        (pss_one (ps_if (pw_or (pt_cmpR op_notIn_seq (pe_ix ix_tup (pe_ix ix_list (pv 2) (pv 8) (fun _ _ => rfl)) pe_int (fun _ _ => rfl)) (pe_lst (pa_cons pe_str (pa_cons pe_str pa_nil))) (by rfl)) (pw_or1 (pt_cmpR (op_inD hu65) (pe_ix ix_list (pv 2) (pv 8) (fun _ _ => rfl)) (pe_slice sl_list (pv 2) po_none (po_some (pv 8))) (by rfl)))).pt
          (pss_one (ps_ret (pe_lst (pa_cons pe_str (pa_cons (pe_ix ix_tup (pe_ix ix_list (pv 2) (pv 8) (fun _ _ => rfl)) pe_int (fun _ _ => rfl)) pa_nil))))) pss_nil)))
      (pss_cons (ps_set (i := 9) nd rfl (Or.inl rfl) (pe_lst pa_nil))
      (pss_cons (ps_for PassesOwn.never rfl (pi_list (pv 2)) (pg_tup rfl (pgs_cons (pg_name (i := 4) nd rfl (Or.inr rfl)) (pgs_cons (pg_name (i := 7) nd rfl (Or.inl rfl)) pgs_nil)))
        (pss_cons (ps_set (i := 10) nd rfl (Or.inl rfl) (pe_ix ix_list (pe_lc (own := [("_law_letter", 6)]) (g := gName 6) (tt := ttDu K) (te := teDu K) rfl nd (pi_list (pv 1)) (blkOk_by (N := NDu) (sc := defScope sLawDue) (by decide +kernel)) (fun _ _ _ _ _ => pg_name (i := 6) nd rfl (Or.inl rfl))
          (fun _ _ _ _ _ => pts_one (pt_cmpR op_eq (pe_ix ix_tup (pv 6) pe_int (fun _ _ => rfl)) (pv 4) (nomark _))) (fun _ _ _ _ _ => pe_slice sl_tupA (pv 6) (po_some pe_int) po_none)) pe_int (fun _ _ => rfl)))
        (pss_one (ps_expr (pe_bm PySem.F.plainAttrs_list PySem.F.slot_list_append PySem.F.type_list_append mt_append (pv 9) (pa_cons (pe_ifExp (pt_cmpR op_eq (pv 7) pe_str (nomark _)) (pv 10) (pe_rev (pv 10) (pe_un un_neg pe_int))) pa_nil))))))
      (pss_cons (ps_set (i := 11) nd rfl (Or.inl rfl) (pe_call GR hr (by rfl) Y.gLawRound FR.kp bR .nil pass0 (pa_cons (pv 0) (pa_cons (pv 9) pa_nil))))
      (pss_one (ps_ret (pe_ifExp (pt_cmpR (op_neD hu64) (pv 11) (pe_lst pa_nil) (by rfl)) (pe_lst (pa_cons pe_str (pa_cons (pe_callTy call_tupA (by rfl) Y.bTuple (by decide +kernel) (pa_cons (pv 11) pa_nil)) pa_nil))) pe_non))))))))))), ?_⟩
    obtain ⟨a, l, t, xs, ls, ts, rfl, hs, hl, ht, ok, k⟩ := h
    obtain ⟨as, q, la, g⟩ := id hl
    rw [List.length_map] at la
    obtain ⟨bs, q2, lb, g2⟩ := id ht
    rw [List.length_map] at lb
    have n60 := ok.ll
    have t60 := ok.lt
    have x60 := ok.lx
    have fin : ∀ (f : Flt) (v : V) (G : Hp) (p : Addr), dueF xs ls ts = some f → Same H G → FvAt K G f v → G p = none → Q (.ref p) (upd G p (.lst [.str (kindF f), v])) := fun f v G p e s fv hp =>
      k _ _ (s.trans (same_upd hp)) (by rw [e]; exact ⟨p, rfl, v, upd_same, fv.same (same_upd hp)⟩)
    -- the names
    refine seq_any (fun σ' G => ∃ N, σ' = lD a l t (some (.ref N)) none none none none none none none none ∧ Same H G ∧ G N = some (.lst ((ls.map (·.1)).map V.str))) ?_ ?_
    rotate_left
    · intro nx hnx
      refine ⟨_, rfl, l, rfl, ⟨_, q⟩, fun D hD => ?_⟩
      refine lc_list (K := K) (a := l) (xs := as.map V.ref) (fun i G' => G' D = some (.lst (((ls.take i).map (·.1)).map V.str)) ∧ Same H G') ⟨upd_same, same_upd hD⟩ (fun i G' _ p => p.2.seq q) ?_ ?_
      · rintro i v G1 hi ⟨e, s2⟩
        obtain ⟨b, eb, rfl⟩ := ref_at hi
        obtain ⟨vs, e1, hT⟩ := g i b eb
        obtain ⟨lt, e2, rfl⟩ := lt_at e1
        have li := (List.getElem?_eq_some_iff.mp e2).1
        refine ⟨rfl, _, rfl, b, _, 0, _, rfl, rfl, sqt_same s2 hT, rfl, _, e, ?_, ?_, same_put hD s2⟩
        · rw [List.length_map, List.length_map, List.length_take]
          exact small1000 (by omega)
        · rw [upd_same, List.take_add_one, e2, List.map_append, List.map_append]
          rfl
      · rintro G0 ⟨eD, s0⟩
        rw [List.length_map, la, List.take_length] at eD
        exact hnx _ _ ⟨D, rfl, s0, eD⟩
    rintro σ B ⟨N, rfl, sB, eN⟩
    have hsB := sB _ _ hs
    -- words
    refine seq_any (fun σ' G => ∃ v4, σ' = lD a l t (some (.ref N)) v4 none none none none none none none ∧ Same B G ∧ badN (xs ++ ls.map (·.1)) = none) ?_ ?_
    rotate_left
    · intro nx hnx
      refine ⟨_, rfl, _, rfl, a, N, _, _, rfl, rfl, hsB, eN, szl (by simp only [List.length_map]; omega), fun p hp => ⟨p, rfl, ⟨_, SqL.of upd_same⟩, ?_⟩⟩
      have sp := same_upd (o := .lst (xs.map V.str ++ (ls.map (·.1)).map V.str)) hp
      refine for_list (K := K) (a := p) (xs := xs.map V.str ++ (ls.map (·.1)).map V.str) (fun i σ G => (∃ v4, σ = lD a l t (some (.ref N)) v4 none none none none none none none) ∧ firstN (fun i => (xs ++ ls.map (·.1))[i]?.bind fun x => if isW x = true then none else some x) i = none ∧ Same (upd B p (.lst (xs.map V.str ++ (ls.map (·.1)).map V.str))) G) ⟨⟨_, rfl⟩, rfl, Same.refl _⟩ (fun i σ G _ z => z.2.2.seq (SqL.of upd_same)) ?_ ?_
      · rintro i v σ G hi ⟨⟨v4, rfl⟩, hF, sm⟩
        rw [← List.map_append] at hi
        obtain ⟨x, ex, rfl⟩ := str_at hi
        have li := (List.getElem?_eq_some_iff.mp ex).1
        have ox : Okx x := by
          rcases List.mem_append.mp (List.mem_of_getElem? ex) with z | z
          · exact ok.ox x z
          · obtain ⟨lt, hlt, rfl⟩ := List.mem_map.mp z
            exact (ok.ol lt hlt).1
        refine ⟨_, rfl, x, rfl, ox, fun G3 s3 => ⟨_, rfl, ite2 (fun hc => ?_) (fun hc => ?_)⟩⟩
        · have ew : isW x = false := by simpa using hc
          have e : badN (xs ++ ls.map (·.1)) = some x := firstN_at hF (by show ((xs ++ ls.map (·.1))[i]?.bind _) = _; rw [ex]; exact if_neg (by rw [ew]; exact Bool.false_ne_true)) li
          exact ⟨_, rfl, szl (by show 2 ≤ 1000; decide), fun r hr => fin (.nm x) (.str x) G3 r (due_nm e) (sB.trans (sp.trans (sm.trans s3))) rfl hr⟩
        · have ew : isW x = true := by simpa using hc
          exact ⟨⟨_, rfl⟩, firstN_step hF (by show ((xs ++ ls.map (·.1))[i]?.bind _) = _; rw [ex]; exact if_pos ew), sm.trans s3⟩
      · rintro σ G ⟨⟨v4, rfl⟩, hF, sm⟩
        have e : badN (xs ++ ls.map (·.1)) = none := by
          rw [← List.map_append, List.length_map] at hF
          exact hF
        exact hnx _ _ ⟨v4, rfl, sp.trans sm, e⟩
    rintro σ B2 ⟨v4, rfl, sB2, d1⟩
    have eN2 := sB2 _ _ eN
    replace sB := sB.trans sB2
    clear hsB eN sB2 B
    have hsB := sB _ _ hs
    -- twice
    refine seq_any (fun σ' G => ∃ v5, σ' = lD a l t (some (.ref N)) v4 v5 none none none none none none ∧ Same B2 G ∧ again xs = none ∧ again (ls.map (·.1)) = none) ?_ ?_
    rotate_left
    · intro nx hnx
      refine ⟨_, rfl, _, rfl, szl (by show 2 ≤ 1000; decide), fun T hT => ⟨T, rfl, ⟨_, SqT.of upd_same⟩, ?_⟩⟩
      have sT := same_upd (o := .tup [V.ref a, V.ref N]) hT
      refine for_tup (K := K) (a := T) (xs := [V.ref a, V.ref N]) (fun i σ G => (∃ v5, σ = lD a l t (some (.ref N)) v4 v5 none none none none none none) ∧ (1 ≤ i → again xs = none) ∧ (2 ≤ i → again (ls.map (·.1)) = none) ∧ Same (upd B2 T (.tup [V.ref a, V.ref N])) G) ⟨⟨_, rfl⟩, fun h => absurd h (by decide), fun h => absurd h (by decide), Same.refl _⟩ (fun i σ G _ z => sqt_same z.2.2.2 (SqT.of upd_same)) ?_ ?_
      · rintro i v σ G hi ⟨⟨v5, rfl⟩, h1, h2, sm⟩
        have smA := sT.trans sm
        obtain ⟨c, zs, rfl, hA, lz, wh⟩ : ∃ (c : Addr) (zs : List Str), v = .ref c ∧ SqL K G c (zs.map V.str) ∧ zs.length ≤ 900 ∧ ((i = 0 ∧ zs = xs) ∨ (i = 1 ∧ zs = ls.map (·.1))) := by
          match i, hi with
          | 0, hi =>
            cases hi
            exact ⟨a, xs, rfl, SqL.of (smA _ _ hsB), by omega, .inl ⟨rfl, rfl⟩⟩
          | 1, hi =>
            cases hi
            exact ⟨N, ls.map (·.1), rfl, SqL.of (smA _ _ eN2), by rw [List.length_map]; omega, .inr ⟨rfl, rfl⟩⟩
          | (i + 2), hi => cases hi
        refine ⟨_, rfl, c, zs, rfl, hA, lz, fun G3 s3 => ?_⟩
        have smB := sB.trans (smA.trans s3)
        cases e : again zs with
        | some z =>
          refine ⟨_, rfl, iteT ?_⟩
          refine ⟨_, rfl, c, zs, rfl, s3.seq hA, lz, fun G4 s4 => ?_⟩
          rw [e]
          refine ⟨szl (by show 2 ≤ 1000; decide), fun r hr => fin (.tw z) (.str z) G4 r ?_ (smB.trans s4) rfl hr⟩
          rcases wh with ⟨rfl, rfl⟩ | ⟨rfl, rfl⟩
          · exact due_tw1 d1 e
          · exact due_tw2 d1 (h1 (Nat.le_refl _)) e
        | none =>
          refine ⟨_, rfl, iteF ?_⟩
          refine ⟨⟨_, rfl⟩, fun hh => ?_, fun hh => ?_, sm.trans s3⟩
          · rcases wh with ⟨rfl, rfl⟩ | ⟨rfl, rfl⟩
            · exact e
            · exact h1 (by omega)
          · rcases wh with ⟨rfl, rfl⟩ | ⟨rfl, rfl⟩
            · omega
            · exact e
      · rintro σ G ⟨⟨v5, rfl⟩, h1, h2, sm⟩
        exact hnx _ _ ⟨v5, rfl, sT.trans sm, h1 (show 1 ≤ 2 by decide), h2 (show 2 ≤ 2 by decide)⟩
    rintro σ B3 ⟨v5, rfl, sB3, d2, d3⟩
    have eN3 := sB3 _ _ eN2
    replace sB := sB.trans sB3
    clear hsB eN2 sB3 B2
    have hsB := sB _ _ hs
    -- ends
    refine seq_any (fun σ' G => ∃ v4 v6, σ' = lD a l t (some (.ref N)) v4 v5 v6 none none none none none ∧ Same B3 G ∧ badE xs ls = none) ?_ ?_
    rotate_left
    · intro nx hnx
      refine ⟨_, rfl, l, rfl, ⟨_, sB.seq q⟩, ?_⟩
      refine for_list (K := K) (a := l) (xs := as.map V.ref) (fun i σ G => (∃ v4 v6, σ = lD a l t (some (.ref N)) v4 v5 v6 none none none none none) ∧ firstN (fun i => ls[i]?.bind fun q => if q.2.1 ∉ xs then some q.2.1 else if q.2.2 ∉ xs then some q.2.2 else none) i = none ∧ Same B3 G) ⟨⟨_, _, rfl⟩, rfl, Same.refl _⟩ (fun i σ G _ z => (sB.trans z.2.2).seq q) ?_ ?_
      · rintro i v σ G hi ⟨⟨v4, v6, rfl⟩, hF, sm⟩
        obtain ⟨b, eb, rfl⟩ := ref_at hi
        obtain ⟨vs, e1, hT⟩ := g i b eb
        obtain ⟨lt, e2, rfl⟩ := lt_at e1
        have li := (List.getElem?_eq_some_iff.mp e2).1
        have smA := sB.trans sm
        refine ⟨_, rfl, _, rfl, ?_⟩
        refine slice_from (sqt_same smA hT) fun p G1 sp hp => ?_
        rw [show cutV (ltV lt) (some 1) none = endV lt from cutV_tl _ _] at hp
        refine ⟨p, rfl, ⟨_, hp⟩, for_tup (K := K) (a := p) (xs := endV lt) (fun j σ G2 => (∃ v4, σ = lD a l t (some (.ref N)) v4 v5 (some (.ref b)) none none none none none) ∧ (1 ≤ j → lt.2.1 ∈ xs) ∧ (2 ≤ j → lt.2.2 ∈ xs) ∧ Same G1 G2) ⟨⟨v4, rfl⟩, fun h => absurd h (by decide), fun h => absurd h (by decide), Same.refl _⟩ (fun j σ G2 _ z => sqt_same z.2.2.2 hp) ?_ ?_⟩
        · rintro j v σ G2 hj ⟨⟨v4, rfl⟩, m1, m2, s2⟩
          have smB := smA.trans (sp.trans s2)
          obtain ⟨x, rfl, hx1, hx2⟩ : ∃ x : Str, v = .str x ∧ (x ∉ xs → badE xs ls = some x) ∧ (x ∈ xs → (1 ≤ j + 1 → lt.2.1 ∈ xs) ∧ (2 ≤ j + 1 → lt.2.2 ∈ xs)) := by
            match j, hj with
            | 0, hj =>
              cases hj
              exact ⟨_, rfl, fun h => firstN_at hF (by show (ls[i]?.bind _) = _; rw [e2]; exact if_pos h) li, fun h => ⟨fun _ => h, fun q => absurd q (by decide)⟩⟩
            | 1, hj =>
              cases hj
              exact ⟨_, rfl, fun h => firstN_at hF (by show (ls[i]?.bind _) = _; rw [e2]; show (if lt.2.1 ∉ xs then _ else _) = _; rw [if_neg (fun z => z (m1 (Nat.le_refl _))), if_pos h]) li, fun h => ⟨fun _ => m1 (Nat.le_refl _), fun _ => h⟩⟩
            | (j + 2), hj => cases hj
          refine ⟨_, rfl, _, rfl, a, xs.map V.str, rfl, .inl (SqL.of (smB _ _ hs)), rfl, flat_strs xs, _, rfl, ?_⟩
          rw [if_pos rfl, inV_strs]
          refine ite2 (fun hc => ?_) (fun hc => ?_)
          · have no : x ∉ xs := by simpa using hc
            exact ⟨_, rfl, szl (by show 2 ≤ 1000; decide), fun r hr => fin (.un x) (.str x) G2 r (due_un1 d1 d2 d3 (hx1 no)) smB rfl hr⟩
          · have yes : x ∈ xs := by simpa using hc
            exact ⟨⟨_, rfl⟩, (hx2 yes).1, (hx2 yes).2, s2⟩
        · rintro σ G2 ⟨⟨v4, rfl⟩, m1, m2, s2⟩
          exact ⟨⟨_, _, rfl⟩, firstN_step hF (by show (ls[i]?.bind _) = _; rw [e2]; show (if lt.2.1 ∉ xs then _ else _) = _; rw [if_neg (fun z => z (m1 (show 1 ≤ 2 by decide))), if_neg (fun z => z (m2 (show 2 ≤ 2 by decide)))]), sm.trans (sp.trans s2)⟩
      · rintro σ G ⟨⟨v4, v6, rfl⟩, hF, sm⟩
        rw [List.length_map, la] at hF
        exact hnx _ _ ⟨v4, v6, rfl, sm, hF⟩
    clear v4
    rintro σ B4 ⟨v4, v6, rfl, sB4, d4⟩
    have eN4 := sB4 _ _ eN3
    replace sB := sB.trans sB4
    clear hsB eN3 sB4 B3
    -- the totals' letters
    refine seq_any (fun σ' G => ∃ v4 v7, σ' = lD a l t (some (.ref N)) v4 v5 v6 v7 none none none none ∧ Same B4 G ∧ badT (ls.map (·.1)) ts = none) ?_ ?_
    rotate_left
    · intro nx hnx
      refine ⟨_, rfl, t, rfl, ⟨_, sB.seq q2⟩, ?_⟩
      refine for_list (K := K) (a := t) (xs := bs.map V.ref) (fun i σ G => (∃ v4 v7, σ = lD a l t (some (.ref N)) v4 v5 v6 v7 none none none none) ∧ firstN (fun i => ts[i]?.bind fun q => if q.1 ∉ ls.map (·.1) then some q.1 else none) i = none ∧ Same B4 G) ⟨⟨_, _, rfl⟩, rfl, Same.refl _⟩ (fun i σ G _ z => (sB.trans z.2.2).seq q2) ?_ ?_
      · rintro i v σ G hi ⟨⟨v4, v7, rfl⟩, hF, sm⟩
        obtain ⟨b, eb, rfl⟩ := ref_at hi
        obtain ⟨vs, e1, hT⟩ := g2 i b eb
        obtain ⟨tt, e2, rfl⟩ := tt_at e1
        have li := (List.getElem?_eq_some_iff.mp e2).1
        have smA := sB.trans sm
        refine ⟨b, _, rfl, sqt_same smA hT, rfl, _, _, rfl, _, _, rfl, rfl, ?_⟩
        refine ⟨_, rfl, _, rfl, N, _, rfl, .inl (SqL.of (sm _ _ eN4)), rfl, flat_strs _, _, rfl, ?_⟩
        rw [if_pos rfl, inV_strs]
        refine ite2 (fun hc => ?_) (fun hc => ?_)
        · have no : tt.1 ∉ ls.map (·.1) := by simpa using hc
          have e : badT (ls.map (·.1)) ts = some tt.1 := firstN_at hF (by show (ts[i]?.bind _) = _; rw [e2]; exact if_pos no) li
          exact ⟨_, rfl, szl (by show 2 ≤ 1000; decide), fun r hr => fin (.un tt.1) (.str tt.1) G r (due_un2 d1 d2 d3 d4 e) smA rfl hr⟩
        · have yes : ¬ (tt.1 ∉ ls.map (·.1)) := by
            intro z
            exact hc (by simpa using z)
          exact ⟨⟨_, _, rfl⟩, firstN_step hF (by show (ts[i]?.bind _) = _; rw [e2]; exact if_neg yes), sm⟩
      · rintro σ G ⟨⟨v4, v7, rfl⟩, hF, sm⟩
        rw [List.length_map, lb] at hF
        exact hnx _ _ ⟨v4, v7, rfl, sm, hF⟩
    clear v4
    rintro σ B5 ⟨v4, v7, rfl, sB5, d5⟩
    have eN5 := sB5 _ _ eN4
    replace sB := sB.trans sB5
    clear eN4 sB5 B4
    -- the totals
    refine seq_any (fun σ' G => ∃ v8, σ' = lD a l t (some (.ref N)) v4 v5 v6 v7 v8 none none none ∧ Same B5 G ∧ badF ts = none) ?_ ?_
    rotate_left
    · intro nx hnx
      refine ⟨_, rfl, t, _, rfl, .inl (sB.seq q2), _, rfl, by omega, by rw [List.length_map, lb]; omega, ?_⟩
      rw [Int.toNat_natCast, List.length_map, lb]
      refine for_range (lo := 0) (n := ts.length) (fun i σ G => (∃ v8, σ = lD a l t (some (.ref N)) v4 v5 v6 v7 v8 none none none) ∧ firstN (fun i => ts[i]?.bind fun q => if (q.2 ≠ ("on" : Str) ∧ q.2 ≠ ("back" : Str)) ∨ q ∈ ts.take i then some q.1 else none) i = none ∧ Same B5 G) ⟨⟨_, rfl⟩, rfl, Same.refl _⟩ ?_ ?_
      · rintro i σ G hi ⟨⟨v8, rfl⟩, hF, sm⟩
        have e0 : (0 : Int) + (i : Int) = (i : Int) := Int.zero_add _
        rw [e0]
        dsimp only [gName]
        change tIfS _ _ _ _ (lD a l t (some (.ref N)) v4 v5 v6 v7 (some (.int (i : Int))) none none none) G
        have smA := sB.trans sm
        have lbi : i < bs.length := by omega
        have eb : bs[i]? = some bs[i] := List.getElem?_eq_getElem lbi
        obtain ⟨vs, e1, hB⟩ := g2 i _ eb
        obtain ⟨tt, e2, rfl⟩ := tt_at e1
        have at_ : atI (bs.map V.ref) ((i : Nat) : Int) = some (.ref bs[i]) := atI_nat (by rw [List.getElem?_map, eb]; rfl)
        refine ⟨_, rfl, _, rfl, t, _, _, _, rfl, rfl, smA.seq q2, at_, bs[i], _, 1, _, rfl, rfl, sqt_same smA hB, rfl, szl (by show 2 ≤ 1000; decide), fun T2 hT2 => ?_⟩
        have s2 := same_upd (o := .lst [V.str "on", V.str "back"]) hT2
        have smB := smA.trans s2
        refine ⟨T2, _, rfl, .inl (SqL.of upd_same), rfl, fl_strs ["on", "back"], _, rfl, ?_⟩
        rw [if_pos rfl, show inV (V.str tt.2) [V.str "on", V.str "back"] = decide (tt.2 ∈ (["on", "back"] : List Str)) from inV_strs tt.2 ["on", "back"]]
        have bad : ∀ {G' : Hp}, badF ts = some tt.1 → Same H G' → tRet (tLst (tCons (tC (.str "frame")) (tCons (tOp (rIxT K) (tOp (rIxL K) (tVar 2) (tVar 8)) (tC (.int 0))) tNil))) { nx := nx, rt := Q } (lD a l t (some (.ref N)) v4 v5 v6 v7 (some (.int (i : Int))) none none none) G' := fun {G'} e z =>
          ⟨_, rfl, _, rfl, t, _, _, _, rfl, rfl, z.seq q2, at_, bs[i], _, 0, _, rfl, rfl, sqt_same z hB, rfl, szl (by show 2 ≤ 1000; decide), fun r hr => fin (.fr tt.1) (.str tt.1) G' r (due_fr d1 d2 d3 d4 d5 e) z rfl hr⟩
        refine ite2 (fun hc => ?_) (fun hc => ?_)
        · have no : tt.2 ∉ (["on", "back"] : List Str) := by simpa using hc
          have e : badF ts = some tt.1 := firstN_at hF (by
            show (ts[i]?.bind _) = _
            rw [e2]
            exact if_pos (.inl ⟨fun z => no (by rw [z]; exact List.mem_cons_self), fun z => no (by rw [z]; exact List.mem_cons_of_mem _ List.mem_cons_self)⟩)) hi
          exact iteT (bad e smB)
        · have yes : tt.2 ∈ (["on", "back"] : List Str) := Classical.byContradiction fun z => hc (by rw [decide_eq_false z]; rfl)
          have nw : ¬ (tt.2 ≠ ("on" : Str) ∧ tt.2 ≠ ("back" : Str)) := fun z => by
            rcases List.mem_cons.mp yes with y | y
            · exact z.1 y
            · exact z.2 (List.mem_singleton.mp y)
          refine ⟨_, rfl, _, rfl, t, _, _, _, rfl, rfl, smB.seq q2, at_, _, rfl, _, rfl, _, rfl, t, _, rfl, smB.seq q2, fun p hp => ?_⟩
          rw [cutV_take, ← List.map_take]
          have s4 := same_upd (o := .lst ((bs.take i).map V.ref)) hp
          have smC := smB.trans s4
          refine ⟨prD tt, (ts.take i).map prD, .tup (sqt_same smC hB) (.cons (.str _) (.cons (.str _) .nil)), .lst (SqL.of upd_same) (dpa_prs (by rw [List.length_take, List.length_take, lb]) fun j t2 e => ?_), shp_pr (ok.ot tt (List.mem_of_getElem? e2)), shp_prs (fun x hx => ok.ot x (List.mem_of_mem_take hx)), ?_⟩
          · have lj : j < i := by
              have := (List.getElem?_eq_some_iff.mp e).1
              rw [List.length_take] at this
              omega
            rw [List.getElem?_take_of_lt lj] at e
            obtain ⟨vs, f1, f2⟩ := g2 j t2 e
            obtain ⟨q3, f3, rfl⟩ := tt_at f1
            exact ⟨q3, by rw [List.getElem?_take_of_lt lj]; exact f3, sqt_same smC f2⟩
          · refine ⟨_, rfl, ?_⟩
            rw [any_pr]
            refine ite2 (fun hc2 => ?_) (fun hc2 => ?_)
            · have hm : tt ∈ ts.take i := of_decide_eq_true hc2
              have e : badF ts = some tt.1 := firstN_at hF (by
                show (ts[i]?.bind _) = _
                rw [e2]
                exact if_pos (.inr hm)) hi
              exact bad e smC
            · have hm : tt ∉ ts.take i := fun z => hc2 (decide_eq_true z)
              exact ⟨⟨_, rfl⟩, firstN_step hF (by
                show (ts[i]?.bind _) = _
                rw [e2]
                exact if_neg (fun z => z.elim nw hm)), sm.trans (s2.trans s4)⟩
      · rintro σ G ⟨⟨v8, rfl⟩, hF, sm⟩
        exact hnx _ _ ⟨v8, rfl, sm, hF⟩
    rintro σ B6 ⟨v8, rfl, sB6, d6⟩
    replace sB := sB.trans sB6
    clear eN5 sB6 B5
    have dR := due_rd d1 d2 d3 d4 d5 d6
    have ndl : (ls.map (·.1)).Nodup := again_nodup.mp d3
    -- the steps
    refine ⟨szl (by show 0 ≤ 1000; decide), fun L hL => ?_⟩
    have sL := same_upd (o := .lst []) hL
    have hLn : H L = none := none_of sB hL
    dsimp only [gName]
    refine seq_any (fun σ' G => ∃ v4 v7 v10 us, σ' = lD a l t (some (.ref N)) v4 v5 v6 v7 v8 (some (.ref L)) v10 none ∧ Same H G ∧ G L = some (.lst (us.map V.ref)) ∧ AllT K G us ((stepsOf ls ts).map ttV)) ?_ ?_
    rotate_left
    · intro nx hnx
      refine ⟨_, rfl, t, rfl, ⟨_, (sB.trans sL).seq q2⟩, ?_⟩
      refine for_list (K := K) (a := t) (xs := bs.map V.ref) (fun i σ G => (∃ v4 v7 v10, σ = lD a l t (some (.ref N)) v4 v5 v6 v7 v8 (some (.ref L)) v10 none) ∧ Same H G ∧ ∃ us : List Addr, G L = some (.lst (us.map V.ref)) ∧ AllT K G us ((stepsOf ls (ts.take i)).map ttV)) ⟨⟨_, _, _, rfl⟩, sB.trans sL, [], upd_same, AllT.nil⟩ (fun i σ G _ z => z.2.1.seq q2) ?_ ?_
      · rintro i v σ G hi ⟨⟨v4, v7, v10, rfl⟩, sm, us, eU, hU⟩
        obtain ⟨b, eb, rfl⟩ := ref_at hi
        obtain ⟨vs, e1, hT⟩ := g2 i b eb
        obtain ⟨tt, e2, rfl⟩ := tt_at e1
        have li := (List.getElem?_eq_some_iff.mp e2).1
        have mt := badT_mem d5 tt (List.mem_of_getElem? e2)
        have lu : us.length ≤ i := by
          have z := hU.1
          unfold stepsOf at z
          rw [List.length_map, List.length_map, List.length_take] at z
          omega
        refine ⟨b, _, rfl, sqt_same sm hT, rfl, _, _, rfl, _, _, rfl, rfl, ?_⟩
        dsimp only
        change tSeq _ _ _ (lD a l t (some (.ref N)) (some (.str tt.1)) v5 v6 (some (.str tt.2)) v8 (some (.ref L)) v10 none) G
        refine ⟨_, rfl, l, rfl, ⟨_, sm.seq q⟩, fun D hD => ?_⟩
        refine lc_list (K := K) (a := l) (xs := as.map V.ref) (fun j G' => ∃ ws : List Addr, G' D = some (.lst (ws.map V.ref)) ∧ AllT K G' ws (((ls.take j).filter fun q => decide (q.1 = tt.1)).map endV) ∧ Same G G') ⟨[], upd_same, AllT.nil, same_upd hD⟩ (fun j G' _ ⟨_, _, _, p⟩ => (sm.trans p).seq q) ?_ ?_
        · rintro j v G1 hj ⟨ws, e, hW, s1⟩
          obtain ⟨c, ec, rfl⟩ := ref_at hj
          obtain ⟨vs, f1, hC⟩ := g j c ec
          obtain ⟨lt, f2, rfl⟩ := lt_at f1
          have lj := (List.getElem?_eq_some_iff.mp f2).1
          have hC2 := sqt_same (sm.trans s1) hC
          have lw : ws.length ≤ j := by
            have z1 := hW.1
            have z2 := List.length_filter_le (fun q : Lt => decide (q.1 = tt.1)) (ls.take j)
            rw [List.length_take] at z2
            rw [List.length_map] at z1
            omega
          have tk : (ls.take (j + 1)).filter (fun q => decide (q.1 = tt.1)) = (ls.take j).filter (fun q => decide (q.1 = tt.1)) ++ if lt.1 = tt.1 then [lt] else [] := by
            rw [List.take_add_one, f2, List.filter_append]
            congr 1
            show List.filter _ [lt] = _
            rw [List.filter_cons, List.filter_nil]
            by_cases z : lt.1 = tt.1
            · rw [if_pos z, if_pos (decide_eq_true z)]
            · rw [if_neg z, if_neg (by rw [decide_eq_false z]; exact Bool.false_ne_true)]
          refine ⟨rfl, ?_⟩
          show ttDu K _ _ _
          refine ⟨_, rfl, c, _, 0, _, rfl, rfl, hC2, rfl, _, rfl, rfl, _, rfl, ite2 (fun hc => ?_) (fun hc => ?_)⟩
          · rw [if_pos (V.str.inj (of_decide_eq_true hc))] at tk
            show teDu K _ _ _
            refine ⟨_, rfl, _, rfl, ?_⟩
            refine slice_from hC2 fun p G2 s2 hp => ?_
            rw [show cutV (ltV lt) (some 1) none = endV lt from cutV_tl _ _] at hp
            have e2' := s2 _ _ e
            refine ⟨_, e2', ?_, ws ++ [p], ?_, ?_, same_put hD (s1.trans s2)⟩
            · rw [List.length_map]
              exact small1000 (by omega)
            · rw [upd_same, List.map_append]
              rfl
            · rw [tk, List.map_append]
              exact ((hW.same s2).snoc hp).put e2'
          · rw [if_neg (fun z => hc (decide_eq_true (congrArg V.str z))), List.append_nil] at tk
            exact ⟨ws, e, by rw [tk]; exact hW, s1⟩
        · rintro G1 ⟨ws, e, hW, s1⟩
          rw [List.length_map, la, List.take_length] at hW
          obtain ⟨mq, nq⟩ := endOf_ok mt
          have hd0 : (ls.filter fun q => decide (q.1 = tt.1))[0]? = some (endOf ls tt.1) := by
            rw [← List.head?_eq_getElem?, List.head?_filter]
            unfold endOf
            cases z : ls.find? fun q => decide (q.1 = tt.1) with
            | some p => rfl
            | none =>
              exfalso
              obtain ⟨q0, hq0, e0⟩ := List.mem_map.mp mt
              exact absurd (decide_eq_true e0) (List.find?_eq_none.mp z q0 hq0)
          have lw0 : 0 < ws.length := by
            rw [hW.1, List.length_map]
            exact (List.getElem?_eq_some_iff.mp hd0).1
          obtain ⟨vs, f1, hE⟩ := hW.2 0 ws[0] (List.getElem?_eq_getElem lw0)
          rw [List.getElem?_map, hd0] at f1
          obtain rfl : endV (endOf ls tt.1) = vs := Option.some.inj f1
          refine ⟨D, _, 0, .ref ws[0], rfl, rfl, SqL.of e, atI_nat (by rw [List.getElem?_map, List.getElem?_eq_getElem lw0]; rfl), ?_⟩
          dsimp only [gName]
          change tDrop _ _ (lD a l t (some (.ref N)) (some (.str tt.1)) v5 v6 (some (.str tt.2)) v8 (some (.ref L)) (some (.ref ws[0])) none) G1
          have eU1 := s1 _ _ eU
          have es : stepsOf ls (ts.take (i + 1)) = stepsOf ls (ts.take i) ++ [stepOf (endOf ls tt.1) tt] := by
            unfold stepsOf
            rw [List.take_add_one, e2, List.map_append]
            rfl
          refine ⟨_, rfl, .inl ⟨rfl, _, SqL.of eU1⟩, _, rfl, rfl, _, rfl, ite2 (fun hc => ?_) (fun hc => ?_)⟩
          · have eo : tt.2 = ("on" : Str) := V.str.inj (of_decide_eq_true hc)
            have hE2 : SqT K G1 ws[0] (ttV (stepOf (endOf ls tt.1) tt)) := by
              unfold stepOf
              rw [if_pos eo]
              exact hE
            refine ⟨_, rfl, L, _, _, rfl, rfl, eU1, by rw [List.length_map]; exact small1000 (by omega), ⟨_, _, _, rfl⟩, same_put hLn (sm.trans s1), us ++ [ws[0]], by rw [upd_same, List.map_append]; rfl, ?_⟩
            rw [es, List.map_append]
            exact ((hU.same s1).snoc hE2).put eU1
          · have eo : tt.2 ≠ ("on" : Str) := fun z => hc (by rw [z]; exact decide_eq_true rfl)
            refine ⟨_, rfl, _, rfl, rfl, ws[0], _, rfl, .inr ⟨hE, fun p hp => ?_⟩⟩
            have s3 := same_upd (o := .tup (endV (endOf ls tt.1)).reverse) hp
            have eU3 := s3 _ _ eU1
            have hE2 : SqT K (upd G1 p (.tup (endV (endOf ls tt.1)).reverse)) p (ttV (stepOf (endOf ls tt.1) tt)) := by
              unfold stepOf
              rw [if_neg eo]
              exact SqT.of upd_same
            refine ⟨L, _, _, rfl, rfl, eU3, by rw [List.length_map]; exact small1000 (by omega), ⟨_, _, _, rfl⟩, same_put hLn (sm.trans (s1.trans s3)), us ++ [p], by rw [upd_same, List.map_append]; rfl, ?_⟩
            rw [es, List.map_append]
            exact ((hU.same (s1.trans s3)).snoc hE2).put eU3
      · rintro σ G ⟨⟨v4, v7, v10, rfl⟩, sm, us, eU, hU⟩
        rw [List.length_map, lb, List.take_length] at hU
        exact hnx _ _ ⟨v4, v7, v10, us, rfl, sm, eU, hU⟩
    clear v4 v7
    rintro σ G ⟨v4, v7, v10, us, rfl, sm, eU, hU⟩
    refine ⟨_, rfl, _, rfl, a, L, xs, stepsOf ls ts, rfl, SqL.of (sm _ _ hs), by omega, hU.tups (SqL.of eU), fun z hz => ?_, by unfold stepsOf; rw [List.length_map]; omega, fun W G1 s1 hW eW => ?_⟩
    · unfold stepsOf at hz
      obtain ⟨tt, htt, rfl⟩ := List.mem_map.mp hz
      exact ok_stepOf (ok.ol _ (endOf_ok (badT_mem d5 tt htt)).1)
    · dsimp only [gName]
      have smA := sm.trans s1
      refine ⟨_, rfl, szl (by show 0 ≤ 1000; decide), fun p hp => ?_⟩
      have sp := same_upd (o := .lst []) hp
      have oz : ∀ x ∈ rnd (stepsOf ls ts) xs, Okx x := by
        unfold rnd
        generalize xs.length = n
        have : ∀ n, ∀ x ∈ leadN (stepsOf ls ts) n xs, Okx x := fun n => by
          induction n with
          | zero => exact ok.ox
          | succ n ih => exact lead_ok ih
        exact this n
      refine ⟨.list ((rnd (stepsOf ls ts) xs).map PyData.str), .list [], .lst (SqL.of (sp _ _ eW)) (Xv.dpa_str _), .lst (SqL.of upd_same) .nil, shp_okx oz, shp_nil, _, rfl, ?_⟩
      rw [eqv_nil, List.isEmpty_map]
      cases z : rnd (stepsOf ls ts) xs with
      | nil =>
        rw [z, if_pos rfl] at dR
        refine iteF ?_
        exact k .non _ (smA.trans sp) (by rw [dR]; rfl)
      | cons y ys =>
        rw [z, if_neg (by intro q; cases q)] at dR
        rw [z] at eW
        refine iteT ?_
        refine ⟨_, rfl, W, _, rfl, .inl (SqL.of (sp _ _ eW)), fun T G2 s2 hT => ⟨szl (by show 2 ≤ 1000; decide), fun r hr => ?_⟩⟩
        exact fin (.rd (y :: ys)) (.ref T) G2 r dR (smA.trans (sp.trans s2)) ⟨T, rfl, hT⟩ hr
end
end K22

namespace K22
open PySem PySem.Spec PyProof.Rows L2 Ow Xv
/-! ### a frame, or its error told -/
abbrev NTo : List Str := ["_law_sorts", "_law_letters", "_law_totals", "error"]
theorem scTo : FnScope NTo ["_law_sorts", "_law_letters", "_law_totals"] (defScope sLawTold) := ⟨rfl, rfl, rfl, by decide +kernel, rfl, by decide +kernel, by decide +kernel⟩
def tbTo (K : PySem.W.Frag) (W : WX) : TS := tRet (tMakeS (CFrame K) (spFI2 K) (WE W) (tCons (tVar 0) (tCons (tVar 1) (tCons (tVar 2) tNil))))
def tsTo (C : Addr) (kd n : Str) (a : Addr) (cls : Value) (d : Option Addr) : TS := tRet (tLst (tCons (tC (.str kd)) (tCons (tXf a cls d C n (tVar 3)) tNil)))
def lTo (K : PySem.W.Frag) : List (Value × (Addr → Value → Option Addr → TS)) := [(.ref (CBadName K), tsTo (CBadName K) "name" "name"), (.ref (CTwiceTold K), tsTo (CTwiceTold K) "twice" "name"), (.ref (CUnknownName K), tsTo (CUnknownName K) "unknown" "name"), (.ref (CBadFrame K), tsTo (CBadFrame K) "frame" "name"), (.ref (CComesRound K), tsTo (CComesRound K) "round" "members")]
def spTo (K : PySem.W.Frag) : Sp := fun vs H Q _ => ∃ (s l t : Addr) (xs : List Str) (ls : List Lt) (ts : List Tt), vs = [.ref s, .ref l, .ref t] ∧ SqA K H s (xs.map V.str) ∧ TupsA K H l (ls.map ltV) ∧ TupsA K H t (ts.map ttV) ∧ FrIn xs ls ts ∧
  (∀ f, dueF xs ls ts = some f → ∀ (a : Addr) (H' : Hp), Same H H' → FltAt K H' a f → Q (.ref a) H') ∧ (dueF xs ls ts = none → ∀ (x : Addr) (H' : Hp), Same H H' → FrmAt K H' x xs ls ts → Q (.ref x) H')
section
variable {P : Program} {w : World} {K : PySem.W.Frag} {mg : Str → Option Value} {base : Heap} {f : Addr} {fd : FuncData}
theorem Fx.exm (Y : Fx w K mg) (i j : Nat) (hi : i < 5 := by decide) (hj : j < 5 := by decide) : PySem.W.exmOne K (.ref (He.ga K (ECs.getD i ""))) (.ref (He.ga K (ECs.getD j ""))) = some (decide (i = j)) :=
  of_decide_eq_true (List.all_eq_true.mp (List.all_eq_true.mp Y.x6 i (List.mem_range.mpr hi)) j (List.mem_range.mpr hj))
/-- what C(..) of such lists asks and tells -/
theorem mk_fr2 {H : Hp} {s l t : Addr} {xs : List Str} {ls : List Lt} {ts : List Tt} {Q : Addr → Hp → Prop} {E : XK} (hs : SqA K H s (xs.map V.str)) (hl : TupsA K H l (ls.map ltV)) (ht : TupsA K H t (ts.map ttV)) (ok : FrIn xs ls ts) (kE : ∀ f, dueF xs ls ts = some f → RaisedF K H E f)
    (k : dueF xs ls ts = none → ∀ b H', Same H H' → H b = none → FrmAt K H' b xs ls ts → Q b H') :
    ∀ x dx, H x = none → H dx = none → dx ≠ x → spFI2 K (.ref x :: ([.ref s, .ref l, .ref t] ++ [])) (upd (upd H dx (.own x)) x (.ins (CFrame K) dx [])) (fun v H2 => v = .non ∧ Q x H2) E := fun x dx hx hd nd => by
  have s0 : Same H (upd (upd H dx (.own x)) x (.ins (CFrame K) dx [])) := same_new hx hd .refl
  have nn : ∀ {d : Addr}, upd (upd H dx (.own x)) x (.ins (CFrame K) dx []) d = none → H d = none := none_of s0
  refine ⟨x, s, l, t, dx, xs, ls, ts, rfl, upd_same, hs.same s0, hl.same s0, ht.same s0, ok, fun f e => ?_, fun e H' kk hF => ⟨rfl, k e x H' (same_new hx hd kk) hx hF⟩⟩
  have z := kE f e
  cases f with
  | nm y => exact fun d H' s' hd' e' => z d H' (s0.trans s') (nn hd') e'
  | tw y => exact fun d H' s' hd' e' => z d H' (s0.trans s') (nn hd') e'
  | un y => exact fun d H' s' hd' e' => z d H' (s0.trans s') (nn hd') e'
  | fr y => exact fun d H' s' hd' e' => z d H' (s0.trans s') (nn hd') e'
  | rd ys => exact fun d T H' s' hd' e' hT => z d T H' (s0.trans s') (nn hd') e' hT
theorem ok_to (F : FnP K "_law_told" sLawTold f fd) (Y : Fx w K mg) : FnOk P w K mg base CX0 6 f fd ["_law_sorts", "_law_letters", "_law_totals"] (spTo K) := by
  obtain ⟨d2, F2⟩ := Y.dFrame_Init
  have b2 := FunD.bindsN (ps := ["self", "sorts", "letters", "totals"]) F2 fun _ _ _ _ _ _ us hl => match us, hl with | [_, _, _, _], _ => rfl
  have G2 : FnOk P w K mg base (L2.CX P w) 4 _ d2 ["self", "sorts", "letters", "totals"] (spFI2 K) := ok_fi2 F2 Y
  refine okD F scTo (fun vs H Q E h => ?_) (fun cdv A outer s H vs Q E hr h => ?_)
  · obtain ⟨a, l, t, xs, ls, ts, rfl, _⟩ := h
    rfl
  · have nd := scTo.nd
    refine ⟨_, pss_one (ps_try_manyA (n := "error") (i := 3) (tb := tbTo K) (Wout := fun _ _ _ _ => False) (l := lTo K) rfl rfl nd rfl rfl takes0
      (fun W pn xe tk _ => pss_one (ps_ret (pe_makeS Y.mFrame G2 hr (by rfl) Y.gFrame b2 (fun σ => passAt tk σ) (pa_cons (pv 0) (pa_cons (pv 1) (pa_cons (pv 2) pa_nil))))))
      (.cons ⟨rfl, by decide, .inl Y.gBadName⟩ (fun a oe cls d pn hz hf => pss_one (ps_ret (pe_lst (pa_cons pe_str (pa_cons (pe_xf Y.xBN.xf Y.xBN.no hz hf (pv 3)) pa_nil)))))
      (.cons ⟨rfl, by decide, .inl Y.gTwiceTold⟩ (fun a oe cls d pn hz hf => pss_one (ps_ret (pe_lst (pa_cons pe_str (pa_cons (pe_xf Y.xTT.xf Y.xTT.no hz hf (pv 3)) pa_nil)))))
      (.cons ⟨rfl, by decide, .inl Y.gUnknownName⟩ (fun a oe cls d pn hz hf => pss_one (ps_ret (pe_lst (pa_cons pe_str (pa_cons (pe_xf Y.xUN.xf Y.xUN.no hz hf (pv 3)) pa_nil)))))
      (.cons ⟨rfl, by decide, .inl Y.gBadFrame⟩ (fun a oe cls d pn hz hf => pss_one (ps_ret (pe_lst (pa_cons pe_str (pa_cons (pe_xf Y.xBF.xf Y.xBF.no hz hf (pv 3)) pa_nil)))))
      (.cons ⟨rfl, by decide, .inl Y.gComesRound⟩ (fun a oe cls d pn hz hf => pss_one (ps_ret (pe_lst (pa_cons pe_str (pa_cons (pe_xf Y.xCR.xf Y.xCR.no hz hf (pv 3)) pa_nil))))) .nil)))))), ?_⟩
    obtain ⟨a, l, t, xs, ls, ts, rfl, hs, hl, ht, ok, kE, kQ⟩ := h
    have suite : ∀ {C : Addr} {kd n : Str} {v : V} {d c : Addr} {H' : Hp} {D : Ends}, D.rt = Q → H' d = some (.xd [(n, v)]) → (∀ p, H' p = none → Q (.ref p) (upd H' p (.lst [.str kd, v]))) →
        tsTo C kd n c (.ref C) (some d) D [some (.ref a), some (.ref l), some (.ref t), some (.ref c)] H' := fun {C kd n v d c H' D} hD e hq => by
      refine ⟨_, rfl, rfl, rfl, d, _, v, rfl, e, by simp [List.lookup], szl (by show 2 ≤ 1000; decide), fun p hp => ?_⟩
      rw [hD]
      exact hq p hp
    have no : ∀ {C : Addr} {c : Value} {ts' : Addr → Value → Option Addr → TS} {D : Ends} {r : List (Value × (Addr → Value → Option Addr → TS))} {d : Option Addr} {σ : L2.St} {H' : Hp}, PySem.W.exmOne K (.ref C) c = some false →
        wManyA K 3 (fun _ _ _ _ => False) D r (.ref C) d σ H' → wManyA K 3 (fun _ _ _ _ => False) D ((c, ts') :: r) (.ref C) d σ H' := fun e h => ⟨false, e, (fun q => Bool.noConfusion q), fun _ => h⟩
    have yes : ∀ {C : Addr} {ts' : Addr → Value → Option Addr → TS} {D : Ends} {r : List (Value × (Addr → Value → Option Addr → TS))} {d : Option Addr} {σ : L2.St} {H' : Hp}, PySem.W.exmOne K (.ref C) (.ref C) = some true →
        (∀ c, H' c = none → ts' c (.ref C) d { nx := fun σ' H' => D.nx (σ'.set 3 none) H', rt := D.rt, bk := fun σ' H' => D.bk (σ'.set 3 none) H', ct := fun σ' H' => D.ct (σ'.set 3 none) H' } (σ.set 3 (some (.ref c))) H') →
        wManyA K 3 (fun _ _ _ _ => False) D ((.ref C, ts') :: r) (.ref C) d σ H' := fun e h => ⟨true, e, fun _ => h, (fun q => Bool.noConfusion q)⟩
    refine ⟨_, rfl, _, rfl, _, rfl, mk_fr2 hs hl ht ok (fun f e => ?_) (fun e b H' s' _ hF => kQ e b H' s' hF)⟩
    cases f with
    | nm z =>
      intro d H' s' hd e'
      exact yes (Y.exm 0 0) fun c hc => suite rfl e' fun p hp => kE _ e p _ (s'.trans (same_upd hp)) ⟨.str z, upd_same, rfl⟩
    | tw z =>
      intro d H' s' hd e'
      exact no (Y.exm 1 0) (yes (Y.exm 1 1) fun c hc => suite rfl e' fun p hp => kE _ e p _ (s'.trans (same_upd hp)) ⟨.str z, upd_same, rfl⟩)
    | un z =>
      intro d H' s' hd e'
      exact no (Y.exm 2 0) (no (Y.exm 2 1) (yes (Y.exm 2 2) fun c hc => suite rfl e' fun p hp => kE _ e p _ (s'.trans (same_upd hp)) ⟨.str z, upd_same, rfl⟩))
    | fr z =>
      intro d H' s' hd e'
      exact no (Y.exm 3 0) (no (Y.exm 3 1) (no (Y.exm 3 2) (yes (Y.exm 3 3) fun c hc => suite rfl e' fun p hp => kE _ e p _ (s'.trans (same_upd hp)) ⟨.str z, upd_same, rfl⟩)))
    | rd zs =>
      intro d T H' s' hd e' hT
      exact no (Y.exm 4 0) (no (Y.exm 4 1) (no (Y.exm 4 2) (no (Y.exm 4 3) (yes (Y.exm 4 4) fun c hc => suite rfl e' fun p hp => kE _ e p _ (s'.trans (same_upd hp)) ⟨.ref T, upd_same, T, rfl, sqt_same (same_upd hp) hT⟩))))
end
end K22

namespace K22
open PySem PySem.Spec PyProof.Rows L2 Ow Xv
/-! ### drawn totals -/
theorem okx_wd {x : Str} (h : Wd x) : Okx x := ⟨by have := h.hi; omega, h.lay⟩
theorem isW_wd {x : Str} (h : Wd x) : isW x = true := by
  obtain ⟨c, ec⟩ : ∃ c, x.cps[0]? = some c := ⟨x.cps[0]'(show 0 < x.cps.size from h.lo), Array.getElem?_eq_getElem _⟩
  unfold isW
  rw [decide_eq_true h.lo, decide_eq_true h.hi, ec]
  show (true && (true && (inC LT c && x.cps.toList.all (inC SG)))) = true
  have e1 : inC LT c = true := decide_eq_true (h.h c ec)
  have e2 : x.cps.toList.all (inC SG) = true := List.all_eq_true.mpr fun c hc => by
    obtain ⟨i, hi, e⟩ := List.getElem_of_mem hc
    exact decide_eq_true (h.s i c (by rw [← Array.getElem?_toList, List.getElem?_eq_getElem hi, e]))
  rw [e1, e2]
  rfl
theorem firstL_all {α β : Type} {f : Nat → α → Option β} {xs : List α} (h : ∀ i x, xs[i]? = some x → f i x = none) : firstL f xs = none := by
  have key : ∀ n, firstN (fun i => xs[i]?.bind (f i)) n = none := fun n => by
    induction n with
    | zero => rfl
    | succ n ih =>
      refine firstN_step ih ?_
      cases e : xs[n]? with
      | none => rfl
      | some x => exact h n x e
  exact key _
def rk (x : Str) : Nat := x.cps.getD 0 0 - 97
theorem abc_rk : (ABC.all fun x => ABC.all fun y => decide (decide (y.cps.toList < x.cps.toList) = decide (rk y < rk x)) && (decide (x = y) || decide (rk x ≠ rk y))) = true := by decide +kernel
theorem abc_at : (((List.range 4).all fun n => (ABC.take n).all fun x => decide (rk x < n)) && decide (ABC.length = 3)) = true := by decide +kernel
def totOf (q : Lt) : Tt := (q.1, if q.2.2.cps.toList < q.2.1.cps.toList then "back" else "on")
theorem step_tot {q : Lt} (h1 : q.2.1 ∈ ABC) (h2 : q.2.2 ∈ ABC) (ne : q.2.1 ≠ q.2.2) : rk (stepOf q (totOf q)).1 < rk (stepOf q (totOf q)).2 := by
  obtain ⟨z1, z2⟩ := an (List.all_eq_true.mp (List.all_eq_true.mp abc_rk _ h1) _ h2)
  have z3 := of_decide_eq_true z1
  have z4 : rk q.2.1 ≠ rk q.2.2 := by
    rw [decide_eq_false ne, Bool.false_or] at z2
    exact of_decide_eq_true z2
  unfold stepOf totOf
  dsimp only
  by_cases c : q.2.2.cps.toList < q.2.1.cps.toList
  · rw [if_pos c, if_neg (by decide +kernel)]
    rw [decide_eq_true c] at z3
    exact of_decide_eq_true z3.symm
  · rw [if_neg c, if_pos rfl]
    rw [decide_eq_false c] at z3
    have := of_decide_eq_false z3.symm
    show rk q.2.1 < rk q.2.2
    omega
theorem leadN_rk {S : List Tt} {xs : List Str} {n : Nat} (hS : ∀ p ∈ S, rk p.1 < rk p.2) (hx : ∀ x ∈ xs, rk x < n) : ∀ k, ∀ x ∈ leadN S k xs, rk x + k < n := fun k => by
  induction k with
  | zero => exact fun x h => hx x h
  | succ k ih =>
    intro x h
    obtain ⟨h1, h2⟩ := List.mem_filter.mp h
    obtain ⟨y, hy, e⟩ := List.any_eq_true.mp h2
    have a := hS _ (of_decide_eq_true e)
    have b := ih y hy
    dsimp only at a
    omega
theorem find_nd {ls : List Lt} (nd : (ls.map (·.1)).Nodup) {q : Lt} (h : q ∈ ls) : endOf ls q.1 = q := by
  obtain ⟨m1, m2⟩ := endOf_ok (List.mem_map.mpr ⟨q, h, rfl⟩ : q.1 ∈ ls.map (·.1))
  obtain ⟨i, hi, ei⟩ := List.getElem_of_mem m1
  obtain ⟨j, hj, ej⟩ := List.getElem_of_mem h
  have : i = j := by
    by_cases e : i = j
    · exact e
    · exfalso
      rcases Nat.lt_or_gt_of_ne e with l | l
      · exact List.pairwise_iff_getElem.mp nd i j (by rw [List.length_map]; exact hi) (by rw [List.length_map]; exact hj) l (by rw [List.getElem_map, List.getElem_map, ei, ej, m2])
      · exact List.pairwise_iff_getElem.mp nd j i (by rw [List.length_map]; exact hj) (by rw [List.length_map]; exact hi) l (by rw [List.getElem_map, List.getElem_map, ei, ej, m2])
  subst this
  rw [← ei, ej]
/-- drawn sorts, letters, and the letters that are totals -/
structure Drawn (xs : List Str) (ls us : List Lt) : Prop where
  ok : FrOk xs ls
  ab : ∀ x ∈ xs, x ∈ ABC ∧ rk x < xs.length
  el : ∀ q ∈ us, q ∈ ls ∧ q.2.1 ≠ q.2.2
  nd : (us.map (·.1)).Nodup
  lu : us.length ≤ 16
theorem Drawn.good {xs : List Str} {ls us : List Lt} (h : Drawn xs ls us) : Good xs ls (us.map totOf) := by
  have ok := h.ok
  have l16 : ls.length ≤ 16 := by have := ok.nl.n; rw [List.length_map] at this; exact this
  have wl : ∀ q ∈ ls, Wd q.1 := fun q hq => ok.nl.w _ (List.mem_map.mpr ⟨q, hq, rfl⟩)
  have e1 : badN (xs ++ ls.map (·.1)) = none := firstL_all fun i x hx => if_pos (isW_wd (by
    rcases List.mem_append.mp (List.mem_of_getElem? hx) with z | z
    · exact ok.nx.w x z
    · exact ok.nl.w x z))
  have e2 : again xs = none := again_nodup.mpr ok.nx.nd
  have e3 : again (ls.map (·.1)) = none := again_nodup.mpr ok.nl.nd
  have e4 : badE xs ls = none := firstL_all fun i q hq => by
    obtain ⟨a, b⟩ := ok.ends q (List.mem_of_getElem? hq)
    rw [if_neg (fun z => z a), if_neg (fun z => z b)]
  have e5 : badT (ls.map (·.1)) (us.map totOf) = none := firstL_all fun i q hq => by
    obtain ⟨u, hu', rfl⟩ := List.mem_map.mp (List.mem_of_getElem? hq)
    exact if_neg fun z => z (List.mem_map.mpr ⟨u, (h.el u hu').1, rfl⟩)
  have e6 : badF (us.map totOf) = none := firstL_all fun i q hq => by
    have hw : q.2 = ("on" : Str) ∨ q.2 = ("back" : Str) := by
      obtain ⟨u, hu', rfl⟩ := List.mem_map.mp (List.mem_of_getElem? hq)
      unfold totOf
      dsimp only
      by_cases c : u.2.2.cps.toList < u.2.1.cps.toList
      · exact .inr (if_pos c)
      · exact .inl (if_neg c)
    refine if_neg fun z => ?_
    rcases z with ⟨z1, z2⟩ | z
    · exact hw.elim z1 z2
    · obtain ⟨j, hj, ej⟩ := List.getElem_of_mem z
      rw [List.length_take] at hj
      rw [List.getElem_take] at ej
      obtain ⟨li, ei⟩ := List.getElem?_eq_some_iff.mp hq
      rw [List.length_map] at li
      rw [List.getElem_map] at ej ei
      refine List.pairwise_iff_getElem.mp h.nd j i (by rw [List.length_map]; omega) (by rw [List.length_map]; exact li) (by omega) ?_
      rw [List.getElem_map, List.getElem_map]
      have a : (totOf us[j]).1 = (totOf us[i]).1 := by rw [ej, ei]
      exact a
  have hS : ∀ p ∈ stepsOf ls (us.map totOf), rk p.1 < rk p.2 := fun p hp => by
    unfold stepsOf at hp
    rw [List.map_map] at hp
    obtain ⟨u, hu', rfl⟩ := List.mem_map.mp hp
    obtain ⟨hul, ne⟩ := h.el u hu'
    show rk (stepOf (endOf ls u.1) (totOf u)).1 < rk (stepOf (endOf ls u.1) (totOf u)).2
    rw [find_nd ok.nl.nd hul]
    obtain ⟨a, b⟩ := ok.ends u hul
    exact step_tot (h.ab _ a).1 (h.ab _ b).1 ne
  have e7 : rnd (stepsOf ls (us.map totOf)) xs = [] := by
    unfold rnd
    cases z : leadN (stepsOf ls (us.map totOf)) xs.length xs with
    | nil => rfl
    | cons a l =>
      have := leadN_rk hS (fun x hx => (h.ab x hx).2) xs.length a (by rw [z]; exact List.mem_cons_self)
      omega
  have lx := ok.nx.n
  have lu := h.lu
  refine ⟨⟨fun x h => okx_wd (ok.nx.w x h), fun q hq => ⟨okx_wd (wl q hq), okx_wd (ok.nx.w _ (ok.ends q hq).1), okx_wd (ok.nx.w _ (ok.ends q hq).2)⟩, fun q hq => ?_, by omega, by omega, by rw [List.length_map]; omega⟩, by rw [due_rd e1 e2 e3 e4 e5 e6, if_pos e7]⟩
  obtain ⟨u, hu', rfl⟩ := List.mem_map.mp hq
  refine ⟨okx_wd (wl u (h.el u hu').1), ?_⟩
  have w1 : Wd ("on" : Str) := wd_of (by decide +kernel)
  have w2 : Wd ("back" : Str) := wd_of (by decide +kernel)
  unfold totOf
  dsimp only
  by_cases c : u.2.2.cps.toList < u.2.1.cps.toList
  · rw [if_pos c]
    exact okx_wd w2
  · rw [if_neg c]
    exact okx_wd w1
theorem drawn_of {xs : List Str} {ls us : List Lt} {n : Nat} (ok : FrOk xs ls) (ex : xs = ABC.take n) (n3 : n ≤ 3) (hu : us.Sublist ls) (ne : ∀ q ∈ us, q.2.1 ≠ q.2.2) : Drawn xs ls us := by
  obtain ⟨f1, f2⟩ := an abc_at
  have lx : xs.length = n := by rw [ex, List.length_take, of_decide_eq_true f2]; omega
  have l16 : ls.length ≤ 16 := by have := ok.nl.n; rw [List.length_map] at this; exact this
  refine ⟨ok, fun x h => ?_, fun q hq => ⟨hu.subset hq, ne q hq⟩, ok.nl.nd.sublist (hu.map _), by have := hu.length_le; omega⟩
  rw [lx]
  rw [ex] at h
  exact ⟨List.mem_of_mem_take h, of_decide_eq_true (List.all_eq_true.mp (List.all_eq_true.mp f1 n (List.mem_range.mpr (by omega))) x h)⟩
theorem nodup_rev {α : Type} {xs : List α} (h : xs.Nodup) : xs.reverse.Nodup := List.pairwise_reverse.mpr (h.imp fun ne => ne.symm)
theorem NL.rev {xs : List Str} (h : NL xs) : NL xs.reverse := ⟨(nodup_rev h.nd), fun x hx => h.w x (List.mem_reverse.mp hx), by rw [List.length_reverse]; exact h.n⟩
theorem Drawn.revx {xs : List Str} {ls us : List Lt} (h : Drawn xs ls us) : Drawn xs.reverse ls us :=
  ⟨⟨h.ok.nx.rev, h.ok.nl, fun q hq => ⟨List.mem_reverse.mpr (h.ok.ends q hq).1, List.mem_reverse.mpr (h.ok.ends q hq).2⟩⟩, fun x hx => by rw [List.length_reverse]; exact h.ab x (List.mem_reverse.mp hx), h.el, h.nd, h.lu⟩
theorem Drawn.revu {xs : List Str} {ls us : List Lt} (h : Drawn xs ls us) : Drawn xs ls us.reverse :=
  ⟨h.ok, h.ab, fun q hq => h.el q (List.mem_reverse.mp hq), by rw [List.map_reverse]; exact (nodup_rev h.nd), by rw [List.length_reverse]; exact h.lu⟩
/-- a list of tuples that may be changed -/
def TupsM (K : PySem.W.Frag) (H : Hp) (l : Addr) (vss : List (List V)) : Prop := ∃ as : List Addr, H l = some (.lst (as.map V.ref)) ∧ AllT K H as vss
theorem TupsM.same {K : PySem.W.Frag} {H H' : Hp} {l : Addr} {vss : List (List V)} (s : Same H H') (h : TupsM K H l vss) : TupsM K H' l vss := by
  obtain ⟨as, e, g⟩ := h
  exact ⟨as, s _ _ e, g.same s⟩
theorem TupsM.at_ {K : PySem.W.Frag} {H : Hp} {l : Addr} {vss : List (List V)} (h : TupsM K H l vss) : TupsAt K H l vss := by
  obtain ⟨as, e, g⟩ := h
  exact g.tups (SqL.of e)
theorem TupsT.tups' {K : PySem.W.Frag} {H : Hp} {l : Addr} {us : List Addr} {vss : List (List V)} (e : SqA K H l (us.map V.ref)) (h : AllT K H us vss) : TupsA K H l vss := ⟨us, e, h.1, h.2⟩
theorem TupsA.of {K : PySem.W.Frag} {H : Hp} {l : Addr} {vss : List (List V)} (h : TupsAt K H l vss) : TupsA K H l vss := by
  obtain ⟨as, a, b, c⟩ := h
  exact ⟨as, .inl a, b, c⟩
/-- at d stands the drawn frame with totals -/
def FrT (K : PySem.W.Frag) (H : Hp) (d : Addr) (xs : List Str) (ls : List Lt) (ts : List Tt) : Prop := ∃ s m o t b, H d = some (.dK (frV s m o t b)) ∧ H s = some (.lst (xs.map V.str)) ∧ LdAt K H m ls ∧ SqL K H o ((ls.map (·.1)).map V.str) ∧ TupsM K H t (ts.map ttV)
def spFd2 (K : PySem.W.Frag) : Sp := fun vs H Q _ => ∃ (s o m t : Addr) (xs : List Str) (ls : List Lt) (ts : List Tt), vs = [.ref s, .ref o, .ref m, .ref t] ∧ H s = some (.lst (xs.map V.str)) ∧ SqL K H o ((ls.map (·.1)).map V.str) ∧ LdAt K H m ls ∧ TupsAt K H t (ts.map ttV) ∧ Good xs ls ts ∧
  ∀ d b H', H d = none → Same H H' → H' d = some (.dK (frV s m o t b)) → Q (.ref d) H'
abbrev NWT : List Str := ["_law_source_here", "_law_frame_here", "_law_totals", "_law_name", "_law_ends"]
theorem scWT : FnScope NWT ["_law_source_here", "_law_frame_here"] (defScope sLawWithTotals) := ⟨rfl, rfl, rfl, by decide +kernel, rfl, by decide +kernel, by decide +kernel⟩
def spWT (K : PySem.W.Frag) : Sp := fun vs H Q _ => ∃ (d c e : Addr) (xs : List Str) (ls : List Lt) (n : Nat), vs = [.ref d, .ref e] ∧ SrcAt H d c ∧ FrAt K (hid d c H) e xs ls ∧ xs = ABC.take n ∧ n ≤ 3 ∧
  ∀ (e' : Addr) (us : List Lt) (H' : Hp), SrcAt H' d c → Same (hid d c H) (hid d c H') → FrT K (hid d c H') e' xs ls (us.map totOf) → Drawn xs ls us → Q (.ref e') H'
section
variable {P : Program} {w : World} {K : PySem.W.Frag} {mg : Str → Option Value} {base : Heap} {f : Addr} {fd : FuncData}
theorem ok_fd2 (F : FnP K "_law_framed" sLawFramed f fd) (Y : Fx w K mg) : FnOk P w K mg base CX0 6 f fd ["_law_every", "_law_order", "_law_letters", "_law_totals"] (spFd2 K) := by
  obtain ⟨d2, F2⟩ := Y.dFrame_Init
  have b2 := FunD.bindsN (ps := ["self", "sorts", "letters", "totals"]) F2 fun _ _ _ _ _ _ us hl => match us, hl with | [_, _, _, _], _ => rfl
  have G2 : FnOk P w K mg base (L2.CX P w) 4 _ d2 ["self", "sorts", "letters", "totals"] (spFI2 K) := ok_fi2 F2 Y
  refine okD F scFd (fun vs H Q E h => ?_) (fun cdv A outer s H vs Q E hr h => ?_)
  · obtain ⟨s, o, m, t, xs, ls, ts, rfl, _⟩ := h
    rfl
  · have nd := scFd.nd
    have hu := hu_of hr
    refine ⟨_, pss_cons (ps_set (i := 4) nd rfl (Or.inl rfl) (pe_make Y.mFrame G2 hr (by rfl) Y.gFrame b2 .nil passX (pa_cons (pv 0) (pa_cons
        (pe_lc (own := [("_law_name", 5)]) (g := gName 5) (tt := tYes) (te := tTup (tCons (tVar 5) (tCons (tOp (rIxT K) (tDGet (tVar 2) (tVar 5)) (tC (.int 0))) (tCons (tOp (rIxT K) (tDGet (tVar 2) (tVar 5)) (tC (.int 1))) tNil)))) rfl nd (pi_list (pv 1)) (blkOk_by (N := NFd) (sc := defScope sLawFramed) (by decide +kernel)) (fun _ _ _ _ _ => pg_name (i := 5) nd rfl (Or.inl rfl)) (fun _ _ _ _ _ => pts_nil)
          (fun _ _ _ _ _ => pe_tup (pa_cons (pv 5) (pa_cons (pe_ix ix_tup (pe_dget hu (pv 2) (pv 5) nosl) pe_int (fun _ _ => rfl)) (pa_cons (pe_ix ix_tup (pe_dget hu (pv 2) (pv 5) nosl) pe_int (fun _ _ => rfl)) pa_nil))))) (pa_cons (pv 3) pa_nil)))))
      (pss_one (ps_ret (pe_disp (pps_cons pe_str (pv 0) (pps_cons pe_str (pv 2) (pps_cons pe_str (pv 1) (pps_cons pe_str (pv 3) (pps_cons pe_str (pv 4) pps_nil))))) rfl rfl (by simp) (by decide)))), ?_⟩
    obtain ⟨s, o, m, t, xs, ls, ts, rfl, hs, ho, hm, ht, ok, k⟩ := h
    refine ⟨_, rfl, _, rfl, o, rfl, ⟨_, ho⟩, fun D hD => ?_⟩
    refine lc_list (K := K) (a := o) (xs := (ls.map (·.1)).map V.str) (fun i G => ∃ us : List Addr, G D = some (.lst (us.map V.ref)) ∧ AllT K G us ((ls.take i).map ltV) ∧ Same H G) ⟨[], upd_same, AllT.nil, same_upd hD⟩ (fun i G _ p => by obtain ⟨us, _, _, p⟩ := p; exact p.seq ho) ?_ ?_
    · rintro i v G hi ⟨us, e, hA, sm⟩
      obtain ⟨x, ex, rfl⟩ := str_at hi
      obtain ⟨q, eq, rfl⟩ : ∃ q, ls[i]? = some q ∧ x = q.1 := by
        rw [List.getElem?_map] at ex
        cases z : ls[i]? with
        | none => rw [z] at ex; cases ex
        | some q => rw [z] at ex; exact ⟨q, rfl, (Option.some.inj ex).symm⟩
      obtain ⟨tt, dg, st⟩ := (hm.same sm).get ok.nd eq
      have li := (List.getElem?_eq_some_iff.mp eq).1
      have n60 := ok.fi.ll
      refine ⟨rfl, _, rfl, ?_⟩
      refine ⟨_, rfl, _, rfl, m, .ref tt, rfl, dg, tt, _, 0, _, rfl, rfl, st, rfl, ?_⟩
      refine ⟨_, rfl, _, rfl, m, .ref tt, rfl, dg, tt, _, 1, _, rfl, rfl, st, rfl, ?_⟩
      refine ⟨szl (by show 3 ≤ 1000; decide), fun T hT => ?_⟩
      have e2 := same_upd (o := .tup [V.str q.1, V.str q.2.1, V.str q.2.2]) hT _ _ e
      refine ⟨_, e2, ?_, us ++ [T], ?_, ?_, same_put hD (sm.trans (same_upd hT))⟩
      · have z := hA.1
        rw [List.length_map, List.length_take] at z
        rw [List.length_map]
        exact small1000 (by omega)
      · rw [upd_same, List.map_append]
        rfl
      · rw [List.take_add_one, eq, List.map_append]
        exact ((hA.same (same_upd hT)).snoc (SqT.of upd_same)).put e2
    rintro G ⟨us, e, hA, sm⟩
    rw [List.length_map, List.length_map, List.take_length] at hA
    refine ⟨_, rfl, ?_⟩
    refine mk_fr2 (.inl (sm.seq (SqL.of hs))) (TupsT.tups' (.inl (SqL.of e)) hA) (TupsA.of (ht.same sm)) ok.fi (fun f e => by rw [ok.no] at e; cases e) fun _ b H1 s1 _ hF => ?_
    replace s1 := sm.trans s1
    intro p hp
    refine ⟨_, rfl, _, rfl, _, rfl, _, rfl, _, rfl, upd_same, frV s m o t b, rfl, (show 5 ≤ 15 by decide), ?_⟩
    rw [show mergeK [] (frV s m o t b) = frV s m o t b from rfl, upd_upd]
    have s2 := s1.trans (same_upd (o := .dK (frV s m o t b)) hp)
    exact k p b _ (none_of s1 hp) s2 upd_same
end
end K22

namespace K22
open PySem PySem.Spec PyProof.Rows L2 Ow Xv
theorem dget_same {H H' : Hp} {a : Addr} {y : V} {r : Option V} (s : Same H H') (h : DGet H a y r) : DGet H' a y r := by
  have go : ∀ {u : HO}, Rd H a u → Rd H' a u := fun z => z.elim (fun z => .inl (s _ _ z)) fun ⟨o, z⟩ => .inr ⟨o, s _ _ z⟩
  rcases h with ⟨kvs, k, h1, h2, h3⟩ | ⟨kvs, k, b, h1, h2, h3, h4⟩
  · exact .inl ⟨kvs, k, go h1, h2, h3⟩
  · exact .inr ⟨kvs, k, b, go h1, h2, s _ _ h3, h4⟩
theorem snoc_sub {us ls : List Lt} {q : Lt} (h : us.Sublist ls) : (us ++ [q]).Sublist (ls ++ [q]) := h.append (List.Sublist.refl _)
section
variable {P : Program} {w : World} {K : PySem.W.Frag} {mg : Str → Option Value} {base : Heap} {f : Addr} {fd : FuncData}
theorem ok_wt (F : FnP K "_law_with_totals" sLawWithTotals f fd) (Y : Fx w K mg) : FnOk P w K mg base CX0 7 f fd ["_law_source_here", "_law_frame_here"] (spWT K) := by
  obtain ⟨d1, F1⟩ := Y.dLawPick
  obtain ⟨d3, F3⟩ := Y.dLawFramed
  have b1 := FunD.bindsN (ps := ["_law_source_here", "_law_many"]) F1 fun _ _ _ _ _ _ us hl => match us, hl with | [_, _], _ => rfl
  have b3 := FunD.bindsN (ps := ["_law_every", "_law_order", "_law_letters", "_law_totals"]) F3 fun _ _ _ _ _ _ us hl => match us, hl with | [_, _, _, _], _ => rfl
  have G1 : FnOk P w K mg base CX0 1 _ d1 ["_law_source_here", "_law_many"] spPick := ok_pick F1 Y.bl
  have G3 : FnOk P w K mg base CX0 6 _ d3 ["_law_every", "_law_order", "_law_letters", "_law_totals"] (spFd2 K) := ok_fd2 F3 Y
  refine okD F scWT (fun vs H Q E h => ?_) (fun cdv A outer s H vs Q E hr h => ?_)
  · obtain ⟨d, c, e, xs, ls, n, rfl, _⟩ := h
    rfl
  · have nd := scWT.nd
    have hu := hu_of hr
    have B := Y.bl
    have hr1 : Room 1 _ := hr.mono (by decide)
    refine ⟨_, pss_cons (ps_set (i := 2) nd rfl (Or.inl rfl) (pe_lst pa_nil))
      (pss_cons (ps_for PassesOwn.never rfl (pi_list (pe_dget hu (pv 1) pe_str nosl)) (pg_name (i := 3) nd rfl (Or.inl rfl))
        (pss_cons (ps_set (i := 4) nd rfl (Or.inl rfl) (pe_dget hu (pe_dget hu (pv 1) pe_str nosl) (pv 3) nosl))
        (pss_one (ps_if (pw_and (pt_cmpR op_ne (pe_ix ix_tup (pv 4) pe_int (fun _ _ => rfl)) (pe_ix ix_tup (pv 4) pe_int (fun _ _ => rfl)) (nomark _)) (pw_and1 (pt_cmpR op_eq (pe_call G1 hr1 (by rfl) Y.gLawPick F1.kp b1 .nil pass0 (pa_cons (pv 0) (pa_cons pe_int pa_nil))) pe_int (nomark _)))).pt
          (pss_one (ps_expr (pe_bm PySem.F.plainAttrs_list PySem.F.slot_list_append PySem.F.type_list_append mt_append (pv 2) (pa_cons (pe_tup (pa_cons (pv 3) (pa_cons (pe_ix ix_list (pe_lst (pa_cons pe_str (pa_cons pe_str pa_nil)))
            (pe_callTy call_int1 (by rfl) B.int boot_int (pa_cons (pe_cmpR op_gt_str (pe_ix ix_tup (pv 4) pe_int (fun _ _ => rfl)) (pe_ix ix_tup (pv 4) pe_int (fun _ _ => rfl)) (nomark _)) pa_nil)) (fun _ _ => rfl)) pa_nil))) pa_nil)))) pss_nil))))
      (pss_one (ps_ret (pe_call G3 hr (by rfl) Y.gLawFramed F3.kp b3 .nil pass0 (pa_cons (pe_dget hu (pv 1) pe_str nosl) (pa_cons (pe_dget hu (pv 1) pe_str nosl) (pa_cons (pe_dget hu (pv 1) pe_str nosl) (pa_cons (pv 2) pa_nil)))))))), ?_⟩
    obtain ⟨d, c, e, xs, ls, n, rfl, src, fr, ex, n3, k⟩ := h
    obtain ⟨⟨s, m, o, t, b, h1, h2, h3, h4⟩, ok⟩ := id fr
    have l16 : ls.length ≤ 16 := by have := ok.nl.n; rw [List.length_map] at this; exact this
    refine ⟨szl (by show 0 ≤ 1000; decide), fun L hL => ?_⟩
    obtain ⟨Ld, Lc⟩ := src_ne src hL
    have hLh : hid d c H L = none := (hid_at Ld Lc).trans hL
    have s0 : Same (hid d c H) (hid d c (upd H L (.lst []))) := hid_same (same_upd hL)
    dsimp only [gName]
    refine ⟨_, rfl, e, .ref o, rfl, fr_order (hid_sub _ _ (s0 _ _ h1)), o, rfl, ⟨_, hid_sub.seq (s0.seq h4)⟩, for_list (K := K) (a := o) (xs := (ls.map (·.1)).map V.str) (fun i σ G => (∃ v3 v4, σ = [some (.ref d), some (.ref e), some (.ref L), v3, v4]) ∧ SrcAt G d c ∧ Same (hid d c H) (hid d c G) ∧
      ∃ (as : List Addr) (us : List Lt), G L = some (.lst (as.map V.ref)) ∧ AllT K (hid d c G) as ((us.map totOf).map ttV) ∧ us.Sublist (ls.take i) ∧ ∀ q ∈ us, q.2.1 ≠ q.2.2)
      ⟨⟨none, none, rfl⟩, src_put Ld Lc src, s0, [], [], upd_same, AllT.nil, List.nil_sublist _, fun q hq => absurd hq List.not_mem_nil⟩ (fun i σ G _ p => hid_sub.seq (p.2.2.1.seq h4)) ?_ ?_⟩
    · rintro i v σ G hi ⟨⟨v3, v4, rfl⟩, src2, sm, as, us, eL, hA, hsub, hne⟩
      obtain ⟨x, ex1, rfl⟩ := str_at hi
      obtain ⟨q, eq, rfl⟩ : ∃ q, ls[i]? = some q ∧ x = q.1 := by
        rw [List.getElem?_map] at ex1
        cases z : ls[i]? with
        | none => rw [z] at ex1; cases ex1
        | some q => rw [z] at ex1; exact ⟨q, rfl, (Option.some.inj ex1).symm⟩
      have li := (List.getElem?_eq_some_iff.mp eq).1
      obtain ⟨tt, dg0, st0⟩ := (h3.same sm).get ok.nl.nd eq
      have dg := dget_same hid_sub dg0
      have st := sqt_same hid_sub st0
      have la : as.length ≤ i := by
        have z := hA.1
        rw [List.length_map, List.length_map] at z
        have z2 := hsub.length_le
        rw [List.length_take] at z2
        omega
      have tk : ls.take (i + 1) = ls.take i ++ [q] := by rw [List.take_add_one, eq]; rfl
      have sub2 : us.Sublist (ls.take (i + 1)) := by rw [tk]; exact hsub.trans (List.sublist_append_left _ _)
      refine ⟨_, rfl, e, .ref m, rfl, fr_letters (hid_sub _ _ (sm _ _ h1)), _, rfl, m, .ref tt, rfl, dg, ?_⟩
      dsimp only [gName]
      change tIfS _ _ _ _ [some (.ref d), some (.ref e), some (.ref L), some (.str q.1), some (.ref tt)] G
      refine ⟨_, rfl, tt, _, 0, _, rfl, rfl, st, rfl, _, rfl, tt, _, 1, _, rfl, rfl, st, rfl, rfl, _, rfl, ite2 (fun hc => ?_) (fun hc => ?_)⟩
      · have ne : q.2.1 ≠ q.2.2 := fun z => by
          have z2 : (!decide (V.str q.2.1 = V.str q.2.2)) = true := hc
          rw [decide_eq_true (congrArg V.str z)] at z2
          cases z2
        refine ⟨_, rfl, d, c, 2, rfl, src2, by decide, by decide, fun r G2 r0 r1 src3 keep3 => ⟨rfl, _, rfl, ?_⟩⟩
        have eh : hid d c G2 = hid d c G := hid_pick keep3
        have eL2 : G2 L = some (.lst (as.map V.ref)) := (keep3 L Ld Lc).trans eL
        rw [← eh] at sm hA
        rw [← eh] at st0
        have st2 := sqt_same hid_sub st0
        refine ite2 (fun hc2 => ?_) (fun hc2 => ?_)
        · refine ⟨_, rfl, .inl ⟨rfl, _, SqL.of eL2⟩, _, rfl, szl (by show 2 ≤ 1000; decide), fun l0 hl0 => ?_⟩
          have s1 := same_upd (o := .lst [V.str "on", V.str "back"]) hl0
          have st3 := sqt_same s1 st2
          refine ⟨_, rfl, tt, _, 0, _, rfl, rfl, st3, rfl, _, rfl, tt, _, 1, _, rfl, rfl, st3, rfl, _, _, rfl, rfl, .inr ⟨_, rfl, ?_⟩⟩
          refine ⟨l0, _, _, .str (totOf q).2, rfl, rfl, SqL.of upd_same, ?_, szl (by show 2 ≤ 1000; decide), fun T hT => ?_⟩
          · unfold totOf
            dsimp only
            by_cases z : q.2.2.cps.toList < q.2.1.cps.toList
            · rw [decide_eq_true z, if_pos z]
              rfl
            · rw [decide_eq_false z, if_neg z]
              rfl
          have s2 := same_upd (o := .tup [V.str q.1, V.str (totOf q).2]) hT
          have s12 := s1.trans s2
          have eL3 := s12 _ _ eL2
          obtain ⟨Td, Tc⟩ := src_ne (src_same s1 src3) hT
          have sh := hid_same (d := d) (c := c) s12
          refine ⟨L, _, _, rfl, rfl, eL3, by rw [List.length_map]; exact small1000 (by omega), ⟨_, _, rfl⟩, src_put Ld Lc (src_same s12 src3), ?_, as ++ [T], us ++ [q], by rw [upd_same, List.map_append]; rfl, ?_, by rw [tk]; exact snoc_sub hsub, ?_⟩
          · exact hid_put hL (sm.trans sh)
          · rw [List.map_append, List.map_append, hid_upd Ld Lc]
            refine AllT.put ((hid_at Ld Lc).trans eL3) ((hA.same sh).snoc (SqT.of ?_))
            exact (hid_at Td Tc).trans upd_same
          · intro p hp
            rcases List.mem_append.mp hp with z | z
            · exact hne p z
            · rw [List.mem_singleton.mp z]
              exact ne
        · exact ⟨⟨_, _, rfl⟩, src3, sm, as, us, eL2, hA, sub2, hne⟩
      · exact iteF ⟨⟨_, _, rfl⟩, src2, sm, as, us, eL, hA, sub2, hne⟩
    · rintro σ G ⟨⟨v3, v4, rfl⟩, src2, sm, as, us, eL, hA, hsub, hne⟩
      rw [List.length_map, List.length_map, List.take_length] at hsub
      have dr := drawn_of ok ex n3 hsub hne
      have gd := dr.good
      have eLh : hid d c G L = some (.lst (as.map V.ref)) := (hid_at Ld Lc).trans eL
      have z0 := sm.trans hid_sub
      have eG := z0 _ _ h1
      have hm : TupsM K (hid d c G) L ((us.map totOf).map ttV) := ⟨as, eLh, hA⟩
      refine ⟨_, rfl, e, .ref s, rfl, fr_sorts eG, _, rfl, e, .ref o, rfl, fr_order eG, _, rfl, e, .ref m, rfl, fr_letters eG, _, rfl, s, o, m, L, xs, ls, us.map totOf, rfl, z0 _ _ h2, z0.seq h4, h3.same z0, (hm.same hid_sub).at_, gd, fun e' b' H' he s9 ee => ?_⟩
      obtain ⟨ed, ec⟩ := src_ne src2 he
      have s9h := hid_same (d := d) (c := c) s9
      have smA := sm.trans s9h
      exact k e' us H' (src_same s9 src2) smA ⟨s, m, o, L, b', (hid_at ed ec).trans ee, smA _ _ h2, h3.same smA, smA.seq h4, hm.same s9h⟩ dr
end
end K22

namespace K22
open PySem PySem.Spec PyProof.Rows L2 Ow Xv
/-! ### lists with one thing bent -/
def rMulS : R2 := fun x y H Q => ∃ (i : Str) (k : Int), x = .str i ∧ y = .int k ∧ MulOk i k ∧ Q (.str (Txt.mul i k)) H
theorem op_mulS {X : Cx} : OpR X (binaryOp .Mult) rMulS := by
  intro pins s σ H x y v u Q I rx ry h
  obtain ⟨i, k, rfl, rfl, hz, q⟩ := h
  obtain ⟨t, rfl⟩ := rx
  obtain ⟨t', rfl⟩ := ry
  exact SB.mul hz (fun t' tk => ⟨.str (Txt.mul i k), H, I.tok _, ⟨_, rfl⟩, q⟩)
def x13 : Str := Txt.mul "x" 13
def x12 : Str := Txt.mul "x" 12
theorem mul13 : MulOk "x" 13 := by unfold MulOk; decide +kernel
theorem mul12 : MulOk "x" 12 := by unfold MulOk; decide +kernel
def odds : List Str := ["A", "", "a b", "9", x13, x12, "zz", "a", "on", "b_", "z0"]
def okxB (x : Str) : Bool := decide (x.length ≤ 900) && PyData.strOk x
theorem okx_of {x : Str} (h : okxB x = true) : Okx x := by
  obtain ⟨a, b⟩ := an h
  exact ⟨of_decide_eq_true a, b⟩
theorem odds_ok : ∀ x ∈ odds, Okx x := fun x hx => okx_of (List.all_eq_true.mp (show odds.all okxB = true by decide +kernel) x hx)
theorem odds_nz : ∀ x ∈ odds, x ≠ ("zzz" : Str) := by decide +kernel
def words4 : List Str := ["on", "back", "off", ""]
theorem words_ok : ∀ x ∈ words4, Okx x := fun x hx => okx_of (List.all_eq_true.mp (show words4.all okxB = true by decide +kernel) x hx)
theorem cutV_drop (xs : List V) (n : Nat) : cutV xs (some (n : Int)) none = xs.drop n := by
  unfold cutV
  rw [HT.sIx_none, HT.sIx_nat]
  by_cases h : n ≤ xs.length
  · rw [Nat.min_eq_left h, List.take_of_length_le (by rw [List.length_drop]; exact Nat.le_refl _)]
  · rw [Nat.min_eq_right (by omega), List.drop_length, List.take_nil, List.drop_of_length_le (by omega)]
theorem cutV_strs (xs : List Str) (lo hi : Option Int) : ∃ ys : List Str, cutV (xs.map V.str) lo hi = ys.map V.str ∧ (∀ y ∈ ys, y ∈ xs) ∧ ys.length ≤ xs.length := by
  unfold cutV
  refine ⟨(xs.drop (HT.sIx (xs.map V.str).length 0 lo)).take (HT.sIx (xs.map V.str).length (xs.map V.str).length hi - HT.sIx (xs.map V.str).length 0 lo), by rw [List.map_take, List.map_drop], fun y hy => List.mem_of_mem_drop (List.mem_of_mem_take hy), ?_⟩
  rw [List.length_take, List.length_drop]
  omega
section
variable {K : PySem.W.Frag} {H : Hp}
theorem AllT.app {us us' : List Addr} {vss vss' : List (List V)} (h : AllT K H us vss) (g : AllT K H us' vss') : AllT K H (us ++ us') (vss ++ vss') := by
  refine ⟨by rw [List.length_append, List.length_append, h.1, g.1], fun i t e => ?_⟩
  by_cases lt : i < us.length
  · rw [List.getElem?_append_left lt] at e
    obtain ⟨ws, a, b⟩ := h.2 i t e
    exact ⟨ws, by rw [List.getElem?_append_left (by rw [← h.1]; exact lt)]; exact a, b⟩
  · rw [List.getElem?_append_right (by omega)] at e
    obtain ⟨ws, a, b⟩ := g.2 _ t e
    exact ⟨ws, by rw [List.getElem?_append_right (by rw [← h.1]; omega), ← h.1]; exact a, b⟩
theorem AllT.one {T : Addr} {vs : List V} (h : SqT K H T vs) : AllT K H [T] [vs] := (AllT.nil (K := K) (H := H)).snoc h
theorem AllT.take {us : List Addr} {vss : List (List V)} (h : AllT K H us vss) (n : Nat) : AllT K H (us.take n) (vss.take n) := by
  refine ⟨by rw [List.length_take, List.length_take, h.1], fun i t e => ?_⟩
  have l := (List.getElem?_eq_some_iff.mp e).1
  rw [List.length_take] at l
  rw [List.getElem?_take_of_lt (by omega)] at e
  obtain ⟨ws, a, b⟩ := h.2 i t e
  exact ⟨ws, by rw [List.getElem?_take_of_lt (by omega)]; exact a, b⟩
theorem AllT.drop {us : List Addr} {vss : List (List V)} (h : AllT K H us vss) (n : Nat) : AllT K H (us.drop n) (vss.drop n) := by
  refine ⟨by rw [List.length_drop, List.length_drop, h.1], fun i t e => ?_⟩
  rw [List.getElem?_drop] at e
  obtain ⟨ws, a, b⟩ := h.2 _ t e
  exact ⟨ws, by rw [List.getElem?_drop]; exact a, b⟩
end
/-- three lists in a list -/
structure LsAt (K : PySem.W.Frag) (H : Hp) (L s l t : Addr) (xs : List Str) (ls : List Lt) (ts : List Tt) : Prop where
  L : H L = some (.lst [.ref s, .ref l, .ref t])
  s : H s = some (.lst (xs.map V.str))
  l : TupsM K H l (ls.map ltV)
  t : TupsM K H t (ts.map ttV)
theorem LsAt.same {K : PySem.W.Frag} {H H' : Hp} {L s l t : Addr} {xs : List Str} {ls : List Lt} {ts : List Tt} (sm : Same H H') (h : LsAt K H L s l t xs ls ts) : LsAt K H' L s l t xs ls ts := ⟨sm _ _ h.L, sm _ _ h.s, h.l.same sm, h.t.same sm⟩
theorem slice_fromL {K : PySem.W.Frag} {H : Hp} {a : Addr} {xs : List V} {σ : L2.St} {lo : Option Int} {Q : VK} (h : SqL K H a xs) (k : ∀ p, H p = none → Q (.ref p) (upd H p (.lst (cutV xs lo none)))) :
    tNoPart σ H (fun u H3 => rSlL K (.ref a) lo u H3 Q) := ⟨a, xs, rfl, h, k⟩
theorem ifx {c : Bool} {σ : L2.St} {G : Hp} {R : VK} {i j : Nat} {u v : Str} (hi : σ[i]? = some (some (.str u))) (hj : σ[j]? = some (some (.str v))) (h : ∀ z, (z = u ∨ z = v) → R (.str z) G) : (if c = true then tVar i σ G R else tVar j σ G R) := by
  cases c with
  | true => exact iteT ⟨_, hi, h u (.inl rfl)⟩
  | false => exact iteF ⟨_, hj, h v (.inr rfl)⟩
structure LsIn (N : Nat) (xs : List Str) (ls : List Lt) (ts : List Tt) : Prop where
  ox : ∀ x ∈ xs, Okx x
  ol : ∀ q ∈ ls, Okx q.1 ∧ Okx q.2.1 ∧ Okx q.2.2
  ot : ∀ q ∈ ts, Okx q.1 ∧ Okx q.2
  lx : xs.length ≤ N
  ll : ls.length ≤ N
  lt : ts.length ≤ N
  l1 : 1 ≤ ls.length
  nx : ∀ x ∈ xs, x ≠ ("zzz" : Str)
  nl : ∀ q ∈ ls, q.1 ≠ ("zzz" : Str)
abbrev NBt : List Str := ["_law_source_here", "_law_sorts", "_law_letters", "_law_totals", "_law_odd", "_law_way", "_law_at", "_law_name", "_law_one", "_law_other", "_law_turned", "_law_word"]
theorem scBt : FnScope NBt ["_law_source_here", "_law_sorts", "_law_letters", "_law_totals"] (defScope sLawBent) := ⟨rfl, rfl, rfl, by decide +kernel, rfl, by decide +kernel, by decide +kernel⟩
abbrev lB (d s l t : Addr) (v4 v5 v6 v7 v8 v9 v10 v11 : Option V) : L2.St := [some (.ref d), some (.ref s), some (.ref l), some (.ref t), v4, v5, v6, v7, v8, v9, v10, v11]
def spBt (K : PySem.W.Frag) : Sp := fun vs H Q _ => ∃ (d c s l t : Addr) (xs : List Str) (ls : List Lt) (ts : List Tt) (N : Nat), vs = [.ref d, .ref s, .ref l, .ref t] ∧ SrcAt H d c ∧ hid d c H s = some (.lst (xs.map V.str)) ∧ TupsM K (hid d c H) l (ls.map ltV) ∧ TupsM K (hid d c H) t (ts.map ttV) ∧ LsIn N xs ls ts ∧ N ≤ 50 ∧
  ∀ (L s' l' t' : Addr) (xs' : List Str) (ls' : List Lt) (ts' : List Tt) (H' : Hp), SrcAt H' d c → Same (hid d c H) (hid d c H') → LsAt K (hid d c H') L s' l' t' xs' ls' ts' → LsIn (N + 1) xs' ls' ts' → Q (.ref L) H'
section
variable {P : Program} {w : World} {K : PySem.W.Frag} {mg : Str → Option Value} {base : Heap} {f : Addr} {fd : FuncData}
/-- a new object beside the source -/
theorem new_hid {d c p : Addr} {H : Hp} {o : HO} (src : SrcAt H d c) (hp : H p = none) : SrcAt (upd H p o) d c ∧ Same (hid d c H) (hid d c (upd H p o)) ∧ hid d c (upd H p o) p = some o := by
  obtain ⟨n1, n2⟩ := src_ne src hp
  exact ⟨src_put n1 n2 src, hid_same (same_upd hp), (hid_at n1 n2).trans upd_same⟩
theorem ok_bt (F : FnP K "_law_bent" sLawBent f fd) (Y : Fx w K mg) : FnOk P w K mg base CX0 2 f fd ["_law_source_here", "_law_sorts", "_law_letters", "_law_totals"] (spBt K) := by
  obtain ⟨d1, F1⟩ := Y.dLawPick
  have b1 := FunD.bindsN (ps := ["_law_source_here", "_law_many"]) F1 fun _ _ _ _ _ _ us hl => match us, hl with | [_, _], _ => rfl
  have G1 : FnOk P w K mg base CX0 1 _ d1 ["_law_source_here", "_law_many"] spPick := ok_pick F1 Y.bl
  refine okD F scBt (fun vs H Q E h => ?_) (fun cdv A outer s H vs Q E hr h => ?_)
  · obtain ⟨d, c, s, l, t, xs, ls, ts, N, rfl, _⟩ := h
    rfl
  · have nd := scBt.nd
    refine ⟨_, pss_cons (ps_set (i := 4) nd rfl (Or.inl rfl) (pe_ix ix_list (pe_lst (pa_cons pe_str (pa_cons pe_str (pa_cons pe_str (pa_cons pe_str (pa_cons (pe_op op_mulS pe_str pe_int) (pa_cons (pe_op op_mulS pe_str pe_int) (pa_cons pe_str (pa_cons pe_str (pa_cons pe_str (pa_cons pe_str (pa_cons pe_str pa_nil))))))))))))
          (pe_call G1 hr (by rfl) Y.gLawPick F1.kp b1 .nil pass0 (pa_cons (pv 0) (pa_cons pe_int pa_nil))) (fun _ _ => rfl)))
      (pss_cons (ps_par (i := 5) (j := 6) (by rfl) nd rfl rfl (by decide) rfl rfl (pa_cons (pe_call G1 hr (by rfl) Y.gLawPick F1.kp b1 .nil pass0 (pa_cons (pv 0) (pa_cons pe_int pa_nil))) (pa_cons (pe_call G1 hr (by rfl) Y.gLawPick F1.kp b1 .nil pass0 (pa_cons (pv 0) (pa_cons (pe_callB call_len_seq (by rfl) Y.bLen PySem.boot_len (pa_cons (pv 2) pa_nil)) pa_nil))) pa_nil)) (by rfl))
      (pss_cons (ps_if (pw_and (pt_cmpR op_eq (pv 5) pe_int (nomark _)) (pw_and1 (pt_cmpR op_lt (pe_callB call_len_seq (by rfl) Y.bLen PySem.boot_len (pa_cons (pv 1) pa_nil)) pe_int (nomark _)))).pt
          (pss_one (ps_ret (pe_lst (pa_cons (pe_op op_cat (pv 1) (pe_lst (pa_cons (pv 4) pa_nil))) (pa_cons (pv 2) (pa_cons (pv 3) pa_nil)))))) pss_nil)
      (pss_cons (ps_if (pt_cmpR op_eq (pv 5) pe_int (nomark _)) (pss_one (ps_ret (pe_lst (pa_cons (pe_slice sl_list (pv 1) po_none (po_some (pe_un un_neg pe_int))) (pa_cons (pv 2) (pa_cons (pv 3) pa_nil)))))) pss_nil)
      (pss_cons (ps_asg (pe_ix ix_list (pv 2) (pv 6) (fun _ _ => rfl)) (pg_tup rfl (pgs_cons (pg_name (i := 7) nd rfl (Or.inl rfl)) (pgs_cons (pg_name (i := 8) nd rfl (Or.inl rfl)) (pgs_cons (pg_name (i := 9) nd rfl (Or.inl rfl)) pgs_nil)))))
      (pss_cons (ps_if (pt_cmpR op_lt (pv 5) pe_int (nomark _))
          (pss_cons (ps_set (i := 10) nd rfl (Or.inl rfl) (pe_ix ix_list (pe_lst (pa_cons (pe_tup (pa_cons (pv 4) (pa_cons (pv 8) (pa_cons (pv 9) pa_nil)))) (pa_cons (pe_tup (pa_cons (pv 7) (pa_cons (pv 4) (pa_cons (pv 9) pa_nil)))) (pa_cons (pe_tup (pa_cons (pv 7) (pa_cons (pv 8) (pa_cons (pv 4) pa_nil)))) pa_nil)))) (pe_op op_sub (pv 5) pe_int) (fun _ _ => rfl)))
          (pss_one (ps_ret (pe_lst (pa_cons (pv 1) (pa_cons (pe_op op_cat (pe_op op_cat (pe_slice sl_list (pv 2) po_none (po_some (pv 6))) (pe_lst (pa_cons (pv 10) pa_nil))) (pe_slice sl_list (pv 2) (po_some (pe_op op_add (pv 6) pe_int)) po_none)) (pa_cons (pv 3) pa_nil))))))) pss_nil)
      (pss_cons (ps_if (pt_cmpR op_eq (pv 5) pe_int (nomark _)) (pss_one (ps_ret (pe_lst (pa_cons (pv 1) (pa_cons (pe_op op_cat (pv 2) (pe_lst (pa_cons (pe_tup (pa_cons (pv 7) (pa_cons (pv 9) (pa_cons (pv 8) pa_nil)))) pa_nil))) (pa_cons (pv 3) pa_nil)))))) pss_nil)
      (pss_cons (ps_set (i := 11) nd rfl (Or.inl rfl) (pe_ix ix_list (pe_lst (pa_cons pe_str (pa_cons pe_str (pa_cons pe_str (pa_cons pe_str pa_nil))))) (pe_call G1 hr (by rfl) Y.gLawPick F1.kp b1 .nil pass0 (pa_cons (pv 0) (pa_cons pe_int pa_nil))) (fun _ _ => rfl)))
      (pss_one (ps_ret (pe_lst (pa_cons (pv 1) (pa_cons (pv 2) (pa_cons (pe_op op_cat (pv 3) (pe_lst (pa_cons (pe_tup (pa_cons (pe_ifExp (pt_cmpR op_eq (pv 5) pe_int (nomark _)) (pv 7) (pv 4)) (pa_cons (pv 11) pa_nil))) pa_nil))) pa_nil)))))))))))))  , ?_⟩
    obtain ⟨d, c, s, l, t, xs, ls, ts, N, rfl, src, hs, hl, ht, ok, n50, k⟩ := h
    have lx := ok.lx
    have ll := ok.ll
    have lt := ok.lt
    have l1 := ok.l1
    -- the odd word
    refine seq_any (fun σ' G => ∃ x, σ' = lB d s l t (some (.str x)) none none none none none none none ∧ x ∈ odds ∧ SrcAt G d c ∧ Same (hid d c H) (hid d c G)) ?_ ?_
    rotate_left
    · intro nx hnx
      refine ⟨_, _, rfl, rfl, mul13, _, _, rfl, rfl, mul12, szl (by show 11 ≤ 1000; decide), fun p hp => ?_⟩
      obtain ⟨src1, s1, e1⟩ := new_hid (o := .lst (odds.map V.str)) src hp
      refine ⟨_, rfl, d, c, 11, rfl, src1, by decide, by decide, fun r G2 r0 r1 src2 keep2 => ?_⟩
      obtain ⟨j, rfl⟩ : ∃ j : Nat, r = (j : Int) := ⟨r.toNat, by omega⟩
      have eh := hid_pick keep2
      have lj : j < odds.length := by show j < 11; omega
      refine ⟨p, _, _, _, rfl, rfl, SqL.of (xs := odds.map V.str) (hid_sub _ _ (by rw [eh]; exact e1)), str_ix lj, ?_⟩
      exact hnx _ _ ⟨odds[j], rfl, List.getElem_mem _, src2, by rw [eh]; exact s1⟩
    rintro σ B ⟨x, rfl, hx, src1, sB⟩
    have ox := odds_ok x hx
    have nzx := odds_nz x hx
    -- way and place
    refine seq_any (fun σ' G => ∃ w a : Nat, σ' = lB d s l t (some (.str x)) (some (.int (w : Int))) (some (.int (a : Int))) none none none none none ∧ w < 8 ∧ a < ls.length ∧ SrcAt G d c ∧ Same (hid d c H) (hid d c G)) ?_ ?_
    rotate_left
    · intro nx hnx
      refine ⟨_, rfl, d, c, 8, rfl, src1, by decide, by decide, fun r G2 r0 r1 src2 keep2 => ?_⟩
      obtain ⟨j, rfl⟩ : ∃ j : Nat, r = (j : Int) := ⟨r.toNat, by omega⟩
      have eh := hid_pick keep2
      rw [← eh] at sB
      obtain ⟨as, el, hA⟩ := hl.same (sB.trans hid_sub)
      have la : as.length = ls.length := by rw [hA.1, List.length_map]
      refine ⟨_, rfl, _, rfl, l, _, rfl, .inl (SqL.of el), ?_⟩
      rw [List.length_map, la]
      refine ⟨d, c, (ls.length : Int), rfl, src2, by omega, by omega, fun r G3 r0' r1' src3 keep3 => ?_⟩
      obtain ⟨a, rfl⟩ : ∃ a : Nat, r = (a : Int) := ⟨r.toNat, by omega⟩
      have eh3 := hid_pick keep3
      rw [← eh3] at sB
      exact ⟨_, _, rfl, hnx _ _ ⟨j, a, rfl, by omega, by omega, src3, sB⟩⟩
    clear src1 sB B
    rintro σ B ⟨w, a, rfl, hw, ha, src1, sB⟩
    have z0 := sB.trans hid_sub
    have es := z0 _ _ hs
    obtain ⟨as, el, hA⟩ := hl.same z0
    obtain ⟨bs, et, hB⟩ := ht.same z0
    have la : as.length = ls.length := by rw [hA.1, List.length_map]
    have lb : bs.length = ts.length := by rw [hB.1, List.length_map]
    have el_h := hl.same sB
    have et_h := ht.same sB
    have es_h := sB _ _ hs
    have wz : ∀ {n : Nat}, decide (V.int (w : Int) = V.int ((n : Nat) : Int)) = true → w = n := fun {n} h => by
      have z := V.int.inj (of_decide_eq_true h)
      omega
    have wn : ∀ {n : Nat}, ¬ decide (V.int (w : Int) = V.int ((n : Nat) : Int)) = true → w ≠ n := fun {n} h e => h (by rw [e]; exact decide_eq_true rfl)
    have fin : ∀ {G : Hp} {s' l' t' : Addr} {xs' : List Str} {ls' : List Lt} {ts' : List Tt}, SrcAt G d c → Same (hid d c H) (hid d c G) → hid d c G s' = some (.lst (xs'.map V.str)) → TupsM K (hid d c G) l' (ls'.map ltV) → TupsM K (hid d c G) t' (ts'.map ttV) → LsIn (N + 1) xs' ls' ts' →
        ∀ L, G L = none → Q (.ref L) (upd G L (.lst [.ref s', .ref l', .ref t'])) := fun {G s' l' t' xs' ls' ts'} sr sm a1 a2 a3 a4 L hL => by
      obtain ⟨sr2, s2, e2⟩ := new_hid (o := .lst [.ref s', .ref l', .ref t']) sr hL
      exact k L s' l' t' xs' ls' ts' _ sr2 (sm.trans s2) ⟨e2, s2 _ _ a1, a2.same s2, a3.same s2⟩ a4
    -- the sorts
    refine seq_any (fun σ' G => σ' = lB d s l t (some (.str x)) (some (.int (w : Int))) (some (.int (a : Int))) none none none none none ∧ G = B) ?_ ?_
    rotate_left
    · intro nx hnx
      refine ⟨_, rfl, rfl, _, rfl, ite2 (fun hc => ?_) (fun hc => iteF (hnx _ _ ⟨rfl, rfl⟩))⟩
      refine ⟨_, rfl, s, _, rfl, .inl (SqL.of es), _, _, rfl, rfl, _, rfl, ite2 (fun hc2 => ?_) (fun hc2 => hnx _ _ ⟨rfl, rfl⟩)⟩
      refine ⟨_, rfl, _, rfl, szl (by show 1 ≤ 1000; decide), fun p hp => ?_⟩
      obtain ⟨r1, s1, e1⟩ := new_hid (o := .lst [V.str x]) src1 hp
      refine ⟨s, p, _, _, rfl, rfl, same_upd hp _ _ es, upd_same, szl (by rw [List.length_map]; show xs.length + 1 ≤ 1000; omega), fun r hr => ?_⟩
      obtain ⟨r2, s2, e2⟩ := new_hid (o := .lst (xs.map V.str ++ [V.str x])) r1 hr
      refine ⟨_, rfl, _, rfl, szl (by show 3 ≤ 1000; decide), fin (xs' := xs ++ [x]) r2 (sB.trans (s1.trans s2)) (e2.trans (congrArg (fun z => some (HO.lst z)) (List.map_append (f := V.str) (l₁ := xs) (l₂ := [x])).symm)) (el_h.same (s1.trans s2)) (et_h.same (s1.trans s2)) ⟨fun y hy => ?_, ok.ol, ok.ot, by rw [List.length_append]; show xs.length + 1 ≤ _; omega, by omega, by omega, l1, fun y hy => ?_, ok.nl⟩⟩
      · rcases List.mem_append.mp hy with z | z
        · exact ok.ox y z
        · rw [List.mem_singleton.mp z]
          exact ox
      · rcases List.mem_append.mp hy with z | z
        · exact ok.nx y z
        · rw [List.mem_singleton.mp z]
          exact nzx
    rintro σ G ⟨rfl, rfl⟩
    -- a sort less
    refine seq_any (fun σ' G' => σ' = lB d s l t (some (.str x)) (some (.int (w : Int))) (some (.int (a : Int))) none none none none none ∧ G' = G ∧ w ≠ 1) ?_ ?_
    rotate_left
    · intro nx hnx
      refine ⟨_, rfl, rfl, _, rfl, ite2 (fun hc => ?_) (fun hc => hnx _ _ ⟨rfl, rfl, wn (n := 1) hc⟩)⟩
      obtain ⟨ys, ey, hy, ly⟩ := cutV_strs xs none (some (-1))
      refine ⟨_, rfl, _, rfl, _, rfl, s, _, rfl, SqL.of es, fun p hp => ?_⟩
      rw [ey]
      obtain ⟨r1, s1, e1⟩ := new_hid (o := .lst (ys.map V.str)) src1 hp
      exact ⟨_, rfl, _, rfl, szl (by show 3 ≤ 1000; decide), fin (xs' := ys) r1 (sB.trans s1) e1 (el_h.same s1) (et_h.same s1) ⟨fun y h => ok.ox y (hy y h), ok.ol, ok.ot, by omega, by omega, by omega, l1, fun y h => ok.nx y (hy y h), ok.nl⟩⟩
    rintro σ G' ⟨rfl, rfl, w1⟩
    -- a letter
    have hal : a < as.length := by omega
    have ea : as[a]? = some (as[a]'hal) := List.getElem?_eq_getElem _
    obtain ⟨vs, e1, hT⟩ := hA.2 a _ ea
    obtain ⟨q, eq, rfl⟩ := lt_at e1
    obtain ⟨oq1, oq2, oq3⟩ := ok.ol q (List.mem_of_getElem? eq)
    have nzq := ok.nl q (List.mem_of_getElem? eq)
    refine ⟨_, rfl, _, rfl, l, _, _, _, rfl, rfl, SqL.of el, atI_nat (v := .ref (as[a]'hal)) (by rw [List.getElem?_map, ea]; rfl), as[a]'hal, _, rfl, hT, rfl, _, _, rfl, _, _, rfl, _, _, rfl, rfl, ?_⟩
    dsimp only
    change tSeq _ _ _ (lB d s l t (some (.str x)) (some (.int (w : Int))) (some (.int (a : Int))) (some (.str q.1)) (some (.str q.2.1)) (some (.str q.2.2)) none none) G'
    -- a letter changed
    refine seq_any (fun σ' G => σ' = lB d s l t (some (.str x)) (some (.int (w : Int))) (some (.int (a : Int))) (some (.str q.1)) (some (.str q.2.1)) (some (.str q.2.2)) none none ∧ G = G') ?_ ?_
    rotate_left
    · intro nx hnx
      refine ⟨_, rfl, _, _, rfl, rfl, _, rfl, ite2 (fun hc => ?_) (fun hc => hnx _ _ ⟨rfl, rfl⟩)⟩
      have w5 : w < 5 := by
        have : (w : Int) < 5 := of_decide_eq_true hc
        omega
      refine seq_any (fun σ' G => ∃ (T : Addr) (q' : Lt), σ' = lB d s l t (some (.str x)) (some (.int (w : Int))) (some (.int (a : Int))) (some (.str q.1)) (some (.str q.2.1)) (some (.str q.2.2)) (some (.ref T)) none ∧ SrcAt G d c ∧ Same (hid d c H) (hid d c G) ∧ SqT K (hid d c G) T (ltV q') ∧ Okx q'.1 ∧ Okx q'.2.1 ∧ Okx q'.2.2 ∧ q'.1 ≠ ("zzz" : Str)) ?_ ?_
      rotate_left
      · intro nx2 hnx2
        refine ⟨_, rfl, _, rfl, _, rfl, szl (by show 3 ≤ 1000; decide), fun T1 hT1 => ?_⟩
        obtain ⟨r1, s1, f1⟩ := new_hid (o := .tup [V.str x, V.str q.2.1, V.str q.2.2]) src1 hT1
        refine ⟨_, rfl, _, rfl, _, rfl, szl (by show 3 ≤ 1000; decide), fun T2 hT2 => ?_⟩
        obtain ⟨r2, s2, f2⟩ := new_hid (o := .tup [V.str q.1, V.str x, V.str q.2.2]) r1 hT2
        refine ⟨_, rfl, _, rfl, _, rfl, szl (by show 3 ≤ 1000; decide), fun T3 hT3 => ?_⟩
        obtain ⟨r3, s3, f3⟩ := new_hid (o := .tup [V.str q.1, V.str q.2.1, V.str x]) r2 hT3
        refine ⟨szl (by show 3 ≤ 1000; decide), fun p hp => ?_⟩
        obtain ⟨r4, s4, f4⟩ := new_hid (o := .lst [V.ref T1, V.ref T2, V.ref T3]) r3 hp
        refine ⟨_, rfl, _, _, rfl, rfl, p, [V.ref T1, V.ref T2, V.ref T3], (w : Int) - 2, ?_⟩
        have sA := sB.trans (s1.trans (s2.trans (s3.trans s4)))
        have g1 : SqT K _ T1 (ltV (x, q.2.1, q.2.2)) := SqT.of ((s2.trans (s3.trans s4)) _ _ f1)
        have g2 : SqT K _ T2 (ltV (q.1, x, q.2.2)) := SqT.of ((s3.trans s4) _ _ f2)
        have g3 : SqT K _ T3 (ltV (q.1, q.2.1, x)) := SqT.of (s4 _ _ f3)
        have cases_w : w = 0 ∨ w = 2 ∨ w = 3 ∨ w = 4 := by omega
        rcases cases_w with rfl | rfl | rfl | rfl
        · exact ⟨.ref T2, rfl, rfl, SqL.of upd_same, rfl, hnx2 _ _ ⟨T2, _, rfl, r4, sA, g2, oq1, ox, oq3, nzq⟩⟩
        · exact ⟨.ref T1, rfl, rfl, SqL.of upd_same, rfl, hnx2 _ _ ⟨T1, _, rfl, r4, sA, g1, ox, oq2, oq3, nzx⟩⟩
        · exact ⟨.ref T2, rfl, rfl, SqL.of upd_same, rfl, hnx2 _ _ ⟨T2, _, rfl, r4, sA, g2, oq1, ox, oq3, nzq⟩⟩
        · exact ⟨.ref T3, rfl, rfl, SqL.of upd_same, rfl, hnx2 _ _ ⟨T3, _, rfl, r4, sA, g3, oq1, oq2, ox, nzq⟩⟩
      rintro σ G ⟨T, q', rfl, r0, s0, hT', o1, o2, o3, nz'⟩
      have z1 := s0.trans hid_sub
      obtain ⟨as2, el2, hA2⟩ := hl.same z1
      have la2 : as2.length = ls.length := by rw [hA2.1, List.length_map]
      refine ⟨_, rfl, _, rfl, _, rfl, _, rfl, l, _, rfl, SqL.of el2, fun p1 hp1 => ?_⟩
      rw [cutV_take, ← List.map_take]
      obtain ⟨r1, s1, f1⟩ := new_hid (o := .lst ((as2.take a).map V.ref)) r0 hp1
      refine ⟨_, rfl, szl (by show 1 ≤ 1000; decide), fun p2 hp2 => ?_⟩
      obtain ⟨r2, s2, f2⟩ := new_hid (o := .lst [V.ref T]) r1 hp2
      refine ⟨p1, p2, _, _, rfl, rfl, hid_sub _ _ (s2 _ _ f1), upd_same, szl (by rw [List.length_map, List.length_take]; show min a as2.length + 1 ≤ 1000; omega), fun p3 hp3 => ?_⟩
      obtain ⟨r3, s3, f3⟩ := new_hid (o := .lst ((as2.take a).map V.ref ++ [V.ref T])) r2 hp3
      have s123 := s1.trans (s2.trans s3)
      refine ⟨_, rfl, _, rfl, _, _, rfl, rfl, _, rfl, ?_⟩
      refine slice_fromL (xs := as2.map V.ref) (SqL.of (((s0.trans s123).trans hid_sub) _ _ ?_)) fun p4 hp4 => ?_
      · obtain ⟨as3, el3, hA3⟩ := hl
        have e3 := (s0.trans hid_sub) _ _ el3
        rw [el2] at e3
        rw [el3]
        exact e3.symm ▸ rfl
      rw [show ((a : Int) + 1) = ((a + 1 : Nat) : Int) by omega, cutV_drop, ← List.map_drop]
      obtain ⟨r4, s4, f4⟩ := new_hid (o := .lst ((as2.drop (a + 1)).map V.ref)) r3 hp4
      refine ⟨p3, p4, _, _, rfl, rfl, hid_sub _ _ (s4 _ _ f3), upd_same, szl (by simp only [List.length_append, List.length_map, List.length_take, List.length_drop, List.length_singleton]; omega), fun p5 hp5 => ?_⟩
      obtain ⟨r5, s5, f5⟩ := new_hid (o := .lst ((as2.take a).map V.ref ++ [V.ref T] ++ (as2.drop (a + 1)).map V.ref)) r4 hp5
      have s15 := s123.trans (s4.trans s5)
      have sA := s0.trans s15
      obtain ⟨as4, el4, hA4⟩ := hl.same sA
      have e42 : as4 = as2 := by
        have z := hid_sub _ _ el4
        have z2 := (s15.trans hid_sub)
        obtain ⟨as5, el5, hA5⟩ := hl
        have y1 := (sA.trans hid_sub) _ _ el5
        have y2 := (s0.trans hid_sub) _ _ el5
        rw [z] at y1
        rw [el2] at y2
        have w1 : as4.map V.ref = as5.map V.ref := by injection y1 with y; injection y
        have w2 : as2.map V.ref = as5.map V.ref := by injection y2 with y; injection y
        exact map_inj' (fun h => V.ref.inj h) (w1.trans w2.symm)
      subst e42
      refine ⟨_, rfl, szl (by show 3 ≤ 1000; decide), fin (ls' := ls.take a ++ [q'] ++ ls.drop (a + 1)) r5 sA (sA _ _ hs) ⟨as4.take a ++ [T] ++ as4.drop (a + 1), by rw [f5, List.map_append, List.map_append]; rfl, ?_⟩ (ht.same sA) ⟨ok.ox, fun p hp => ?_, ok.ot, by omega, ?_, by omega, ?_, ok.nx, fun p hp => ?_⟩⟩
      · have e : (ls.take a ++ [q'] ++ ls.drop (a + 1)).map ltV = (ls.map ltV).take a ++ [ltV q'] ++ (ls.map ltV).drop (a + 1) := by
          rw [List.map_append, List.map_append, List.map_take, List.map_drop]
          rfl
        rw [e]
        exact ((hA4.take a).app (AllT.one (sqt_same s15 hT'))).app (hA4.drop (a + 1))
      · rcases List.mem_append.mp hp with z | z
        · rcases List.mem_append.mp z with z | z
          · exact ok.ol p (List.mem_of_mem_take z)
          · rw [List.mem_singleton.mp z]
            exact ⟨o1, o2, o3⟩
        · exact ok.ol p (List.mem_of_mem_drop z)
      · simp only [List.length_append, List.length_take, List.length_drop, List.length_singleton]
        omega
      · simp only [List.length_append, List.length_take, List.length_drop, List.length_singleton]
        omega
      · rcases List.mem_append.mp hp with z | z
        · rcases List.mem_append.mp z with z | z
          · exact ok.nl p (List.mem_of_mem_take z)
          · rw [List.mem_singleton.mp z]
            exact nz'
        · exact ok.nl p (List.mem_of_mem_drop z)
    rintro σ G ⟨rfl, rfl⟩
    -- a letter more
    refine seq_any (fun σ' G' => σ' = lB d s l t (some (.str x)) (some (.int (w : Int))) (some (.int (a : Int))) (some (.str q.1)) (some (.str q.2.1)) (some (.str q.2.2)) none none ∧ G' = G) ?_ ?_
    rotate_left
    · intro nx hnx
      refine ⟨_, rfl, rfl, _, rfl, ite2 (fun hc => ?_) (fun hc => hnx _ _ ⟨rfl, rfl⟩)⟩
      refine ⟨_, rfl, _, rfl, _, rfl, _, rfl, _, rfl, szl (by show 3 ≤ 1000; decide), fun T hT' => ?_⟩
      obtain ⟨r1, s1, f1⟩ := new_hid (o := .tup [V.str q.1, V.str q.2.2, V.str q.2.1]) src1 hT'
      refine ⟨szl (by show 1 ≤ 1000; decide), fun p hp => ?_⟩
      obtain ⟨r2, s2, f2⟩ := new_hid (o := .lst [V.ref T]) r1 hp
      obtain ⟨as2, el2, hA2⟩ := el_h.same (s1.trans s2)
      have la2 : as2.length = ls.length := by rw [hA2.1, List.length_map]
      refine ⟨l, p, _, _, rfl, rfl, hid_sub _ _ el2, upd_same, szl (by rw [List.length_map]; show as2.length + 1 ≤ 1000; omega), fun r hr => ?_⟩
      obtain ⟨r3, s3, f3⟩ := new_hid (o := .lst (as2.map V.ref ++ [V.ref T])) r2 hr
      have sA := s1.trans (s2.trans s3)
      refine ⟨_, rfl, szl (by show 3 ≤ 1000; decide), fin (ls' := ls ++ [(q.1, q.2.2, q.2.1)]) r3 (sB.trans sA) (sA _ _ es_h) ⟨as2 ++ [T], by rw [f3, List.map_append]; rfl, ?_⟩ (et_h.same sA) ⟨ok.ox, fun p hp => ?_, ok.ot, by omega, by rw [List.length_append]; show ls.length + 1 ≤ _; omega, by omega, by rw [List.length_append]; omega, ok.nx, fun p hp => ?_⟩⟩
      · rw [List.map_append]
        exact (hA2.same s3).snoc (SqT.of ((s2.trans s3) _ _ f1))
      · rcases List.mem_append.mp hp with z | z
        · exact ok.ol p z
        · rw [List.mem_singleton.mp z]
          exact ⟨oq1, oq3, oq2⟩
      · rcases List.mem_append.mp hp with z | z
        · exact ok.nl p z
        · rw [List.mem_singleton.mp z]
          exact nzq
    rintro σ G' ⟨rfl, rfl⟩
    -- a total more
    refine seq_any (fun σ' G => ∃ y, σ' = lB d s l t (some (.str x)) (some (.int (w : Int))) (some (.int (a : Int))) (some (.str q.1)) (some (.str q.2.1)) (some (.str q.2.2)) none (some (.str y)) ∧ y ∈ words4 ∧ SrcAt G d c ∧ Same (hid d c H) (hid d c G)) ?_ ?_
    rotate_left
    · intro nx hnx
      refine ⟨szl (by show 4 ≤ 1000; decide), fun p hp => ?_⟩
      obtain ⟨r1, s1, e1⟩ := new_hid (o := .lst (words4.map V.str)) src1 hp
      refine ⟨_, rfl, d, c, 4, rfl, r1, by decide, by decide, fun r G2 r0 r1' src2 keep2 => ?_⟩
      obtain ⟨j, rfl⟩ : ∃ j : Nat, r = (j : Int) := ⟨r.toNat, by omega⟩
      have eh := hid_pick keep2
      have lj : j < words4.length := by show j < 4; omega
      refine ⟨p, _, _, _, rfl, rfl, SqL.of (xs := words4.map V.str) (hid_sub _ _ (by rw [eh]; exact e1)), str_ix lj, ?_⟩
      exact hnx _ _ ⟨words4[j], rfl, List.getElem_mem _, src2, by rw [eh]; exact sB.trans s1⟩
    rintro σ G ⟨y, rfl, hy, r0, s0⟩
    have oy := words_ok y hy
    refine ⟨_, rfl, _, rfl, _, rfl, _, rfl, rfl, _, rfl, ifx rfl rfl fun z hz => ?_⟩
    have oz : Okx z := by
      rcases hz with rfl | rfl
      · exact oq1
      · exact ox
    refine ⟨_, rfl, szl (by show 2 ≤ 1000; decide), fun T hT' => ?_⟩
    obtain ⟨r1, s1, f1⟩ := new_hid (o := .tup [V.str z, V.str y]) r0 hT'
    refine ⟨szl (by show 1 ≤ 1000; decide), fun p hp => ?_⟩
    obtain ⟨r2, s2, f2⟩ := new_hid (o := .lst [V.ref T]) r1 hp
    obtain ⟨bs2, et2, hB2⟩ := ht.same (s0.trans (s1.trans s2))
    have lb2 : bs2.length = ts.length := by rw [hB2.1, List.length_map]
    refine ⟨t, p, _, _, rfl, rfl, hid_sub _ _ et2, upd_same, szl (by rw [List.length_map]; show bs2.length + 1 ≤ 1000; omega), fun r hr => ?_⟩
    obtain ⟨r3, s3, f3⟩ := new_hid (o := .lst (bs2.map V.ref ++ [V.ref T])) r2 hr
    have sA := s0.trans (s1.trans (s2.trans s3))
    refine ⟨szl (by show 3 ≤ 1000; decide), fin (ts' := ts ++ [(z, y)]) r3 sA (sA _ _ hs) (hl.same sA) ⟨bs2 ++ [T], by rw [f3, List.map_append]; rfl, ?_⟩ ⟨ok.ox, ok.ol, fun p hp => ?_, by omega, by omega, by rw [List.length_append]; show ts.length + 1 ≤ _; omega, l1, ok.nx, ok.nl⟩⟩
    · rw [List.map_append]
      exact (hB2.same s3).snoc (SqT.of ((s2.trans s3) _ _ f1))
    · rcases List.mem_append.mp hp with u | u
      · exact ok.ot p u
      · rw [List.mem_singleton.mp u]
        exact ⟨oz, oy⟩
end
end K22

namespace K22
open PySem PySem.Spec PyProof.Rows L2 Ow Xv
/-! ### defs that are called where nothing is being shown -/
structure FnG (P : Program) (w : World) (K : PySem.W.Frag) (mg : Str → Option Value) (base : Heap) (k : Nat) (f : Addr) (fd : FuncData) (ps : List Str) (sp : Sp) : Prop where
  len : ∀ vs H Q E, sp vs H Q E → vs.length = ps.length
  run : ∀ (A : Around) (outer : List Env) (s : Shared) (H : Hp) (args : Args) (us : List Value) (vs : List V) (Q : VK) (E : XK), A.guards = some [] → Room k A → Env0 P w K mg base A outer s H → BindsTo s fd args (ps.zip us) → Vals vs us → sp vs H Q E →
    codeAny (model P w) A (.call (.ref f) args) (CR CX0 outer P w H s Q E) s
section
variable {P : Program} {w : World} {K : PySem.W.Frag} {mg : Str → Option Value} {base : Heap}
theorem okG {x qual : Str} {params : Arguments} {body : List Stmt} {scope : Scope} {dvs : List V} {kws : List (Str × V)} {f : Addr} {fd : FuncData} {N ps : List Str} {k : Nat} {sp : Sp} (F : FunD K x qual params body scope dvs kws f fd) (S : FnScope N ps scope) (len : ∀ vs H Q E, sp vs H Q E → vs.length = ps.length)
    (hb : ∀ (cdv : Value) (A : Around) (outer : List Env) (s : Shared) (H : Hp) (vs : List V) (Q : VK) (E : XK), A.guards = some [] → Room k (A.deeper (envOfC qual scope s.heap.objs.size f cdv)) → sp vs H Q E →
      ∃ t, PSs (cxOf CX0 P w K mg base N qual scope f cdv A outer s H E).nox body t ∧ t { nx := fun _ H' => Q .non H', rt := Q } (start N vs) H) : FnG P w K mg base (k + 1) f fd ps sp := by
  obtain ⟨oc, od, dV, kV, doc, pm, an, cdv, ct, osl, rfl, lk, hcd, _, _⟩ := F.ex
  refine ⟨len, fun A outer s H args us vs Q E hg hr e0 bt r hsp => ?_⟩
  have KX : K.In s.heap := e0.mod.kin.keeps fun b o e => (e0.bs b o e).1
  have kinds : ∀ y ∈ ps.zip us, scope.names.lookup y.1 = some .local ∨ (scope.names.lookup y.1 = some .cell ∧ ((cellsFrom (s.heap.objs.size + 1) scope.names []).lookup y.1).isSome = true) := fun y hy =>
    (S.par y.1 (List.of_mem_zip (show (y.1, y.2) ∈ ps.zip us from hy)).1).elim .inl fun q => .inr ⟨q, PySem.W.cellsFrom_some _ _ _ (.inl q)⟩
  refine codeAny_call_function hr.depth (KX _ _ lk) rfl S.co S.gen rfl (PySem.W.codeRec_of KX hcd) (bt _ _ _ _ (wpAny_newFunctionEnv_cells S.kind kinds fun env he s1 z => ?_))
  subst he
  refine ⟨(e0.mod.nolimit.keeps fun b o e => (e0.bs b o e).1).keeps z.toInCall.keep, codeAny_func ?_⟩
  obtain ⟨t, ht, hq⟩ := hb cdv A outer s H vs Q E hg (hr.deeper _) hsp
  refine wpAny_mono (ht.nox.run [] s1 (start N vs) H _ (inv_start S hr.hd e0 (len _ _ _ _ hsp) r z) hq) (fun fl s' hs => ?_) fun _ _ hs => hs
  cases fl with
  | ret u => exact let ⟨v, _, H', J, rv, q⟩ := hs; ⟨v, H', J.os, J.bare, J.base, J.hok, rv, q⟩
  | next => exact let ⟨_, H', J, q⟩ := hs; ⟨V.non, H', J.os, J.bare, J.base, J.hok, rfl, q⟩
  | brk => exact let ⟨_, _, _, q⟩ := hs; False.elim q
  | cont => exact let ⟨_, _, _, q⟩ := hs; False.elim q
end

theorem pe_callG {X : Cx} {k : Nat} {f : Addr} {fd : FuncData} {ps : List Str} {sp : Sp} {x : Str} {p pos : Pos} {e : Expr} {es : List Expr} {t : TA} (F : FnG X.prog X.w X.K X.mg X.base k f fd ps sp) (hgd : X.A.guards = some []) (hr : Room k X.A) (hg : Gl X x) (hm : X.mg x = some (.ref f)) (hk : PySem.W.keepIn X.K (.ref f) = true)
    (hb : Binds X.K fd ps []) (ha : PA X (e :: es) t) (hdb : (x == ("__debug__" : Str)) = false := by decide) (he : starEach (e :: es) X.env = (false, eval e X.env) :: starEach es X.env := by rfl) (hpl : (backTo pos (starEach es X.env)).any (·.1) = false := by rfl) :
    PE X (.Call (.Name x p) (e :: es) [] pos) (fun σ H Q => t σ H fun vs H1 => sp vs H1 Q E0) := by
  refine ⟨fun pins s σ H Q I h => wpAny_Call_Name_kw (ld_glob I hg hm ?_ hdb)⟩
  refine PySem.W.callWith_K (h₀ := X.base) I.ok.mod.kin hk (thn (ha.run pos pins s σ H _ I h) fun us s1 ⟨vs, H1, I1, r, q⟩ => ⟨I1.kIn, ?_⟩) he hpl
  have ln : us.length = ps.length := by rw [← r.length]; exact F.len _ _ _ _ q
  have bt := hb s1 us I1.kIn (by rw [List.append_nil]; exact ln)
  rw [List.append_nil] at bt
  refine wpAny_call (codeAny_mono (F.run X.A X.stack s1 H1 ⟨us, []⟩ us vs Q E0 hgd hr I1.env0 bt r q) fun res s' z => ?_)
  cases res with
  | error er => exact False.elim z
  | ok fl =>
    cases fl with
    | ret u => exact I1.after z
    | next => exact False.elim z
    | brk => exact False.elim z
    | cont => exact False.elim z

/-! ### strange names refused -/
abbrev NRf : List Str := ["_law_built", "_law_name", "_law_way", "error"]
theorem scRf : FnScope NRf ["_law_built", "_law_name"] (defScope sLawRefused) := ⟨rfl, rfl, rfl, by decide +kernel, rfl, by decide +kernel, by decide +kernel⟩
def tbRf (K : PySem.W.Frag) (W : WX) : TS := tSeq (tDrop (tIf (tTest (tOp rEq (tVar 2) (tC (.int 0)))) (tMethE (CFrame K) "ends" (spEn K) (WE W) (tVar 0) (tCons (tVar 1) tNil)) (tMethE (CFrame K) "totals_from" (spTF K) (WE W) (tVar 0) (tCons (tVar 1) tNil)))) (tRet (tC (.bl false)))
def tsRf (K : PySem.W.Frag) (a : Addr) (cls : Value) (d : Option Addr) : TS := tIfS (tTest (tOp rNe (tCB (rReprA K) (tCons (tXf a cls d (CUnknownName K) "name" (tVar 3)) tNil)) (tCB (rReprA K) (tCons (tVar 1) tNil)))) (tRet (tC (.bl false))) tNext
def spRf (K : PySem.W.Frag) : Sp := fun vs H Q _ => ∃ (x : Addr) (v : V) (d : PyData) (xs : List Str) (ls : List Lt) (ts : List Tt), vs = [.ref x, v] ∧ FrmAt K H x xs ls ts ∧ Good xs ls ts ∧ Any K H v d ∧ isTx v xs = false ∧ isTx v (ls.map (·.1)) = false ∧ d.shown.length ≤ sizeLine ∧ ∀ H', Same H H' → Q (.bl true) H'
section
variable {P : Program} {w : World} {K : PySem.W.Frag} {mg : Str → Option Value} {base : Heap} {f : Addr} {fd : FuncData}
theorem ok_rf (F : FnP K "_law_refused" sLawRefused f fd) (Y : Fx w K mg) : FnG P w K mg base 4 f fd ["_law_built", "_law_name"] (spRf K) := by
  obtain ⟨d1, F1⟩ := Y.dFrame_Ends
  obtain ⟨d2, F2⟩ := Y.dFrame_TotalsFrom
  have b1 := FunD.bindsN (ps := ["self", "name"]) F1 fun _ _ _ _ _ _ us hl => match us, hl with | [_, _], _ => rfl
  have b2 := FunD.bindsN (ps := ["self", "sort"]) F2 fun _ _ _ _ _ _ us hl => match us, hl with | [_, _], _ => rfl
  have G1 : FnOk P w K mg base (L2.CX P w) 3 _ d1 ["self", "name"] (spEn K) := ok_en F1 Y
  have G2 : FnOk P w K mg base (L2.CX P w) 3 _ d2 ["self", "sort"] (spTF K) := ok_tf F2 Y
  refine okG F scRf (fun vs H Q E h => ?_) (fun cdv A outer s H vs Q E hgd hr h => ?_)
  · obtain ⟨x, v, d, xs, ls, ts, rfl, _⟩ := h
    rfl
  · have nd := scRf.nd
    have hu66 : (A.deeper (envOfC "_law_refused" (defScope sLawRefused) s.heap.objs.size f cdv)).units + 66 < cLine := by have := hr.un; omega
    refine ⟨_, pss_cons (ps_for PassesOwn.never rfl (pi_tup (pe_tup (pa_cons pe_int (pa_cons pe_int pa_nil)))) (pg_name (i := 2) nd rfl (Or.inl rfl))
        (pss_one (ps_try_as (i := 3) (tb := tbRf K) (ts := tsRf K) (Wout := fun _ _ _ _ => False) rfl rfl nd rfl rfl ⟨rfl, by decide, Or.inl Y.gUnknownName⟩ takes0
          (fun W pn xe tk _ => pss_cons (ps_expr (pe_ifExp (pt_cmpR op_eq (pv 2) pe_int (nomark _)) (pe_methE (pv 0) Y.cFrame Y.mFrame_Ends G1 hr b1 (fun σ => passAt tk σ) (pa_cons (pv 1) pa_nil)) (pe_methE (pv 0) Y.cFrame Y.mFrame_TotalsFrom G2 hr b2 (fun σ => passAt tk σ) (pa_cons (pv 1) pa_nil)))) (pss_one (ps_ret pe_bl)))
          (fun a oe cls d pn hz hf => pss_one (ps_if (pt_cmpR op_ne (pe_callB (call_reprA hgd hu66) (by rfl) Y.bRepr (by decide +kernel) (pa_cons (pe_xf Y.xUN.xf Y.xUN.no hz hf (pv 3)) pa_nil)) (pe_callB (call_reprA hgd hu66) (by rfl) Y.bRepr (by decide +kernel) (pa_cons (pv 1) pa_nil)) (nomark _)) (pss_one (ps_ret pe_bl)) pss_nil)))))
      (pss_one (ps_ret pe_bl)), ?_⟩
    obtain ⟨x, v, d, xs, ls, ts, rfl, hF, gd, hv, n1, n2, hs, k⟩ := h
    obtain ⟨dx, sa, la, ta, ma, hx, _⟩ := id hF
    refine seq_any (fun σ' G => Same H G) ?_ ?_
    · intro σ G sm
      exact k G sm
    intro nx hnx
    refine ⟨szl (by show 2 ≤ 1000; decide), fun T hT => ⟨T, rfl, ⟨_, SqT.of upd_same⟩, ?_⟩⟩
    have sT := same_upd (o := .tup [V.int 0, V.int 1]) hT
    refine for_tup (g := gName 2) (tb := fun D σ H => tbRf K (wAs K (.ref (CUnknownName K)) 3 (tsRf K) (fun _ _ _ _ => False) D) D σ H) (K := K) (a := T) (xs := [V.int 0, V.int 1]) (fun i σ G => (∃ v2, σ = [some (.ref x), some v, v2, none]) ∧ Same (upd H T (.tup [V.int 0, V.int 1])) G) ⟨⟨none, rfl⟩, Same.refl _⟩ (fun i σ G _ z => sqt_same z.2 (SqT.of upd_same)) ?_ ?_
    · rintro i y σ G hi ⟨⟨v2, rfl⟩, sm⟩
      have s0 := sT.trans sm
      obtain ⟨n, rfl⟩ : ∃ n : Int, y = .int n := by
        match i, hi with
        | 0, hi => cases hi; exact ⟨0, rfl⟩
        | 1, hi => cases hi; exact ⟨1, rfl⟩
        | (i + 2), hi => cases hi
      dsimp only [gName]
      have key : ∀ (D : Ends) (dx : Addr) (H' : Hp), (∀ v2 H', Same (upd H T (.tup [V.int 0, V.int 1])) H' → D.nx [some (.ref x), some v, v2, none] H') → Same G H' → H' dx = some (.xd [("name", v)]) →
          wAs K (.ref (CUnknownName K)) 3 (tsRf K) (fun _ _ _ _ => False) D (.ref (CUnknownName K)) (some dx) [some (.ref x), some v, some (.int n), none] H' := by
        intro D dx H' hD s1 e
        refine ⟨true, Y.exm 2 2, fun _ a0 _ => ?_, fun q => Bool.noConfusion q⟩
        have hv1 := hv.same (s0.trans s1)
        refine ⟨_, rfl, rfl, rfl, dx, _, v, rfl, e, by simp [List.lookup], v, d, rfl, hv1, hs, ?_⟩
        refine ⟨_, rfl, v, d, rfl, hv1, hs, rfl, _, rfl, ?_⟩
        rw [decide_eq_true rfl]
        exact iteF (hD _ H' (sm.trans s1))
      refine ⟨_, rfl, rfl, _, rfl, ite2 (fun _ => ?_) (fun _ => ?_)⟩
      · refine ⟨_, rfl, x, dx, _, rfl, s0 _ _ hx, rfl, _, rfl, x, v, d, xs, ls, ts, rfl, hF.same s0, gd.nd, hv.same s0, fun _ dd H' s1 _ e => ?_, fun q hq ev => ?_⟩
        · exact key _ dd H' (fun v2 H2 s2 => ⟨⟨v2, rfl⟩, s2⟩) s1 e
        · exfalso
          rw [ev, isTx_str, decide_eq_true (List.mem_map.mpr ⟨q, hq, rfl⟩)] at n2
          cases n2
      · refine ⟨_, rfl, x, dx, _, rfl, s0 _ _ hx, rfl, _, rfl, x, v, d, xs, ls, ts, rfl, hF.same s0, gd, hv.same s0, fun _ dd H' s1 _ e => ?_, fun z hz ev => ?_⟩
        · exact key _ dd H' (fun v2 H2 s2 => ⟨⟨v2, rfl⟩, s2⟩) s1 e
        · exfalso
          rw [ev, isTx_str, decide_eq_true hz] at n1
          cases n1
    · rintro σ G ⟨⟨v2, rfl⟩, sm⟩
      exact hnx _ _ (sT.trans sm)
end
end K22

namespace K22
open PySem PySem.Spec PyProof.Rows L2 Ow Xv
/-! ### whether a frame tells what it was made of -/
abbrev NRt : List Str := ["_law_built", "_law_sorts", "_law_letters", "_law_totals", "_law_name", "_law_one", "_law_other", "_law_sort", "_law_due_here", "_law_word", "_law_ends", "_law_odd"]
theorem scRt : FnScope NRt ["_law_built", "_law_sorts", "_law_letters", "_law_totals"] (defScope sLawRight) := ⟨rfl, rfl, rfl, by decide +kernel, rfl, by decide +kernel, by decide +kernel⟩
abbrev lR (x s l t : Addr) (v4 v5 v6 v7 v8 v9 v10 v11 : Option V) : L2.St := [some (.ref x), some (.ref s), some (.ref l), some (.ref t), v4, v5, v6, v7, v8, v9, v10, v11]
/-- three lists as data -/
def triD (xs : List Str) (ls : List Lt) (ts : List Tt) : PyData := .list [.list (xs.map PyData.str), .list ((ls.map ltS).map rowD), .list ((ts.map ttS).map rowD)]
theorem tri_lay {xs : List Str} {ls : List Lt} {ts : List Tt} (h1 : ∀ x ∈ xs, Okx x) (h2 : ∀ q ∈ ls, Okx q.1 ∧ Okx q.2.1 ∧ Okx q.2.2) (h3 : ∀ q ∈ ts, Okx q.1 ∧ Okx q.2) : (triD xs ls ts).canLay0 = true := by
  have a := lay_okx h1
  have b := lay_rows (okr_lt h2)
  have c := lay_rows (okr_tt h3)
  simp only [triD, PyData.canLay0, PyData.canLayAll0, a, b, c, Bool.and_self]
theorem tri_dep (xs : List Str) (ls : List Lt) (ts : List Tt) : (triD xs ls ts).depth ≤ 3 := by
  have a := dep_strs xs
  have b := dep_rows (ls.map ltS)
  have c := dep_rows (ts.map ttS)
  simp only [triD, PyData.depth, PyData.depthAll, a]
  omega
theorem tri_dp {K : PySem.W.Frag} {H : Hp} {L s l t : Addr} {xs : List Str} {ls : List Lt} {ts : List Tt} (hL : SqL K H L [.ref s, .ref l, .ref t]) (hs : SqL K H s (xs.map V.str)) (hl : TupsAt K H l (ls.map ltV)) (ht : TupsAt K H t (ts.map ttV)) : Dp K H (.ref L) (triD xs ls ts) := by
  obtain ⟨as, q, la, g⟩ := hl
  obtain ⟨bs, q2, lb, g2⟩ := ht
  have h1 : AllT K H as (ls.map ltV) := ⟨la, g⟩
  have h2 : AllT K H bs (ts.map ttV) := ⟨lb, g2⟩
  rw [rows_lt] at h1
  rw [rows_tt] at h2
  exact .lst hL (.cons (.lst hs (Xv.dpa_str xs)) (.cons (.lst q (dpa_rows h1)) (.cons (.lst q2 (dpa_rows h2)) .nil)))
theorem nd_eq {ls : List Lt} (nd : (ls.map (·.1)).Nodup) {q p : Lt} (hq : q ∈ ls) (hp : p ∈ ls) (e : q.1 = p.1) : q = p := by
  rw [← find_nd nd hq, ← find_nd nd hp, e]
theorem Good.wd {xs : List Str} {ls : List Lt} {ts : List Tt} (g : Good xs ls ts) : ∀ t ∈ ts, t.2 = ("on" : Str) ∨ t.2 = ("back" : Str) := fun t ht => by
  obtain ⟨i, li, e⟩ := List.getElem_of_mem ht
  have z := firstL_none g.parts.2.2.2.2.2.1 i t (by rw [List.getElem?_eq_getElem li, e])
  by_cases c : t.2 = ("on" : Str)
  · exact .inl c
  · by_cases c2 : t.2 = ("back" : Str)
    · exact .inr c2
    · rw [if_pos (.inl ⟨c, c2⟩)] at z
      cases z
theorem Good.isw {xs : List Str} {ls : List Lt} {ts : List Tt} (g : Good xs ls ts) : ∀ x ∈ xs ++ ls.map (·.1), isW x = true := fun x hx => by
  obtain ⟨i, li, e⟩ := List.getElem_of_mem hx
  have z := firstL_none g.parts.1 i x (by rw [List.getElem?_eq_getElem li, e])
  cases c : isW x with
  | true => rfl
  | false =>
    rw [c, if_neg Bool.false_ne_true] at z
    cases z
theorem isTx_app {v : V} {xs ys : List Str} (h : isTx v (xs ++ ys) = false) : isTx v xs = false ∧ isTx v ys = false := by
  unfold isTx at h ⊢
  rw [List.any_append, Bool.or_eq_false_iff] at h
  exact h
/-- the strange names -/
def oddV (a b c : Addr) : List V := [.str "zzz", .non, .int 0, .bl true, .ref a, .ref b, .str "", .ref c]
structure Strange (K : PySem.W.Frag) (a b c : Addr) (ws : List Str) (v : V) (d : PyData) : Prop where
  any : ∀ H, SqL K H a ([("a" : Str)].map V.str) → SqT K H b ([("a" : Str)].map V.str) → H c = some (.dK []) → Any K H v d
  no : isTx v ws = false
  sh : d.shown.length ≤ sizeLine
theorem shown_s (x : Str) (h : okxB x = true) (l : (PyData.shown (.str x)).length ≤ 13) : (PyData.shown (.str x)).length ≤ sizeLine := Nat.le_trans l (by decide)
theorem odd_at {K : PySem.W.Frag} {a b c : Addr} {ws : List Str} (h1 : ("zzz" : Str) ∉ ws) (h2 : ("" : Str) ∉ ws) {i : Nat} {v : V} (h : (oddV a b c)[i]? = some v) : ∃ d, Strange K a b c ws v d := by
  have le : 13 ≤ sizeLine := by decide
  match i, h with
  | 0, h =>
    cases h
    refine ⟨.str "zzz", fun H _ _ _ => .str _, ?_, Nat.le_trans (show (PyData.shown (.str "zzz")).length ≤ 13 by decide +kernel) le⟩
    rw [isTx_str, decide_eq_false h1]
  | 1, h =>
    cases h
    exact ⟨.none, fun H _ _ _ => .non, isTx_no (by intro z q; cases q) ws, Nat.le_trans (show (PyData.shown .none).length ≤ 13 by decide +kernel) le⟩
  | 2, h =>
    cases h
    exact ⟨.int 0, fun H _ _ _ => .int _ (by decide +kernel), isTx_no (by intro z q; cases q) ws, Nat.le_trans (show (PyData.shown (.int 0)).length ≤ 13 by decide +kernel) le⟩
  | 3, h =>
    cases h
    exact ⟨.bool true, fun H _ _ _ => .bl _, isTx_no (by intro z q; cases q) ws, Nat.le_trans (show (PyData.shown (.bool true)).length ≤ 13 by decide +kernel) le⟩
  | 4, h =>
    cases h
    exact ⟨_, fun H z _ _ => .lst _ z, isTx_no (by intro z q; cases q) ws, Nat.le_trans (show (PyData.shown (.list ([("a" : Str)].map PyData.str))).length ≤ 13 by decide +kernel) le⟩
  | 5, h =>
    cases h
    exact ⟨_, fun H _ z _ => .tup _ z, isTx_no (by intro z q; cases q) ws, Nat.le_trans (show (PyData.shown (.tuple ([("a" : Str)].map PyData.str))).length ≤ 13 by decide +kernel) le⟩
  | 6, h =>
    cases h
    refine ⟨.str "", fun H _ _ _ => .str _, ?_, Nat.le_trans (show (PyData.shown (.str "")).length ≤ 13 by decide +kernel) le⟩
    rw [isTx_str, decide_eq_false h2]
  | 7, h =>
    cases h
    exact ⟨_, fun H _ _ z => .dic z, isTx_no (by intro z q; cases q) ws, Nat.le_trans (show (PyData.shown (.dict [])).length ≤ 13 by decide +kernel) le⟩
  | i + 8, h => cases h
def spRt (K : PySem.W.Frag) : Sp := fun vs H Q _ => ∃ (x s l t : Addr) (xs : List Str) (ls : List Lt) (ts : List Tt), vs = [.ref x, .ref s, .ref l, .ref t] ∧ FrmAt K H x xs ls ts ∧ Good xs ls ts ∧ SqL K H s (xs.map V.str) ∧ TupsAt K H l (ls.map ltV) ∧ TupsAt K H t (ts.map ttV) ∧ (∀ x ∈ xs, x ≠ ("zzz" : Str)) ∧ (∀ q ∈ ls, q.1 ≠ ("zzz" : Str)) ∧
  ∀ H', Same H H' → Q (.bl true) H'
section
variable {P : Program} {w : World} {K : PySem.W.Frag} {mg : Str → Option Value} {base : Heap} {f : Addr} {fd : FuncData}
theorem ok_rt (F : FnP K "_law_right" sLawRight f fd) (Y : Fx w K mg) : FnG P w K mg base 5 f fd ["_law_built", "_law_sorts", "_law_letters", "_law_totals"] (spRt K) := by
  obtain ⟨dS, FS⟩ := Y.dFrame_Sorts
  obtain ⟨dL, FL⟩ := Y.dFrame_Letters
  obtain ⟨dT, FT⟩ := Y.dFrame_Totals
  obtain ⟨dE, FE⟩ := Y.dFrame_Ends
  obtain ⟨dHS, FHS⟩ := Y.dFrame_HasSort
  obtain ⟨dHL, FHL⟩ := Y.dFrame_HasLetter
  obtain ⟨dTF, FTF⟩ := Y.dFrame_TotalsFrom
  obtain ⟨dRf, FRf⟩ := Y.dLawRefused
  have bS := FunD.bindsN (ps := ["self"]) FS fun _ _ _ _ _ _ us hl => match us, hl with | [_], _ => rfl
  have bL := FunD.bindsN (ps := ["self"]) FL fun _ _ _ _ _ _ us hl => match us, hl with | [_], _ => rfl
  have bT := FunD.bindsN (ps := ["self"]) FT fun _ _ _ _ _ _ us hl => match us, hl with | [_], _ => rfl
  have bE := FunD.bindsN (ps := ["self", "name"]) FE fun _ _ _ _ _ _ us hl => match us, hl with | [_, _], _ => rfl
  have bHS := FunD.bindsN (ps := ["self", "value"]) FHS fun _ _ _ _ _ _ us hl => match us, hl with | [_, _], _ => rfl
  have bHL := FunD.bindsN (ps := ["self", "value"]) FHL fun _ _ _ _ _ _ us hl => match us, hl with | [_, _], _ => rfl
  have bTF := FunD.bindsN (ps := ["self", "sort"]) FTF fun _ _ _ _ _ _ us hl => match us, hl with | [_, _], _ => rfl
  have bRf := FunD.bindsN (ps := ["_law_built", "_law_name"]) FRf fun _ _ _ _ _ _ us hl => match us, hl with | [_, _], _ => rfl
  have GS : FnOk P w K mg base CX0 1 _ dS ["self"] (spMs K) := ok_ms FS Y
  have GL : FnOk P w K mg base CX0 1 _ dL ["self"] (spMl K) := ok_ml FL Y
  have GT : FnOk P w K mg base CX0 1 _ dT ["self"] (spMt K) := ok_mt FT Y
  have GE : FnOk P w K mg base (L2.CX P w) 3 _ dE ["self", "name"] (spEn K) := ok_en FE Y
  have GHS : FnOk P w K mg base CX0 1 _ dHS ["self", "value"] (spHS K) := ok_hs FHS Y
  have GHL : FnOk P w K mg base CX0 1 _ dHL ["self", "value"] (spHL K) := ok_hl FHL Y
  have GTF : FnOk P w K mg base (L2.CX P w) 3 _ dTF ["self", "sort"] (spTF K) := ok_tf FTF Y
  have GRf : FnG P w K mg base 4 _ dRf ["_law_built", "_law_name"] (spRf K) := ok_rf FRf Y
  refine okG F scRt (fun vs H Q E h => ?_) (fun cdv A outer s H vs Q E hgd hr h => ?_)
  · obtain ⟨x, s, l, t, xs, ls, ts, rfl, _⟩ := h
    rfl
  · have nd := scRt.nd
    have hu := hu_of hr
    have hu64 := hu64_of hr
    have B := Y.bl
    have hr1 : Room 1 _ := hr.mono (by decide)
    have hr3 : Room 3 _ := hr.mono (by decide)
    refine ⟨_, pss_cons (ps_if (pt_cmpR (op_neD hu64) (pe_lst (pa_cons (pe_meth0 (pv 0) Y.cFrame Y.mFrame_Sorts GS hr1 bS .nil pass0) (pa_cons (pe_meth0 (pv 0) Y.cFrame Y.mFrame_Letters GL hr1 bL .nil pass0) (pa_cons (pe_meth0 (pv 0) Y.cFrame Y.mFrame_Totals GT hr1 bT .nil pass0) pa_nil)))) (pe_lst (pa_cons (pv 1) (pa_cons (pv 2) (pa_cons (pv 3) pa_nil)))) (by rfl)) (pss_one (ps_ret pe_bl)) pss_nil)
      (pss_cons (ps_for PassesOwn.never rfl (pi_list (pv 2)) (pg_tup rfl (pgs_cons (pg_name (i := 4) nd rfl (Or.inl rfl)) (pgs_cons (pg_name (i := 5) nd rfl (Or.inl rfl)) (pgs_cons (pg_name (i := 6) nd rfl (Or.inl rfl)) pgs_nil))))
        (pss_one (ps_if (pw_or (pt_cmpR (op_neD hu64) (pe_meth (pv 0) Y.cFrame Y.mFrame_Ends GE hr3 bE .nil passX (pa_cons (pv 4) pa_nil)) (pe_tup (pa_cons (pv 5) (pa_cons (pv 6) pa_nil))) (by rfl)) (pw_or1 (pt_cmpR op_notBl (pe_meth (pv 0) Y.cFrame Y.mFrame_HasLetter GHL hr1 bHL .nil pass0 (pa_cons (pv 4) pa_nil)) pe_bl (by rfl)))).pt (pss_one (ps_ret pe_bl)) pss_nil)))
      (pss_cons (ps_for PassesOwn.never rfl (pi_list (pv 1)) (pg_name (i := 7) nd rfl (Or.inl rfl))
        (pss_cons (ps_set (i := 8) nd rfl (Or.inl rfl) (pe_lst pa_nil))
        (pss_cons (ps_for PassesOwn.never rfl (pi_list (pv 3)) (pg_tup rfl (pgs_cons (pg_name (i := 4) nd rfl (Or.inl rfl)) (pgs_cons (pg_name (i := 9) nd rfl (Or.inl rfl)) pgs_nil)))
          (pss_cons (ps_set (i := 10) nd rfl (Or.inl rfl) (pe_meth (pv 0) Y.cFrame Y.mFrame_Ends GE hr3 bE .nil passX (pa_cons (pv 4) pa_nil)))
          (pss_one (ps_set (i := 8) nd rfl (Or.inl rfl) (pe_op op_cat (pv 8) (pe_op op_rep (pe_lst (pa_cons (pe_tup (pa_cons (pv 4) (pa_cons (pv 9) pa_nil))) pa_nil))
            (pe_callTy call_int1 (by rfl) B.int boot_int (pa_cons (pe_cmpR op_eq (pe_ix ix_tup (pv 10) (pe_callTy call_int1 (by rfl) B.int boot_int (pa_cons (pe_cmpR op_eq (pv 9) pe_str (nomark _)) pa_nil)) (fun _ _ => rfl)) (pv 7) (nomark _)) pa_nil))))))))
        (pss_one (ps_if (pw_or (pt_cmpR (op_neD hu64) (pe_meth (pv 0) Y.cFrame Y.mFrame_TotalsFrom GTF hr3 bTF .nil passX (pa_cons (pv 7) pa_nil)) (pv 8) (nomark _)) (pw_or1 (pt_cmpR op_notBl (pe_meth (pv 0) Y.cFrame Y.mFrame_HasSort GHS hr1 bHS .nil pass0 (pa_cons (pv 7) pa_nil)) pe_bl (by rfl)))).pt (pss_one (ps_ret pe_bl)) pss_nil)))))
      (pss_cons (ps_for PassesOwn.never rfl (pi_tup (pe_tup (pa_cons pe_str (pa_cons pe_non (pa_cons pe_int (pa_cons pe_bl (pa_cons (pe_lst (pa_cons pe_str pa_nil)) (pa_cons (pe_tup (pa_cons pe_str pa_nil)) (pa_cons pe_str (pa_cons pe_dnewK pa_nil)))))))))) (pg_name (i := 11) nd rfl (Or.inl rfl))
        (pss_one (ps_if (pw_or (pt_cmpR op_notBl (pe_meth (pv 0) Y.cFrame Y.mFrame_HasSort GHS hr1 bHS .nil pass0 (pa_cons (pv 11) pa_nil)) pe_bl (by rfl)) (pw_or (pt_cmpR op_notBl (pe_meth (pv 0) Y.cFrame Y.mFrame_HasLetter GHL hr1 bHL .nil pass0 (pa_cons (pv 11) pa_nil)) pe_bl (by rfl))
          (pw_or1 (pt_not (pt_val (pe_callG GRf hgd hr (by rfl) Y.gLawRefused FRf.kp bRf (pa_cons (pv 0) (pa_cons (pv 11) pa_nil)))))))).pt (pss_one (ps_ret pe_bl)) pss_nil)))
      (pss_one (ps_ret pe_bl))))), ?_⟩
    obtain ⟨x, s, l, t, xs, ls, ts, rfl, hF, gd, hs, hl, ht, nz1, nz2, k⟩ := h
    have fi := gd.fi
    obtain ⟨dx, sa, la0, ta, ma, hx, _⟩ := id hF
    obtain ⟨as, q, la, g⟩ := id hl
    rw [List.length_map] at la
    obtain ⟨bs, q2, lb, g2⟩ := id ht
    rw [List.length_map] at lb
    have n60 := fi.ll
    have t60 := fi.lt
    have x60 := fi.lx
    -- the lists
    refine seq_any (fun σ' G => σ' = lR x s l t none none none none none none none none ∧ Same H G) ?_ ?_
    rotate_left
    · intro nx hnx
      refine ⟨_, rfl, x, dx, _, rfl, hx, rfl, x, xs, ls, ts, rfl, hF, fun l1 H1 s1 hl1 e1 => ?_⟩
      refine ⟨_, rfl, x, dx, _, rfl, s1 _ _ hx, rfl, x, xs, ls, ts, rfl, hF.same s1, fun l2 as2 H2 s2 hl2 e2 hA2 => ?_⟩
      have s12 := s1.trans s2
      refine ⟨_, rfl, x, dx, _, rfl, s12 _ _ hx, rfl, x, xs, ls, ts, rfl, hF.same s12, fun l3 as3 H3 s3 hl3 e3 hA3 => ?_⟩
      refine ⟨szl (by show 3 ≤ 1000; decide), fun p hp => ?_⟩
      have s4 := same_upd (o := .lst [V.ref l1, V.ref l2, V.ref l3]) hp
      refine ⟨_, rfl, _, rfl, _, rfl, szl (by show 3 ≤ 1000; decide), fun p2 hp2 => ?_⟩
      have s5 := same_upd (o := .lst [V.ref s, V.ref l, V.ref t]) hp2
      have sA := s12.trans (s3.trans (s4.trans s5))
      have d1 : Dp K _ (.ref p) (triD xs ls ts) := tri_dp (SqL.of (s5 _ _ upd_same)) (SqL.of ((s2.trans (s3.trans (s4.trans s5))) _ _ e1)) ((hA2.same (s3.trans (s4.trans s5))).tups (SqL.of ((s3.trans (s4.trans s5)) _ _ e2))) ((hA3.same (s4.trans s5)).tups (SqL.of ((s4.trans s5) _ _ e3)))
      have d2 : Dp K _ (.ref p2) (triD xs ls ts) := tri_dp (SqL.of upd_same) (sA.seq hs) (hl.same sA) (ht.same sA)
      have ly := tri_lay fi.ox fi.ol fi.ot
      have sh : SeqAt.shaped (triD xs ls ts) = true := shp_of ly (by have := tri_dep xs ls ts; omega)
      refine ⟨_, _, d1, d2, sh, sh, _, rfl, ?_⟩
      rw [SeqAt.eqv_refl _ ly]
      exact iteF (hnx _ _ ⟨rfl, sA⟩)
    rintro σ B1 ⟨rfl, sB⟩
    -- the letters
    refine seq_any (fun σ' G => ∃ v4 v5 v6, σ' = lR x s l t v4 v5 v6 none none none none none ∧ Same H G) ?_ ?_
    rotate_left
    · intro nx hnx
      refine ⟨_, rfl, l, rfl, ⟨_, sB.seq q⟩, ?_⟩
      refine for_list (K := K) (a := l) (xs := as.map V.ref) (fun i σ G => (∃ v4 v5 v6, σ = lR x s l t v4 v5 v6 none none none none none) ∧ Same H G) ⟨⟨_, _, _, rfl⟩, sB⟩ (fun i σ G _ z => z.2.seq q) ?_ ?_
      · rintro i v σ G hi ⟨⟨v4, v5, v6, rfl⟩, sm⟩
        obtain ⟨b, eb, rfl⟩ := ref_at hi
        obtain ⟨vs, e1, hT⟩ := g i b eb
        obtain ⟨lt, e2, rfl⟩ := lt_at e1
        have ml := List.mem_of_getElem? e2
        obtain ⟨o1, o2, o3⟩ := fi.ol lt ml
        refine ⟨b, _, rfl, sqt_same sm hT, rfl, _, _, rfl, _, _, rfl, _, _, rfl, rfl, ?_⟩
        refine ⟨_, rfl, x, dx, _, rfl, sm _ _ hx, rfl, _, rfl, x, .str lt.1, .str lt.1, xs, ls, ts, rfl, hF.same sm, gd.nd, .str _, fun z => ?_, fun q' hq' ev T hT' => ?_⟩
        · exfalso
          rw [isTx_str, decide_eq_true (List.mem_map.mpr ⟨lt, ml, rfl⟩)] at z
          cases z
        obtain rfl : q' = lt := nd_eq gd.nd hq' ml (V.str.inj ev).symm
        refine ⟨_, rfl, _, rfl, szl (by show 2 ≤ 1000; decide), fun p hp => ?_⟩
        have sp := same_upd (o := .tup [V.str q'.2.1, V.str q'.2.2]) hp
        have shd : SeqAt.shaped (.tuple ([q'.2.1, q'.2.2].map PyData.str)) = true := shp_tok fun y hy => by
          simp only [List.mem_cons, List.not_mem_nil, or_false] at hy
          rcases hy with rfl | rfl
          · exact o2
          · exact o3
        refine ⟨.tuple ([q'.2.1, q'.2.2].map PyData.str), .tuple ([q'.2.1, q'.2.2].map PyData.str), .tup (sqt_same sp hT') (Xv.dpa_str [q'.2.1, q'.2.2]), .tup (SqT.of upd_same) (Xv.dpa_str [q'.2.1, q'.2.2]), shd, shd, _, rfl, ?_⟩
        rw [eqv_strs, decide_eq_true rfl]
        refine iteF ?_
        have sm2 := sm.trans sp
        refine ⟨_, rfl, x, dx, _, rfl, sm2 _ _ hx, rfl, _, rfl, x, .str q'.1, .str q'.1, xs, ls, ts, rfl, hF.same sm2, .str _, ?_⟩
        rw [isTx_str, decide_eq_true (List.mem_map.mpr ⟨q', ml, rfl⟩)]
        exact ⟨true, true, rfl, rfl, _, rfl, iteF ⟨⟨_, _, _, rfl⟩, sm2⟩⟩
      · rintro σ G ⟨⟨v4, v5, v6, rfl⟩, sm⟩
        exact hnx _ _ ⟨v4, v5, v6, rfl, sm⟩
    clear sB B1
    rintro σ B1 ⟨v4, v5, v6, rfl, sB⟩
    -- the totals from each sort
    refine seq_any (fun σ' G => ∃ v4 v7 v8 v9 v10, σ' = lR x s l t v4 v5 v6 v7 v8 v9 v10 none ∧ Same H G) ?_ ?_
    rotate_left
    · intro nx hnx
      refine ⟨_, rfl, s, rfl, ⟨_, sB.seq hs⟩, ?_⟩
      refine for_list (K := K) (a := s) (xs := xs.map V.str) (fun i σ G => (∃ v4 v7 v8 v9 v10, σ = lR x s l t v4 v5 v6 v7 v8 v9 v10 none) ∧ Same H G) ⟨⟨_, _, _, _, _, rfl⟩, sB⟩ (fun i σ G _ z => z.2.seq hs) ?_ ?_
      · clear v4 sB B1
        rintro i v σ G hi ⟨⟨v4, v7, v8, v9, v10, rfl⟩, sm⟩
        obtain ⟨z, ez, rfl⟩ := str_at hi
        have mz := List.mem_of_getElem? ez
        dsimp only [gName]
        refine ⟨szl (by show 0 ≤ 1000; decide), fun D hD => ?_⟩
        have sD := same_upd (o := .lst []) hD
        dsimp only [gName]
        change tSeq _ _ _ (lR x s l t v4 v5 v6 (some (.str z)) (some (.ref D)) v9 v10 none) (upd G D (.lst []))
        refine seq_any (fun σ' G' => ∃ v4 v9 v10 D us, σ' = lR x s l t v4 v5 v6 (some (.str z)) (some (.ref D)) v9 v10 none ∧ Same H G' ∧ G' D = some (.lst (us.map V.ref)) ∧ AllT K G' us ((tfs ls ts z).map ttV)) ?_ ?_
        rotate_left
        · intro nx2 hnx2
          refine ⟨_, rfl, t, rfl, ⟨_, (sm.trans sD).seq q2⟩, ?_⟩
          refine for_list (K := K) (a := t) (xs := bs.map V.ref) (fun i σ G => ∃ v4 v9 v10 D us, σ = lR x s l t v4 v5 v6 (some (.str z)) (some (.ref D)) v9 v10 none ∧ Same H G ∧ G D = some (.lst (us.map V.ref)) ∧ AllT K G us ((tfs ls (ts.take i) z).map ttV)) ⟨v4, v9, v10, D, [], rfl, sm.trans sD, upd_same, AllT.nil⟩ (fun i σ G _ ⟨_, _, _, _, _, _, p, _⟩ => p.seq q2) ?_ ?_
          · clear sD hD D v4 v9 v10
            rintro j v σ G2 hj ⟨v4, v9, v10, D, us, rfl, sm2, eD, hU⟩
            obtain ⟨b, eb, rfl⟩ := ref_at hj
            obtain ⟨vs, e1, hT⟩ := g2 j b eb
            obtain ⟨tt, e2, rfl⟩ := tt_at e1
            have mt := gd.mem tt (List.mem_of_getElem? e2)
            have wt := gd.wd tt (List.mem_of_getElem? e2)
            obtain ⟨mq, nq⟩ := endOf_ok mt
            have lu : us.length ≤ 60 := by
              have z1 := hU.1
              rw [List.length_map] at z1
              have z2 := List.length_filter_le (fun t => decide ((stepOf (endOf ls t.1) t).1 = z)) (ts.take j)
              rw [List.length_take] at z2
              unfold tfs at z1
              omega
            refine ⟨b, _, rfl, sqt_same sm2 hT, rfl, _, _, rfl, _, _, rfl, rfl, ?_⟩
            refine ⟨_, rfl, x, dx, _, rfl, sm2 _ _ hx, rfl, _, rfl, x, .str tt.1, .str tt.1, xs, ls, ts, rfl, hF.same sm2, gd.nd, .str _, fun z => ?_, fun q' hq' ev T hT' => ?_⟩
            · exfalso
              rw [isTx_str, decide_eq_true mt] at z
              cases z
            obtain rfl : q' = endOf ls tt.1 := nd_eq gd.nd hq' mq ((V.str.inj ev).symm.trans nq.symm)
            dsimp only [gName]
            change tAsg _ _ _ (lR x s l t (some (.str tt.1)) v5 v6 (some (.str z)) (some (.ref D)) (some (.str tt.2)) (some (.ref T)) none) G2
            refine ⟨_, rfl, _, rfl, _, rfl, szl (by show 2 ≤ 1000; decide), fun p hp => ?_⟩
            have s3 := same_upd (o := .tup [V.str tt.1, V.str tt.2]) hp
            refine ⟨szl (by show 1 ≤ 1000; decide), fun p2 hp2 => ?_⟩
            have s4 := same_upd (o := .lst [V.ref p]) hp2
            have s34 := s3.trans s4
            have hst : atI (endV (endOf ls tt.1)) (if decide (V.str tt.2 = V.str "back") = true then (1 : Int) else 0) = some (.str (stepOf (endOf ls tt.1) tt).1) := by
              unfold stepOf
              rcases wt with e | e
              · rw [if_pos e, e, if_neg (by decide +kernel)]
                rfl
              · rw [e, if_pos (decide_eq_true rfl), if_neg (by decide +kernel)]
                rfl
            refine ⟨_, rfl, _, rfl, rfl, .inr ⟨_, rfl, T, _, _, _, rfl, rfl, sqt_same s34 hT', hst, _, rfl, rfl, .inr ⟨_, rfl, ?_⟩⟩⟩
            have tk : tfs ls (ts.take (j + 1)) z = tfs ls (ts.take j) z ++ if (stepOf (endOf ls tt.1) tt).1 = z then [tt] else [] := by
              unfold tfs
              rw [List.take_add_one, e2, List.filter_append]
              congr 1
              show List.filter _ [tt] = _
              rw [List.filter_cons, List.filter_nil]
              by_cases q : (stepOf (endOf ls tt.1) tt).1 = z
              · rw [if_pos q, if_pos (decide_eq_true q)]
              · rw [if_neg q, if_neg (by rw [decide_eq_false q]; exact Bool.false_ne_true)]
            by_cases c : (stepOf (endOf ls tt.1) tt).1 = z
            · rw [decide_eq_true (congrArg V.str c), if_pos rfl]
              rw [if_pos c] at tk
              refine ⟨p2, 1, _, rfl, rfl, upd_same, by decide, by decide, szl (by show 1 * 1 ≤ 1000; decide), fun p3 hp3 => ?_⟩
              have s5 := same_upd (o := .lst (List.replicate (1 : Int).toNat [V.ref p]).flatten) hp3
              have s35 := s34.trans s5
              refine ⟨D, p3, _, _, rfl, rfl, s35 _ _ eD, upd_same, szl (by rw [List.length_map]; show us.length + 1 ≤ 1000; omega), fun p4 hp4 => ?_⟩
              have s6 := same_upd (o := .lst (us.map V.ref ++ (List.replicate (1 : Int).toNat [V.ref p]).flatten)) hp4
              have sA := s35.trans s6
              refine ⟨_, _, _, p4, us ++ [p], rfl, sm2.trans sA, by rw [upd_same, List.map_append]; rfl, ?_⟩
              rw [tk, List.map_append]
              exact (hU.same sA).snoc (sqt_same (s4.trans (s5.trans s6)) (SqT.of upd_same))
            · rw [decide_eq_false (fun q => c (V.str.inj q)), if_neg Bool.false_ne_true]
              rw [if_neg c, List.append_nil] at tk
              refine ⟨p2, 0, _, rfl, rfl, upd_same, by decide, by decide, szl (by show 1 * 0 ≤ 1000; decide), fun p3 hp3 => ?_⟩
              have s5 := same_upd (o := .lst (List.replicate (0 : Int).toNat [V.ref p]).flatten) hp3
              have s35 := s34.trans s5
              refine ⟨D, p3, _, _, rfl, rfl, s35 _ _ eD, upd_same, szl (by rw [List.length_map]; show us.length + 0 ≤ 1000; omega), fun p4 hp4 => ?_⟩
              have s6 := same_upd (o := .lst (us.map V.ref ++ (List.replicate (0 : Int).toNat [V.ref p]).flatten)) hp4
              have sA := s35.trans s6
              refine ⟨_, _, _, p4, us, rfl, sm2.trans sA, by rw [upd_same]; simp, ?_⟩
              rw [tk]
              exact hU.same sA
          · rintro σ G2 ⟨v4, v9, v10, D, us, rfl, sm2, eD, hU⟩
            rw [List.length_map, lb, List.take_length] at hU
            exact hnx2 _ _ ⟨v4, v9, v10, D, us, rfl, sm2, eD, hU⟩
        clear sD hD D v4 v9 v10
        rintro σ G2 ⟨v4, v9, v10, D, us, rfl, sm2, eD, hU⟩
        refine ⟨_, rfl, x, dx, _, rfl, sm2 _ _ hx, rfl, _, rfl, x, .str z, .str z, xs, ls, ts, rfl, hF.same sm2, gd, .str _, fun y => ?_, fun z' hz' ev l3 as3 H3 s3 hl3 e3 hA3 => ?_⟩
        · exfalso
          rw [isTx_str, decide_eq_true mz] at y
          cases y
        obtain rfl : z = z' := V.str.inj ev
        have hU3 := hU.same s3
        rw [rows_tt] at hA3 hU3
        have ok3 : ∀ q ∈ tfs ls ts z, Okx q.1 ∧ Okx q.2 := fun q hq => fi.ot q (List.mem_filter.mp hq).1
        refine ⟨_, rfl, .list (((tfs ls ts z).map ttS).map rowD), .list (((tfs ls ts z).map ttS).map rowD), .lst (SqL.of e3) (dpa_rows hA3), .lst (SqL.of (s3 _ _ eD)) (dpa_rows hU3), shp_rowsL (okr_tt ok3), shp_rowsL (okr_tt ok3), _, rfl, ?_⟩
        rw [eqv_lrows, decide_eq_true rfl]
        refine iteF ?_
        have sm3 := sm2.trans s3
        refine ⟨_, rfl, x, dx, _, rfl, sm3 _ _ hx, rfl, _, rfl, x, .str z, .str z, xs, ls, ts, rfl, hF.same sm3, .str _, ?_⟩
        rw [isTx_str, decide_eq_true mz]
        exact ⟨true, true, rfl, rfl, _, rfl, iteF ⟨⟨_, _, _, _, _, rfl⟩, sm3⟩⟩
      · rintro σ G ⟨⟨v4, v7, v8, v9, v10, rfl⟩, sm⟩
        exact hnx _ _ ⟨v4, v7, v8, v9, v10, rfl, sm⟩
    clear sB B1 v4
    rintro σ B1 ⟨v4, v7, v8, v9, v10, rfl, sB⟩
    -- strange names
    refine seq_any (fun σ' G => Same H G) (fun σ G sm => k G sm) ?_
    intro nx hnx
    refine ⟨szl (by show 1 ≤ 1000; decide), fun a1 ha1 => ?_⟩
    have s1 := same_upd (o := .lst [V.str "a"]) ha1
    refine ⟨szl (by show 1 ≤ 1000; decide), fun a2 ha2 => ?_⟩
    have s2 := same_upd (o := .tup [V.str "a"]) ha2
    intro a3 ha3
    have s3 := same_upd (o := .dK []) ha3
    refine ⟨szl (by show 8 ≤ 1000; decide), fun T hT => ⟨T, rfl, ⟨_, SqT.of upd_same⟩, ?_⟩⟩
    have s4 := same_upd (o := .tup (oddV a1 a2 a3)) hT
    have f1 : SqL K (upd (upd (upd (upd B1 a1 (.lst [V.str "a"])) a2 (.tup [V.str "a"])) a3 (.dK [])) T (.tup (oddV a1 a2 a3))) a1 ([("a" : Str)].map V.str) := SqL.of ((s2.trans (s3.trans s4)) _ _ upd_same)
    have f2 : SqT K (upd (upd (upd (upd B1 a1 (.lst [V.str "a"])) a2 (.tup [V.str "a"])) a3 (.dK [])) T (.tup (oddV a1 a2 a3))) a2 ([("a" : Str)].map V.str) := SqT.of ((s3.trans s4) _ _ upd_same)
    have f3 := s4 _ _ (upd_same : upd (upd (upd B1 a1 (.lst [V.str "a"])) a2 (.tup [V.str "a"])) a3 (.dK []) a3 = _)
    have sA := sB.trans (s1.trans (s2.trans (s3.trans s4)))
    have f4 : upd (upd (upd (upd B1 a1 (.lst [V.str "a"])) a2 (.tup [V.str "a"])) a3 (.dK [])) T (.tup (oddV a1 a2 a3)) T = some (.tup (oddV a1 a2 a3)) := upd_same
    clear s1 s2 s3 s4 ha1 ha2 ha3 hT
    have e0 : ("" : Str) ∉ xs ++ ls.map (·.1) := fun h => by
      have z := gd.isw _ h
      revert z
      decide +kernel
    have ez : ("zzz" : Str) ∉ xs ++ ls.map (·.1) := fun h => by
      rcases List.mem_append.mp h with z | z
      · exact nz1 _ z rfl
      · obtain ⟨p, hp, e⟩ := List.mem_map.mp z
        exact nz2 p hp e
    refine for_tup (g := gName 11) (K := K) (a := T) (xs := oddV a1 a2 a3) (fun i σ G => (∃ v11, σ = lR x s l t v4 v5 v6 v7 v8 v9 v10 v11) ∧ Same H G ∧ SqL K G a1 ([("a" : Str)].map V.str) ∧ SqT K G a2 ([("a" : Str)].map V.str) ∧ G a3 = some (.dK []) ∧ SqT K G T (oddV a1 a2 a3)) ⟨⟨none, rfl⟩, sA, f1, f2, f3, SqT.of f4⟩ (fun i σ G _ z => z.2.2.2.2.2) ?_ ?_
    · rintro i v σ G hi ⟨⟨v11, rfl⟩, sm, h1, h2, h3, h4⟩
      obtain ⟨d, S⟩ := odd_at (K := K) ez e0 hi
      obtain ⟨n1, n2⟩ := isTx_app S.no
      have an1 := S.any G h1 h2 h3
      refine ⟨_, rfl, x, dx, _, rfl, sm _ _ hx, rfl, _, rfl, x, v, d, xs, ls, ts, rfl, hF.same sm, an1, ?_⟩
      rw [n1]
      refine ⟨false, false, rfl, rfl, _, rfl, iteF ?_⟩
      refine ⟨_, rfl, x, dx, _, rfl, sm _ _ hx, rfl, _, rfl, x, v, d, xs, ls, ts, rfl, hF.same sm, an1, ?_⟩
      rw [n2]
      refine ⟨false, false, rfl, rfl, _, rfl, iteF ?_⟩
      refine ⟨_, rfl, _, rfl, x, v, d, xs, ls, ts, rfl, hF.same sm, gd, an1, n1, n2, S.sh, fun H' s' => ⟨_, rfl, iteF ?_⟩⟩
      exact ⟨⟨_, rfl⟩, sm.trans s', s'.seq h1, sqt_same s' h2, s' _ _ h3, sqt_same s' h4⟩
    · rintro σ G ⟨_, sm, _⟩
      exact hnx _ _ sm
end
end K22

namespace K22
open PySem PySem.Spec PyProof.Rows L2 Ow Xv
/-! ### texts of lists and of errors; a frame beside the source, beside lists that change -/
def rRepr (K : PySem.W.Frag) : List V → Hp → VK → Prop := fun xs H Q => ∃ (x : V) (d : PyData), xs = [x] ∧ Dp K H x d ∧ (∃ a, x = .ref a) ∧ d.showable = true ∧ d.hasDict = false ∧ d.depth ≤ 64 ∧ d.shown.length ≤ sizeLine ∧ Q (.str d.shown) H
theorem call_repr {X : Cx} (hg : X.A.guards = some []) (hu : X.A.units + 66 < cLine) : CallR X (.builtin "repr") (rRepr X.K) := by
  intro pins s σ H xs us Q I r ⟨x, d, e, hd, ⟨a, ea⟩, h1, h2, h3, h4, q⟩
  subst e
  subst ea
  obtain ⟨u1, rfl, r1⟩ := vals1 r
  obtain ⟨as, rd⟩ := Dp.reads I d (.ref a) u1 hd r1
  obtain rfl : u1 = Value.ref a := r1
  exact repr_of_reads' rd h1 (fun z => absurd (h2.symm.trans z) (by simp)) hg (by omega) (fun _ _ z => z) (fun h' u tk hk => ⟨.str d.shown, H, I.kept (t' := tk) hk, ⟨u, rfl⟩, q⟩) h4
structure Shw (d : PyData) : Prop where
  s : d.showable = true
  k : d.hasDict = false
  p : d.depth ≤ 64
  l : d.shown.length ≤ sizeLine
theorem strs_si (xs : List Str) : PyData.intsShortAll 13 (xs.map PyData.str) = true := by
  induction xs with
  | nil => simp [PyData.intsShortAll]
  | cons x xs ih => simp [PyData.intsShortAll, PyData.intsShort, ih]
theorem rows_si (rows : List (List Str)) : PyData.intsShortAll 13 (rows.map rowD) = true := by
  induction rows with
  | nil => simp [PyData.intsShortAll]
  | cons r rows ih =>
    have e := strs_si r
    rw [List.map_cons]
    simp only [PyData.intsShortAll, rowD, PyData.intsShort, e, ih, Bool.and_self]
theorem strs_w {xs : List Str} (h : ∀ x ∈ xs, Okx x) : PyData.weightAll (xs.map PyData.str) ≤ 901 * xs.length := by
  induction xs with
  | nil => simp [PyData.weightAll]
  | cons x xs ih =>
    have a := ih fun y hy => h y (List.mem_cons_of_mem _ hy)
    have b : x.cps.size ≤ 900 := (h x List.mem_cons_self).l
    simp only [List.map_cons, PyData.weightAll, PyData.weight, List.length_cons]
    omega
theorem rows_w {rows : List (List Str)} (h : ∀ r ∈ rows, OkRow r) (h3 : ∀ r ∈ rows, r.length ≤ 3) : PyData.weightAll (rows.map rowD) ≤ 2704 * rows.length := by
  induction rows with
  | nil => simp [PyData.weightAll]
  | cons r rows ih =>
    have a := ih (fun y hy => h y (List.mem_cons_of_mem _ hy)) fun y hy => h3 y (List.mem_cons_of_mem _ hy)
    have b := strs_w (h r List.mem_cons_self)
    have c := h3 r List.mem_cons_self
    simp only [List.map_cons, PyData.weightAll, rowD, PyData.weight, List.length_cons]
    omega
theorem shw_of {d : PyData} (h : d.canLay0 = true) (p : d.depth ≤ 64) (w : d.weight ≤ 2 ^ 20) (i : d.intsShort 13 = true) (s : d.showable = true) : Shw d := by
  refine ⟨s, PyData.hasDict_of_canLay _ h, p, ?_⟩
  have e : PyData.layable0 d = true := by
    show (PyData.canLay0 d && decide (PyData.depth d ≤ 64) && decide (PyData.weight d ≤ 2 ^ 20)) = true
    rw [h, decide_eq_true p, decide_eq_true w]
    rfl
  have z := PyData.shown_le_of_layable0 e i
  have e2 : sizeLine = 16777216 := by decide
  omega
theorem rows_sh (rows : List (List Str)) : PyData.showableAll (rows.map rowD) = true := by
  induction rows with
  | nil => simp [PyData.showableAll]
  | cons r rows ih =>
    have e := Xv.show_strs r
    rw [List.map_cons]
    simp only [PyData.showableAll, rowD, PyData.showable, e, ih, Bool.and_self]
theorem tri_shw {xs : List Str} {ls : List Lt} {ts : List Tt} (fi : FrIn xs ls ts) : Shw (triD xs ls ts) := by
  have lx := fi.lx
  have ll := fi.ll
  have lt := fi.lt
  have d3 := tri_dep xs ls ts
  refine shw_of (tri_lay fi.ox fi.ol fi.ot) (by omega) ?_ ?_ ?_
  · have a := strs_w fi.ox
    have b := rows_w (okr_lt fi.ol) (fun r hr => by
      obtain ⟨q, _, rfl⟩ := List.mem_map.mp hr
      exact Nat.le_refl 3)
    have c := rows_w (okr_tt fi.ot) (fun r hr => by
      obtain ⟨q, _, rfl⟩ := List.mem_map.mp hr
      show 2 ≤ 3
      decide)
    rw [List.length_map] at b c
    simp only [triD, PyData.weight, PyData.weightAll]
    omega
  · simp only [triD, PyData.intsShort, PyData.intsShortAll, strs_si, rows_si, Bool.and_self]
  · simp only [triD, PyData.showable, PyData.showableAll, Xv.show_strs, rows_sh, Bool.and_self]
/-- an error's list as data -/
def fltD : Flt → PyData
  | .nm x => .list [.str "name", .str x]
  | .tw x => .list [.str "twice", .str x]
  | .un x => .list [.str "unknown", .str x]
  | .fr x => .list [.str "frame", .str x]
  | .rd zs => .list [.str "round", .tuple (zs.map PyData.str)]
def FltOk : Flt → Prop
  | .nm x => Okx x
  | .tw x => Okx x
  | .un x => Okx x
  | .fr x => Okx x
  | .rd zs => (∀ z ∈ zs, Okx z) ∧ zs.length ≤ 60
theorem flt_dp {K : PySem.W.Frag} {H : Hp} {a : Addr} {f : Flt} (h : FltAt K H a f) : Dp K H (.ref a) (fltD f) := by
  obtain ⟨v, e, g⟩ := h
  cases f with
  | nm x => obtain rfl : v = .str x := g; exact .lst (SqL.of e) (.cons (.str _) (.cons (.str _) .nil))
  | tw x => obtain rfl : v = .str x := g; exact .lst (SqL.of e) (.cons (.str _) (.cons (.str _) .nil))
  | un x => obtain rfl : v = .str x := g; exact .lst (SqL.of e) (.cons (.str _) (.cons (.str _) .nil))
  | fr x => obtain rfl : v = .str x := g; exact .lst (SqL.of e) (.cons (.str _) (.cons (.str _) .nil))
  | rd zs => obtain ⟨T, rfl, hT⟩ := g; exact .lst (SqL.of e) (.cons (.str _) (.cons (.tup hT (Xv.dpa_str zs)) .nil))
theorem flt_shw {f : Flt} (h : FltOk f) : Shw (fltD f) := by
  have two : ∀ (k x : Str), okxB k = true → Okx x → Shw (.list [.str k, .str x]) := fun k x hk hx => by
    have ok := okx_of hk
    have l1 : k.cps.size ≤ 900 := ok.l
    have l2 : x.cps.size ≤ 900 := hx.l
    refine shw_of ?_ ?_ ?_ ?_ ?_
    · simp [PyData.canLay0, PyData.canLayAll0, ok.o, hx.o]
    · simp [PyData.depth, PyData.depthAll]
    · simp only [PyData.weight, PyData.weightAll]
      omega
    · simp [PyData.intsShort, PyData.intsShortAll]
    · simp [PyData.showable, PyData.showableAll]
  cases f with
  | nm x => exact two "name" x (by decide +kernel) h
  | tw x => exact two "twice" x (by decide +kernel) h
  | un x => exact two "unknown" x (by decide +kernel) h
  | fr x => exact two "frame" x (by decide +kernel) h
  | rd zs =>
    have ok := okx_of (show okxB "round" = true by decide +kernel)
    have l1 : ("round" : Str).cps.size ≤ 900 := ok.l
    have w := strs_w h.1
    have l2 := h.2
    have ly := lay_okx h.1
    have dp := dep_strs zs
    refine shw_of ?_ ?_ ?_ ?_ ?_
    · simp only [fltD, PyData.canLay0, PyData.canLayAll0, ok.o, ly, Bool.and_self]
    · simp only [fltD, PyData.depth, PyData.depthAll, dp]
      omega
    · simp only [fltD, PyData.weight, PyData.weightAll]
      omega
    · simp only [fltD, PyData.intsShort, PyData.intsShortAll, strs_si, Bool.and_self]
    · simp only [fltD, PyData.showable, PyData.showableAll, Xv.show_strs, Bool.and_self]
theorem firstL_some {α β : Type} {f : Nat → α → Option β} {xs : List α} {b : β} (h : firstL f xs = some b) : ∃ i x, xs[i]? = some x ∧ f i x = some b := by
  unfold firstL at h
  generalize xs.length = n at h
  induction n with
  | zero => cases h
  | succ n ih =>
    unfold firstN at h
    cases e : firstN (fun i => xs[i]?.bind (f i)) n with
    | some a =>
      rw [e] at h
      exact ih (e.trans h)
    | none =>
      rw [e] at h
      dsimp only at h
      cases z : xs[n]? with
      | none => rw [z] at h; cases h
      | some x => rw [z] at h; exact ⟨n, x, z, h⟩
theorem leadN_mem {S : List Tt} {xs : List Str} : ∀ n, ∀ x ∈ leadN S n xs, x ∈ xs := fun n => by
  induction n with
  | zero => exact fun x h => h
  | succ n ih => exact fun x h => ih x (List.mem_filter.mp h).1
theorem due_ok {xs : List Str} {ls : List Lt} {ts : List Tt} (fi : FrIn xs ls ts) {f : Flt} (h : dueF xs ls ts = some f) : FltOk f := by
  have nm : ∀ x ∈ xs ++ ls.map (·.1), Okx x := fun x hx => by
    rcases List.mem_append.mp hx with z | z
    · exact fi.ox x z
    · obtain ⟨q, hq, rfl⟩ := List.mem_map.mp z
      exact (fi.ol q hq).1
  have ag : ∀ {zs : List Str} {x : Str}, again zs = some x → x ∈ zs := fun {zs x} e => by
    obtain ⟨i, y, h1, h2⟩ := firstL_some e
    by_cases c : y ∈ zs.take i
    · rw [if_pos c] at h2
      cases h2
      exact List.mem_of_getElem? h1
    · rw [if_neg c] at h2
      cases h2
  cases e1 : badN (xs ++ ls.map (·.1)) with
  | some z =>
    rw [due_nm e1] at h
    cases h
    obtain ⟨i, y, h1, h2⟩ := firstL_some e1
    by_cases c : isW y = true
    · rw [if_pos c] at h2
      cases h2
    · rw [if_neg c] at h2
      cases h2
      exact nm _ (List.mem_of_getElem? h1)
  | none =>
  cases e2 : again xs with
  | some z =>
    rw [due_tw1 e1 e2] at h
    cases h
    exact fi.ox _ (ag e2)
  | none =>
  cases e3 : again (ls.map (·.1)) with
  | some z =>
    rw [due_tw2 e1 e2 e3] at h
    cases h
    exact nm _ (List.mem_append_right _ (ag e3))
  | none =>
  cases e4 : badE xs ls with
  | some z =>
    rw [due_un1 e1 e2 e3 e4] at h
    cases h
    obtain ⟨i, q, h1, h2⟩ := firstL_some e4
    obtain ⟨_, o2, o3⟩ := fi.ol q (List.mem_of_getElem? h1)
    by_cases c : q.2.1 ∉ xs
    · rw [if_pos c] at h2
      cases h2
      exact o2
    · rw [if_neg c] at h2
      by_cases c2 : q.2.2 ∉ xs
      · rw [if_pos c2] at h2
        cases h2
        exact o3
      · rw [if_neg c2] at h2
        cases h2
  | none =>
  cases e5 : badT (ls.map (·.1)) ts with
  | some z =>
    rw [due_un2 e1 e2 e3 e4 e5] at h
    cases h
    obtain ⟨i, q, h1, h2⟩ := firstL_some e5
    by_cases c : q.1 ∉ ls.map (·.1)
    · rw [if_pos c] at h2
      cases h2
      exact (fi.ot q (List.mem_of_getElem? h1)).1
    · rw [if_neg c] at h2
      cases h2
  | none =>
  cases e6 : badF ts with
  | some z =>
    rw [due_fr e1 e2 e3 e4 e5 e6] at h
    cases h
    obtain ⟨i, q, h1, h2⟩ := firstL_some e6
    by_cases c : (q.2 ≠ ("on" : Str) ∧ q.2 ≠ ("back" : Str)) ∨ q ∈ ts.take i
    · rw [if_pos c] at h2
      cases h2
      exact (fi.ot q (List.mem_of_getElem? h1)).1
    · rw [if_neg c] at h2
      cases h2
  | none =>
  rw [due_rd e1 e2 e3 e4 e5 e6] at h
  by_cases c : rnd (stepsOf ls ts) xs = []
  · rw [if_pos c] at h
    cases h
  · rw [if_neg c] at h
    cases h
    refine ⟨fun z hz => fi.ox z (leadN_mem _ z hz), ?_⟩
    have := leadN_app (stepsOf ls ts) xs.length xs
    have := fi.lx
    unfold rnd
    omega
section
variable {K : PySem.W.Frag} {H : Hp} {d c x D : Addr} {xs : List Str} {ls : List Lt} {ts : List Tt}
theorem sqt_hid {a : Addr} {xs : List V} (src : SrcAt H d c) (h : SqT K H a xs) : SqT K (hid d c H) a xs := by
  obtain ⟨ns, l, m, t, h1, _, h3⟩ := src
  rcases h with (h | ⟨o, h⟩) | h
  · exact .inl (.inl ((hid_at (fun e => by rw [e, h3] at h; cases h) (fun e => by rw [e, h1] at h; cases h)).trans h))
  · exact .inl (.inr ⟨o, (hid_at (fun e => by rw [e, h3] at h; cases h) (fun e => by rw [e, h1] at h; cases h)).trans h⟩)
  · exact .inr h
theorem kvL_skv {l m t : Int} : ∀ (ls : List Lt) (as : List Addr), kvL ls as ≠ skv c l m t
  | [], _, h => by cases h
  | _ :: _, [], h => by cases h
  | q :: [], a :: as, h => by
    injection h with h1 h2
    cases h2
  | q :: p :: ls, [a], h => by
    injection h with h1 h2
    cases h2
  | q :: p :: ls, a :: b :: as, h => by
    injection h with h1 h2
    injection h2 with h3 h4
    injection h3 with h5 h6
    cases h6
theorem FrmAt.hid (src : SrcAt H d c) (h : FrmAt K H x xs ls ts) : FrmAt K (hid d c H) x xs ls ts := by
  obtain ⟨dx, s, l, t, m, h1, h2, ⟨as, h3, h6⟩, ⟨bs, h4, h7⟩, ⟨ws, h5, h8, h9⟩⟩ := h
  obtain ⟨ns, l', m', t', g1, _, g3⟩ := id src
  refine ⟨dx, s, l, t, m, ?_, sqt_hid src h2, ⟨as, sqt_hid src h3, h6.1, fun i u e => ?_⟩, ⟨bs, sqt_hid src h4, h7.1, fun i u e => ?_⟩, ⟨ws, ?_, h8, fun i u e => ?_⟩⟩
  · exact (hid_at (fun e => by rw [e, g3] at h1; cases h1) (fun e => by rw [e, g1] at h1; cases h1)).trans h1
  · obtain ⟨vs, a, b⟩ := h6.2 i u e
    exact ⟨vs, a, sqt_hid src b⟩
  · obtain ⟨vs, a, b⟩ := h7.2 i u e
    exact ⟨vs, a, sqt_hid src b⟩
  · refine (hid_at (fun e => ?_) (fun e => by rw [e, g1] at h5; cases h5)).trans h5
    rw [e, g3] at h5
    injection h5 with h5
    injection h5 with h5
    exact kvL_skv ls ws h5.symm
  · obtain ⟨q, a, b⟩ := h9 i u e
    exact ⟨q, a, sqt_hid src b⟩
/-- a list is changed -/
theorem FrmAt.putL {o : HO} {zs : List V} (e : H D = some (.lst zs)) (h : FrmAt K H x xs ls ts) : FrmAt K (upd H D o) x xs ls ts := by
  obtain ⟨dx, s, l, t, m, h1, h2, ⟨as, h3, h6⟩, ⟨bs, h4, h7⟩, ⟨ws, h5, h8, h9⟩⟩ := h
  refine ⟨dx, s, l, t, m, ?_, sqt_put e h2, ⟨as, sqt_put e h3, h6.put e⟩, ⟨bs, sqt_put e h4, h7.put e⟩, ⟨ws, ?_, h8, fun i u e2 => ?_⟩⟩
  · exact (upd_ne fun z => by rw [z, e] at h1; cases h1).trans h1
  · exact (upd_ne fun z => by rw [z, e] at h5; cases h5).trans h5
  · obtain ⟨q, a, b⟩ := h9 i u e2
    exact ⟨q, a, sqt_put e b⟩
theorem cat_any {a b : Addr} {ys zs : List V} {Q : VK} (h1 : SqT K H a ys) (h2 : SqT K H b zs) (l : ys.length + zs.length ≤ 1000) (k : ∀ (T : Addr) (H' : Hp), Same H H' → SqT K H' T (ys ++ zs) → Q (.ref T) H') : rCatA K (.ref a) (.ref b) H Q :=
  ⟨a, b, ys, zs, rfl, rfl, h1, h2, szl l, fun e => k b H (Same.refl _) (by rw [e]; exact h2), fun _ e => k a H (Same.refl _) (by rw [e, List.append_nil]; exact h1), fun _ _ p hp => k p _ (same_upd hp) (SqT.of upd_same)⟩
theorem fr_totals {s m o t b : Addr} (h : H d = some (.dK (frV s m o t b))) : DGet H d (.str "totals") (some (.ref t)) := by
  have z : DGet H d (kV (.inr "totals")) (valV (frV s m o t b) (.inr "totals")) := DGet.k h
  rw [show valV (frV s m o t b) (.inr "totals") = some (.ref t) from rfl] at z
  exact z
end
end K22

namespace K22
open PySem PySem.Spec PyProof.Rows L2 Ow Xv
/-! ### the law -/
abbrev NLw : List Str := ["_law_script", "_law_source_here", "_law_frame_here", "_law_lists", "_law_stays", "_law_change", "_law_printed", "_law_due_here", "_law_told_here", "_law_given", "_law_built", "_law_some", "_law_other", "_law_name"]
theorem scLaw : FnScope NLw ["_law_script"] (defScope sLaw) := ⟨rfl, rfl, rfl, by decide +kernel, rfl, by decide +kernel, by decide +kernel⟩
abbrev lW (a d e : Addr) (v3 v4 v5 v6 v7 v8 v9 v10 v11 v12 v13 : Option V) : L2.St := [some (.ref a), some (.ref d), some (.ref e), v3, v4, v5, v6, v7, v8, v9, v10, v11, v12, v13]
def teLw (K : PySem.W.Frag) : TE := tOp (rCatA K) (tTup (tCons (tVar 13) tNil)) (tDGet (tDGet (tVar 2) (tC (.str "letters"))) (tVar 13))
def teGv (K : PySem.W.Frag) : TE := tCB (fun xs H Q => ∃ p ys, xs = [.ref p] ∧ (SqL K H p ys ∨ SqT K H p ys) ∧ ∀ l, H l = none → Q (.ref l) (upd H l (.lst ys))) (tCons (tVar 11) tNil)
def spLaw (K : PySem.W.Frag) : Sp := fun vs H Q _ => ∃ (a : Addr) (ns : List Int), vs = [.ref a] ∧ SqL K H a (ns.map V.int) ∧ ns.length ≤ 63 ∧ ∀ H', Q (.bl true) H'
/-- what is told -/
def ToldAt (K : PySem.W.Frag) (H : Hp) (xs : List Str) (ls : List Lt) (ts : List Tt) (v : V) : Prop :=
  (∀ f, dueF xs ls ts = some f → ∃ a, v = .ref a ∧ FltAt K H a f) ∧ (dueF xs ls ts = none → ∃ x, v = .ref x ∧ FrmAt K H x xs ls ts)
theorem LsIn.fi {N : Nat} {xs : List Str} {ls : List Lt} {ts : List Tt} (h : LsIn N xs ls ts) (n : N ≤ 60) : FrIn xs ls ts := ⟨h.ox, h.ol, h.ot, Nat.le_trans h.lx n, Nat.le_trans h.ll n, Nat.le_trans h.lt n⟩
theorem LsIn.mono {N M : Nat} {xs : List Str} {ls : List Lt} {ts : List Tt} (h : LsIn N xs ls ts) (n : N ≤ M) : LsIn M xs ls ts := ⟨h.ox, h.ol, h.ot, Nat.le_trans h.lx n, Nat.le_trans h.ll n, Nat.le_trans h.lt n, h.l1, h.nx, h.nl⟩
theorem Drawn.lsin {xs : List Str} {ls us : List Lt} (h : Drawn xs ls us) (l1 : 1 ≤ ls.length) : LsIn 16 xs ls (us.map totOf) := by
  have fi := h.good.fi
  have l16 : ls.length ≤ 16 := by have := h.ok.nl.n; rw [List.length_map] at this; exact this
  exact ⟨fi.ox, fi.ol, fi.ot, h.ok.nx.n, l16, by rw [List.length_map]; exact h.lu, l1, fun x hx => (h.ok.nx.w x hx).z, fun q hq => (h.ok.nl.w q.1 (List.mem_map.mpr ⟨q, hq, rfl⟩)).z⟩
theorem AllT.rev {K : PySem.W.Frag} {H : Hp} {us : List Addr} {vss : List (List V)} (h : AllT K H us vss) : AllT K H us.reverse vss.reverse := by
  refine ⟨by rw [List.length_reverse, List.length_reverse, h.1], fun i t e => ?_⟩
  have li := (List.getElem?_eq_some_iff.mp e).1
  rw [List.length_reverse] at li
  rw [List.getElem?_reverse li] at e
  obtain ⟨vs, a, b⟩ := h.2 _ t e
  refine ⟨vs, ?_, b⟩
  rw [List.getElem?_reverse (by rw [← h.1]; exact li), ← h.1]
  exact a
section
variable {P : Program} {w : World} {K : PySem.W.Frag} {mg : Str → Option Value} {base : Heap} {f : Addr} {fd : FuncData}
theorem Fx.insTy (Y : Fx w K mg) {H : Hp} {x : Addr} {xs : List Str} {ls : List Lt} {ts : List Tt} (h : FrmAt K H x xs ls ts) : TyX K H (.ref x) (.ref (CFrame K)) := by
  obtain ⟨i1, i2⟩ := an Y.x7
  obtain ⟨i3, i4⟩ := an i1
  obtain ⟨i5, i6⟩ := an i2
  obtain ⟨dx, s, l, t, m, h1, _⟩ := h
  exact .base (.ins h1 Y.cFrame (He.eqO_ok i3) (He.eqO_ok i5) (of_decide_eq_true i6) (of_decide_eq_true i4))
theorem ok_law (F : FnP K "law" sLaw f fd) (Y : Fx w K mg) : FnG P w K mg base 8 f fd ["_law_script"] (spLaw K) := by
  obtain ⟨dS, FS⟩ := Y.dLawSource
  obtain ⟨dP, FP⟩ := Y.dLawPick
  obtain ⟨dFr, FFr⟩ := Y.dLawFrame
  obtain ⟨dWT, FWT⟩ := Y.dLawWithTotals
  obtain ⟨dBt, FBt⟩ := Y.dLawBent
  obtain ⟨dDu, FDu⟩ := Y.dLawDue
  obtain ⟨dTo, FTo⟩ := Y.dLawTold
  obtain ⟨dRt, FRt⟩ := Y.dLawRight
  obtain ⟨dFI, FFI⟩ := Y.dFrame_Init
  obtain ⟨dMs, FMs⟩ := Y.dFrame_Sorts
  obtain ⟨dMl, FMl⟩ := Y.dFrame_Letters
  obtain ⟨dMt, FMt⟩ := Y.dFrame_Totals
  obtain ⟨dTF, FTF⟩ := Y.dFrame_TotalsFrom
  obtain ⟨dEq, FEq⟩ := Y.dFrame_Eq
  have bS := FunD.bindsN (ps := ["_law_script"]) FS fun _ _ _ _ _ _ us hl => match us, hl with | [_], _ => rfl
  have bP := FunD.bindsN (ps := ["_law_source_here", "_law_many"]) FP fun _ _ _ _ _ _ us hl => match us, hl with | [_, _], _ => rfl
  have bFr := FunD.bindsN (ps := ["_law_source_here", "_law_sorts", "_law_letters"]) FFr fun _ _ _ _ _ _ us hl => match us, hl with | [_, _, _], _ => rfl
  have bWT := FunD.bindsN (ps := ["_law_source_here", "_law_frame_here"]) FWT fun _ _ _ _ _ _ us hl => match us, hl with | [_, _], _ => rfl
  have bBt := FunD.bindsN (ps := ["_law_source_here", "_law_sorts", "_law_letters", "_law_totals"]) FBt fun _ _ _ _ _ _ us hl => match us, hl with | [_, _, _, _], _ => rfl
  have bDu := FunD.bindsN (ps := ["_law_sorts", "_law_letters", "_law_totals"]) FDu fun _ _ _ _ _ _ us hl => match us, hl with | [_, _, _], _ => rfl
  have bTo := FunD.bindsN (ps := ["_law_sorts", "_law_letters", "_law_totals"]) FTo fun _ _ _ _ _ _ us hl => match us, hl with | [_, _, _], _ => rfl
  have bRt := FunD.bindsN (ps := ["_law_built", "_law_sorts", "_law_letters", "_law_totals"]) FRt fun _ _ _ _ _ _ us hl => match us, hl with | [_, _, _, _], _ => rfl
  have bFI := FunD.bindsN (ps := ["self", "sorts", "letters", "totals"]) FFI fun _ _ _ _ _ _ us hl => match us, hl with | [_, _, _, _], _ => rfl
  have bMs := FunD.bindsN (ps := ["self"]) FMs fun _ _ _ _ _ _ us hl => match us, hl with | [_], _ => rfl
  have bMl := FunD.bindsN (ps := ["self"]) FMl fun _ _ _ _ _ _ us hl => match us, hl with | [_], _ => rfl
  have bMt := FunD.bindsN (ps := ["self"]) FMt fun _ _ _ _ _ _ us hl => match us, hl with | [_], _ => rfl
  have bTF := FunD.bindsN (ps := ["self", "sort"]) FTF fun _ _ _ _ _ _ us hl => match us, hl with | [_, _], _ => rfl
  have bEq := FunD.bindsN (ps := ["self", "other"]) FEq fun _ _ _ _ _ _ us hl => match us, hl with | [_, _], _ => rfl
  have GS : FnOk P w K mg base CX0 1 _ dS ["_law_script"] (spSrc K) := ok_src FS Y.bl
  have GP : FnOk P w K mg base CX0 1 _ dP ["_law_source_here", "_law_many"] spPick := ok_pick FP Y.bl
  have GFr : FnOk P w K mg base CX0 6 _ dFr ["_law_source_here", "_law_sorts", "_law_letters"] (spFr K) := ok_fr FFr Y
  have GWT : FnOk P w K mg base CX0 7 _ dWT ["_law_source_here", "_law_frame_here"] (spWT K) := ok_wt FWT Y
  have GBt : FnOk P w K mg base CX0 2 _ dBt ["_law_source_here", "_law_sorts", "_law_letters", "_law_totals"] (spBt K) := ok_bt FBt Y
  have GDu : FnOk P w K mg base CX0 2 _ dDu ["_law_sorts", "_law_letters", "_law_totals"] (spDu K) := ok_du FDu Y
  have GTo : FnOk P w K mg base CX0 6 _ dTo ["_law_sorts", "_law_letters", "_law_totals"] (spTo K) := ok_to FTo Y
  have GRt : FnG P w K mg base 5 _ dRt ["_law_built", "_law_sorts", "_law_letters", "_law_totals"] (spRt K) := ok_rt FRt Y
  have GFI : FnOk P w K mg base (L2.CX P w) 4 _ dFI ["self", "sorts", "letters", "totals"] (spFI2 K) := ok_fi2 FFI Y
  have GMs : FnOk P w K mg base CX0 1 _ dMs ["self"] (spMs K) := ok_ms FMs Y
  have GMl : FnOk P w K mg base CX0 1 _ dMl ["self"] (spMl K) := ok_ml FMl Y
  have GMt : FnOk P w K mg base CX0 1 _ dMt ["self"] (spMt K) := ok_mt FMt Y
  have GTF : FnOk P w K mg base (L2.CX P w) 3 _ dTF ["self", "sort"] (spTF K) := ok_tf FTF Y
  have GEq : FnOk P w K mg base CX0 1 _ dEq ["self", "other"] (spEqF K) := ok_eqf FEq Y
  refine okG F scLaw (fun vs H Q E h => ?_) (fun cdv A outer s H vs Q E hgd hr h => ?_)
  · obtain ⟨a, ns, rfl, _⟩ := h
    rfl
  · have nd := scLaw.nd
    have hu := hu_of hr
    have hu64 := hu64_of hr
    have hu66 : (A.deeper (envOfC "law" (defScope sLaw) s.heap.objs.size f cdv)).units + 66 < cLine := by have := hr.un; omega
    have hr1 : Room 1 _ := hr.mono (by decide)
    have hr2 : Room 2 _ := hr.mono (by decide)
    have hr3 : Room 3 _ := hr.mono (by decide)
    have hr5 : Room 5 _ := hr.mono (by decide)
    have hr6 : Room 6 _ := hr.mono (by decide)
    have oEq := (⟨GEq, hr1, Y.mFrame_Eq.at_, Y.mFrame_Eq.fn, bEq⟩ : OwnFn (cxOf CX0 P w K mg base NLw "law" (defScope sLaw) f cdv A outer s H E).nox 1 (CFrame K) "__eq__" _ dEq ["self", "other"] (spEqF K))
    have opNe := (op_own_ne (X := (cxOf CX0 P w K mg base NLw "law" (defScope sLaw) f cdv A outer s H E).nox) (C := CFrame K) GEq hr2 Y.mFrame_Eq.at_ Y.mFrame_Eq.fn bEq (He.eqO_ok Y.x11) (of_decide_eq_true (an (an Y.x7).1).2))
    refine ⟨_, (pss_cons (ps_set (i := 1) nd rfl (Or.inl rfl) (pe_call GS hr1 (by rfl) Y.gLawSource FS.kp bS .nil pass0 (pa_cons (pv 0) pa_nil)))
      (pss_cons (ps_set (i := 2) nd rfl (Or.inr rfl) (pe_call GFr hr6 (by rfl) Y.gLawFrame FFr.kp bFr .nil pass0 (pa_cons (pv 1) (pa_cons (pe_op op_add pe_int (pe_call GP hr1 (by rfl) Y.gLawPick FP.kp bP .nil pass0 (pa_cons (pv 1) (pa_cons (pe_int) pa_nil)))) (pa_cons (pe_op op_add pe_int (pe_call GP hr1 (by rfl) Y.gLawPick FP.kp bP .nil pass0 (pa_cons (pv 1) (pa_cons (pe_int) pa_nil)))) pa_nil)))))
      (pss_cons (ps_set (i := 2) nd rfl (Or.inr rfl) (pe_call GWT hr (by rfl) Y.gLawWithTotals FWT.kp bWT .nil pass0 (pa_cons (pv 1) (pa_cons (pv 2) pa_nil))))
      (pss_cons (ps_set (i := 3) nd rfl (Or.inl rfl) (pe_lst (pa_cons (pe_dget hu (pv 2) pe_str nosl) (pa_cons (pe_lc (own := [("_law_name", 13)]) (g := gName 13) (tt := tYes) (te := teLw K) rfl nd (pi_list (pe_dget hu (pv 2) pe_str nosl)) (blkOk_by (N := NLw) (sc := defScope sLaw) (by decide +kernel)) (fun _ _ _ _ _ => pg_name (i := 13) nd rfl (Or.inl rfl)) (fun _ _ _ _ _ => pts_nil) (fun _ _ _ _ _ => pe_op op_catA (pe_tup (pa_cons (pv 13) pa_nil)) (pe_dget hu (pe_dget hu (pv 2) pe_str nosl) (pv 13) nosl))) (pa_cons (pe_dget hu (pv 2) pe_str nosl) pa_nil)))))
      (pss_cons (ps_if (pt_cmpR op_eq (pe_call GP hr1 (by rfl) Y.gLawPick FP.kp bP .nil pass0 (pa_cons (pv 1) (pa_cons (pe_int) pa_nil))) pe_int (nomark _)) (pss_one (ps_asg (pe_rev (pe_ix ix_list (pv 3) pe_int (fun _ _ => rfl)) (pe_un un_neg pe_int)) (pg_sub (pv 3) pe_int set_list (fun _ => rfl)))) pss_nil)
      (pss_cons (ps_set (i := 4) nd rfl (Or.inl rfl) (pv 3))
      (pss_cons (ps_for PassesOwn.never rfl (pi_range1 (by rfl) Y.bRange (pa_cons (pe_op op_add pe_int (pe_call GP hr1 (by rfl) Y.gLawPick FP.kp bP .nil pass0 (pa_cons (pv 1) (pa_cons (pe_int) pa_nil)))) pa_nil)) (pg_name (i := 5) nd rfl (Or.inl rfl)) (pss_cons (ps_set (i := 3) nd rfl (Or.inl rfl) (pe_call GBt hr2 (by rfl) Y.gLawBent FBt.kp bBt .nil pass0 (pa_cons (pv 1) (pa_cons (pe_ix ix_list (pv 3) pe_int (fun _ _ => rfl)) (pa_cons (pe_ix ix_list (pv 3) pe_int (fun _ _ => rfl)) (pa_cons (pe_ix ix_list (pv 3) pe_int (fun _ _ => rfl)) pa_nil))))))
      (pss_cons (ps_par (i := 6) (j := 7) (by rfl) nd rfl rfl (by decide) rfl rfl (pa_cons (pe_callB (call_repr hgd hu66) (by rfl) Y.bRepr (by decide +kernel) (pa_cons (pv 3) pa_nil)) (pa_cons (pe_call GDu hr2 (by rfl) Y.gLawDue FDu.kp bDu .nil pass0 (pa_cons (pe_ix ix_list (pv 3) pe_int (fun _ _ => rfl)) (pa_cons (pe_ix ix_list (pv 3) pe_int (fun _ _ => rfl)) (pa_cons (pe_ix ix_list (pv 3) pe_int (fun _ _ => rfl)) pa_nil)))) pa_nil)) (by rfl))
      (pss_cons (ps_set (i := 8) nd rfl (Or.inl rfl) (pe_call GTo hr6 (by rfl) Y.gLawTold FTo.kp bTo .nil pass0 (pa_cons (pe_ix ix_list (pv 3) pe_int (fun _ _ => rfl)) (pa_cons (pe_ix ix_list (pv 3) pe_int (fun _ _ => rfl)) (pa_cons (pe_ix ix_list (pv 3) pe_int (fun _ _ => rfl)) pa_nil)))))
      (pss_cons (ps_if (pw_or (pt_cmpR op_ne (pe_callB (call_repr hgd hu66) (by rfl) Y.bRepr (by decide +kernel) (pa_cons (pv 3) pa_nil)) (pv 6) (nomark _)) (pw_or1 (pt_cmpR op_ne (pe_callB call_isi (by rfl) Y.bIsinstance boot_isinstance (pa_cons (pv 8) (pa_cons (pe_bltn (v := .ty "list") (u := .type "list") (by rfl) Y.bList (by decide +kernel) rfl) pa_nil))) (pe_cmp (pc_notN (pv 7))) (by rfl)))).pt (pss_one (ps_ret pe_bl)) pss_nil)
      (pss_cons (ps_if (pw_and (pt_cmp (pc_notN (pv 7))) (pw_and1 (pt_cmpR op_ne (pe_callB (call_repr hgd hu66) (by rfl) Y.bRepr (by decide +kernel) (pa_cons (pv 8) pa_nil)) (pe_callB (call_repr hgd hu66) (by rfl) Y.bRepr (by decide +kernel) (pa_cons (pv 7) pa_nil)) (nomark _)))).pt (pss_one (ps_ret pe_bl)) pss_nil)
      (pss_one (ps_if (pw_and (pt_cmp (pc_isN (pv 7))) (pw_and1 (pt_not (pt_val (pe_callG GRt hgd hr5 (by rfl) Y.gLawRight FRt.kp bRt (pa_cons (pv 8) (pa_cons (pe_ix ix_list (pv 3) pe_int (fun _ _ => rfl)) (pa_cons (pe_ix ix_list (pv 3) pe_int (fun _ _ => rfl)) (pa_cons (pe_ix ix_list (pv 3) pe_int (fun _ _ => rfl)) pa_nil))))))))).pt (pss_one (ps_ret pe_bl)) pss_nil))))))))
      (pss_cons (ps_setLc (i := 9) (own := [("_law_some", 11)]) (g := gName 11) (tt := tYes) (te := teGv K) rfl nd rfl rfl (by rfl) (pi_list (pv 4)) (blkOk_by (N := NLw) (sc := defScope sLaw) (by decide +kernel)) (fun _ _ _ _ _ => pg_name (i := 11) nd rfl (Or.inl rfl)) (fun _ _ _ _ _ => pts_nil) (fun _ _ _ _ _ => pe_callTy call_list_of (by rfl) Y.bList boot_list (pa_cons (pv 11) pa_nil)))
      (pss_cons (ps_set (i := 10) nd rfl (Or.inl rfl) (pe_make Y.mFrame GFI hr5 (by rfl) Y.gFrame bFI .nil passX (pa_cons (pe_ix ix_list (pv 9) pe_int (fun _ _ => rfl)) (pa_cons (pe_ix ix_list (pv 9) pe_int (fun _ _ => rfl)) (pa_cons (pe_ix ix_list (pv 9) pe_int (fun _ _ => rfl)) pa_nil)))))
      (pss_cons (ps_for PassesOwn.never rfl (pi_list (pe_op op_cat (pv 9) (pe_lst (pa_cons (pe_meth0 (pv 10) Y.cFrame Y.mFrame_Sorts GMs hr1 bMs .nil pass0) (pa_cons (pe_meth0 (pv 10) Y.cFrame Y.mFrame_Letters GMl hr1 bMl .nil pass0) (pa_cons (pe_meth0 (pv 10) Y.cFrame Y.mFrame_Totals GMt hr1 bMt .nil pass0) (pa_cons (pe_meth (pv 10) Y.cFrame Y.mFrame_TotalsFrom GTF hr3 bTF .nil passX (pa_cons (pe_ix ix_list (pe_ix ix_list (pv 4) pe_int (fun _ _ => rfl)) pe_int (fun _ _ => rfl)) pa_nil)) pa_nil))))))) (pg_name (i := 11) nd rfl (Or.inl rfl)) (pss_one (ps_expr (pe_bm PySem.F.plainAttrs_list PySem.F.slot_list_append PySem.F.type_list_append mt_append (pv 11) (pa_cons (pe_tup (pa_cons (pe_str) (pa_cons (pe_str) (pa_cons (pe_str) pa_nil)))) pa_nil)))))
      (pss_cons (ps_if (pw_or (pt_not (pt_val (pe_callG GRt hgd hr5 (by rfl) Y.gLawRight FRt.kp bRt (pa_cons (pv 10) (pa_cons (pe_ix ix_list (pv 4) pe_int (fun _ _ => rfl)) (pa_cons (pe_ix ix_list (pv 4) pe_int (fun _ _ => rfl)) (pa_cons (pe_ix ix_list (pv 4) pe_int (fun _ _ => rfl)) pa_nil))))))) (pw_or (pt_cmpR (op_own_eqT oEq) (pv 10) (pv 4) (nomark _)) (pw_or1 (pt_cmpR (op_own_eqT oEq) (pv 10) pe_int (nomark _))))).pt (pss_one (ps_ret pe_bl)) pss_nil)
      (pss_cons (ps_if (pt_cmpR opNe (pv 10) (pe_make Y.mFrame GFI hr5 (by rfl) Y.gFrame bFI .nil passX (pa_cons (pe_callTy call_tupA (by rfl) Y.bTuple (by decide +kernel) (pa_cons (pe_ix ix_list (pv 4) pe_int (fun _ _ => rfl)) pa_nil)) (pa_cons (pe_callTy call_tupA (by rfl) Y.bTuple (by decide +kernel) (pa_cons (pe_ix ix_list (pv 4) pe_int (fun _ _ => rfl)) pa_nil)) (pa_cons (pe_callTy call_tupA (by rfl) Y.bTuple (by decide +kernel) (pa_cons (pe_ix ix_list (pv 4) pe_int (fun _ _ => rfl)) pa_nil)) pa_nil)))) (by rfl)) (pss_one (ps_ret pe_bl)) pss_nil)
      (pss_cons (ps_if (pt_not (pt_val (pe_callG GRt hgd hr5 (by rfl) Y.gLawRight FRt.kp bRt (pa_cons (pe_make Y.mFrame GFI hr5 (by rfl) Y.gFrame bFI .nil passX (pa_cons (pe_lst pa_nil) (pa_cons (pe_lst pa_nil) (pa_cons (pe_lst pa_nil) pa_nil)))) (pa_cons (pe_lst pa_nil) (pa_cons (pe_lst pa_nil) (pa_cons (pe_lst pa_nil) pa_nil))))))) (pss_one (ps_ret pe_bl)) pss_nil)
      (pss_cons (ps_set (i := 12) nd rfl (Or.inl rfl) (pe_make Y.mFrame GFI hr5 (by rfl) Y.gFrame bFI .nil passX (pa_cons (pe_ix ix_list (pv 4) pe_int (fun _ _ => rfl)) (pa_cons (pe_ix ix_list (pv 4) pe_int (fun _ _ => rfl)) (pa_cons (pe_rev (pe_ix ix_list (pv 4) pe_int (fun _ _ => rfl)) (pe_un un_neg pe_int)) pa_nil)))))
      (pss_cons (ps_if (pt_cmpR op_ne (pe_cmpR (op_own_eqT oEq) (pv 12) (pv 10) (nomark _)) (pe_cmpR (op_eqD hu64) (pe_ix ix_list (pv 4) pe_int (fun _ _ => rfl)) (pe_rev (pe_ix ix_list (pv 4) pe_int (fun _ _ => rfl)) (pe_un un_neg pe_int)) (nomark _)) (by rfl)) (pss_one (ps_ret pe_bl)) pss_nil)
      (pss_cons (ps_set (i := 7) nd rfl (Or.inl rfl) (pe_cmpR op_eq (pe_callB (call_repr hgd hu66) (by rfl) Y.bRepr (by decide +kernel) (pa_cons (pv 3) pa_nil)) (pe_callB (call_repr hgd hu66) (by rfl) Y.bRepr (by decide +kernel) (pa_cons (pv 4) pa_nil)) (nomark _)))
      (pss_one (ps_ret (pe_or (pv 7) (pe_or (pe_cmp (pc_notN (pe_call GDu hr2 (by rfl) Y.gLawDue FDu.kp bDu .nil pass0 (pa_cons (pe_ix ix_list (pv 3) pe_int (fun _ _ => rfl)) (pa_cons (pe_ix ix_list (pv 3) pe_int (fun _ _ => rfl)) (pa_cons (pe_ix ix_list (pv 3) pe_int (fun _ _ => rfl)) pa_nil)))))) (pe_one (pe_cmpR opNe (pv 8) (pv 10) (nomark _))))))))))))))))))))))), ?_⟩
    obtain ⟨a, ns, rfl, ha, ln, k⟩ := h
    refine ⟨_, rfl, a, ns, rfl, ha, ln, fun d c H1 s1 hd hc src => ?_⟩
    dsimp only [gName]
    clear s1 hd hc
    -- the frame
    refine seq_any (fun σ' G => ∃ (e : Addr) (xs : List Str) (ls : List Lt) (n : Nat), σ' = lW a d e none none none none none none none none none none none ∧ SrcAt G d c ∧ FrAt K (hid d c G) e xs ls ∧ xs = ABC.take n ∧ 1 ≤ n ∧ n ≤ 3 ∧ 1 ≤ ls.length) ?_ ?_
    rotate_left
    · intro nx hnx
      refine ⟨_, rfl, _, rfl, d, c, 3, rfl, src, by decide, by decide, fun r G1 r0 r1 src1 keep1 => ?_⟩
      refine ⟨_, _, rfl, rfl, _, rfl, d, c, 4, rfl, src1, by decide, by decide, fun r2 G2 r20 r21 src2 keep2 => ?_⟩
      obtain ⟨j, rfl⟩ : ∃ j : Nat, r = (j : Int) := ⟨r.toNat, by omega⟩
      obtain ⟨j2, rfl⟩ : ∃ j : Nat, r2 = (j : Int) := ⟨r2.toNat, by omega⟩
      refine ⟨_, _, rfl, rfl, d, c, 1 + j, 1 + j2, by rw [show ((1 + j : Nat) : Int) = 1 + (j : Int) by omega, show ((1 + j2 : Nat) : Int) = 1 + (j2 : Int) by omega]; rfl, src2, by omega, by omega, by omega, by omega, fun e xs ls G3 src3 sm3 fr3 ex lm => ?_⟩
      exact hnx _ _ ⟨e, xs, ls, 1 + j, rfl, src3, fr3, ex, by omega, by omega, by omega⟩
    clear src H1
    rintro σ G0 ⟨e0, xs, ls, n, rfl, src0, fr0, ex, n1, n3, l1⟩
    -- its totals
    refine seq_any (fun σ' G => ∃ (e : Addr) (us : List Lt), σ' = lW a d e none none none none none none none none none none none ∧ SrcAt G d c ∧ FrT K (hid d c G) e xs ls (us.map totOf) ∧ Drawn xs ls us) ?_ ?_
    rotate_left
    · intro nx hnx
      refine ⟨_, rfl, _, rfl, d, c, e0, xs, ls, n, rfl, src0, fr0, ex, n3, fun e us G1 src1 sm1 frt dr => ?_⟩
      exact hnx _ _ ⟨e, us, rfl, src1, frt, dr⟩
    have lxs : 1 ≤ xs.length := by
      rw [ex, List.length_take]
      show 1 ≤ min n 3
      omega
    clear src0 fr0 ex n1 n3 n G0
    rintro σ G0 ⟨e, us, rfl, src0, frt, dr⟩
    clear e0
    -- the lists
    refine seq_any (fun σ' G => ∃ (L s l t : Addr), σ' = lW a d e (some (.ref L)) none none none none none none none none none none ∧ SrcAt G d c ∧ LsAt K (hid d c G) L s l t xs ls (us.map totOf) ∧ L ≠ l ∧ L ≠ t) ?_ ?_
    rotate_left
    · intro nx hnx
      obtain ⟨s, m, o, t, b, h1, h2, h3, h4, h5⟩ := frt
      have eG := hid_sub _ _ h1
      refine ⟨_, rfl, e, .ref s, rfl, fr_sorts eG, _, rfl, e, .ref o, rfl, fr_order eG, o, rfl, ⟨_, hid_sub.seq h4⟩, fun D hD => ?_⟩
      refine lc_list (K := K) (a := o) (xs := (ls.map (·.1)).map V.str) (fun i G => ∃ zs : List Addr, G D = some (.lst (zs.map V.ref)) ∧ AllT K G zs ((ls.take i).map ltV) ∧ Same G0 G) ⟨[], upd_same, AllT.nil, same_upd hD⟩ (fun i G _ ⟨_, _, _, p⟩ => p.seq (hid_sub.seq h4)) ?_ ?_
      · rintro i v G hi ⟨zs, ez, hA, sm⟩
        obtain ⟨x, ex1, rfl⟩ := str_at hi
        obtain ⟨q, eq, rfl⟩ : ∃ q, ls[i]? = some q ∧ x = q.1 := by
          rw [List.getElem?_map] at ex1
          cases z : ls[i]? with
          | none => rw [z] at ex1; cases ex1
          | some q => rw [z] at ex1; exact ⟨q, rfl, (Option.some.inj ex1).symm⟩
        have li := (List.getElem?_eq_some_iff.mp eq).1
        have l16 : ls.length ≤ 16 := by have := dr.ok.nl.n; rw [List.length_map] at this; exact this
        refine ⟨rfl, ?_⟩
        show teLw K _ _ _
        refine ⟨_, rfl, szl (by show 1 ≤ 1000; decide), fun T hT => ?_⟩
        have s2 := same_upd (o := .tup [V.str q.1]) hT
        have sm2 := sm.trans s2
        obtain ⟨tt, dg, st⟩ := (h3.same (hid_sub.trans sm2)).get dr.ok.nl.nd eq
        refine ⟨_, rfl, e, .ref m, rfl, fr_letters (sm2 _ _ eG), _, rfl, m, .ref tt, rfl, dg, ?_⟩
        refine cat_any (SqT.of upd_same) st (by show 1 + 2 ≤ 1000; decide) fun T2 H2 s3 hT2 => ?_
        have s23 := s2.trans s3
        have e3 := s23 _ _ ez
        refine ⟨_, e3, ?_, zs ++ [T2], ?_, ?_, same_put hD (sm.trans s23)⟩
        · have z := hA.1
          rw [List.length_map, List.length_take] at z
          rw [List.length_map]
          exact small1000 (by omega)
        · rw [upd_same, List.map_append]
          rfl
        · rw [List.take_add_one, eq, List.map_append]
          exact ((hA.same s23).snoc hT2).put e3
      · rintro G ⟨zs, ez, hA, sm⟩
        rw [List.length_map, List.length_map, List.take_length] at hA
        refine ⟨_, rfl, e, .ref t, rfl, fr_totals (sm _ _ eG), szl (by show 3 ≤ 1000; decide), fun L hL => ?_⟩
        have srcG := src_same sm src0
        obtain ⟨Dd, Dc⟩ := src_ne src0 hD
        obtain ⟨r1, s1, f1⟩ := new_hid (o := .lst [V.ref s, V.ref D, V.ref t]) srcG hL
        have sh := (hid_same (d := d) (c := c) sm).trans s1
        have hAh : AllT K (hid d c G) zs (ls.map ltV) := ⟨hA.1, fun i u z => by
          obtain ⟨vs, p1, p2⟩ := hA.2 i u z
          exact ⟨vs, p1, sqt_hid srcG p2⟩⟩
        obtain ⟨bs, et, _⟩ := h5
        refine hnx _ _ ⟨L, s, D, t, rfl, r1, ⟨f1, sh _ _ h2, ⟨zs, s1 _ _ ((hid_at Dd Dc).trans ez), hAh.same s1⟩, TupsM.same sh ⟨bs, et, by assumption⟩⟩, (ne_of_none ez hL).symm, (ne_of_none (hid_sub _ _ (hid_same (d := d) (c := c) sm _ _ et)) hL).symm⟩
    clear frt src0 G0
    rintro σ G0 ⟨L, s0, l, t, rfl, src0, la0, nl, nt⟩
    -- the other way round
    refine seq_any (fun σ' G => ∃ (s : Addr) (xs' : List Str), σ' = lW a d e (some (.ref L)) none none none none none none none none none none ∧ SrcAt G d c ∧ LsAt K (hid d c G) L s l t xs' ls (us.map totOf) ∧ Drawn xs' ls us ∧ 1 ≤ xs'.length) ?_ ?_
    rotate_left
    · intro nx hnx
      refine ⟨_, rfl, d, c, 2, rfl, src0, by decide, by decide, fun r G1 r0 r1 src1 keep1 => ⟨rfl, _, rfl, ?_⟩⟩
      have eh := hid_pick keep1
      rw [← eh] at la0
      refine ite2 (fun _ => ?_) (fun _ => hnx _ _ ⟨s0, xs, rfl, src1, la0, dr, lxs⟩)
      refine ⟨_, rfl, L, _, 0, .ref s0, rfl, rfl, SqL.of (hid_sub _ _ la0.L), rfl, _, rfl, rfl, s0, _, rfl, .inl ⟨SqL.of (hid_sub _ _ la0.s), fun p hp => ?_⟩⟩
      obtain ⟨r1, s1, f1⟩ := new_hid (o := .lst (xs.map V.str).reverse) src1 hp
      have la1 := la0.same s1
      have eL := hid_sub _ _ la1.L
      have np : L ≠ p := ne_of_none (hid_sub _ _ la0.L) hp
      obtain ⟨Ld, Lc⟩ : L ≠ d ∧ L ≠ c := by
        obtain ⟨ns', l', m', t', g1, _, g3⟩ := id src1
        have z := la0.L
        unfold hid at z
        by_cases q : L = d ∨ L = c
        · rw [if_pos q] at z
          cases z
        · exact ⟨fun h => q (.inl h), fun h => q (.inr h)⟩
      refine ⟨_, rfl, L, _, 0, 0, rfl, rfl, eL, rfl, ?_⟩
      have hput : ∀ {b : Addr} {o u : HO}, b ≠ L → hid d c (upd G1 p (.lst (xs.map V.str).reverse)) b = some u → hid d c (upd (upd G1 p (.lst (xs.map V.str).reverse)) L o) b = some u := fun {b o u} nb z => by
        rw [hid_upd Ld Lc]
        exact (upd_ne nb).trans z
      obtain ⟨as, el, hA⟩ := la1.l
      obtain ⟨bs, et, hB⟩ := la1.t
      refine hnx _ _ ⟨p, xs.reverse, rfl, src_put Ld Lc r1, ⟨?_, ?_, ⟨as, hput nl.symm el, ?_⟩, ⟨bs, hput nt.symm et, ?_⟩⟩, dr.revx, by rw [List.length_reverse]; exact lxs⟩
      · rw [hid_upd Ld Lc, upd_same]
        rfl
      · rw [hput np.symm f1, List.map_reverse]
      · rw [hid_upd Ld Lc]
        exact hA.put la1.L
      · rw [hid_upd Ld Lc]
        exact hB.put la1.L
    clear src0 la0 nl nt dr lxs xs G0 s0
    rintro σ G0 ⟨s, xs, rfl, src0, la0, dr, lxs⟩
    refine ⟨_, rfl, ?_⟩
    dsimp only [gName]
    change tSeq _ _ _ (lW a d e (some (.ref L)) (some (.ref L)) none none none none none none none none none) G0
    have in0 := dr.lsin l1
    have gd0 := dr.good
    -- bent lists
    refine seq_any (fun σ' G => ∃ (v5 v6 v7 : Option V) (v8 : V) (L' s' l' t' : Addr) (xs' : List Str) (ls' : List Lt) (ts' : List Tt), σ' = lW a d e (some (.ref L')) (some (.ref L)) v5 v6 v7 (some v8) none none none none none ∧ SrcAt G d c ∧ Same (hid d c G0) (hid d c G) ∧ LsAt K (hid d c G) L' s' l' t' xs' ls' ts' ∧ LsIn 50 xs' ls' ts' ∧
      (dueF xs' ls' ts' = none → ∃ x, v8 = .ref x ∧ FrmAt K (hid d c G) x xs' ls' ts')) ?_ ?_
    rotate_left
    · intro nx hnx
      refine ⟨_, rfl, d, c, 3, rfl, src0, by decide, by decide, fun r G1 r0 r1 src1 keep1 => ?_⟩
      obtain ⟨j, rfl⟩ : ∃ j : Nat, r = (j : Int) := ⟨r.toNat, by omega⟩
      have eh := hid_pick keep1
      refine ⟨_, _, rfl, rfl, _, rfl, by omega, by omega, ?_⟩
      rw [show (1 + (j : Int)).toNat = 1 + j by omega]
      refine for_range (lo := 0) (n := 1 + j) (fun i σ G => ∃ (v5 v6 v7 v8 : Option V) (L' s' l' t' : Addr) (xs' : List Str) (ls' : List Lt) (ts' : List Tt), σ = lW a d e (some (.ref L')) (some (.ref L)) v5 v6 v7 v8 none none none none none ∧ SrcAt G d c ∧ Same (hid d c G0) (hid d c G) ∧ LsAt K (hid d c G) L' s' l' t' xs' ls' ts' ∧ LsIn (16 + i) xs' ls' ts' ∧
        (1 ≤ i → ∃ u, v8 = some u ∧ (dueF xs' ls' ts' = none → ∃ x, u = .ref x ∧ FrmAt K (hid d c G) x xs' ls' ts'))) ⟨none, none, none, none, L, s, l, t, xs, ls, us.map totOf, rfl, src1, by rw [eh]; exact Same.refl _, by rw [eh]; exact la0, in0, fun h => absurd h (by decide)⟩ ?_ ?_
      · rintro i σ G hi ⟨v5, v6, v7, v8, L1, sa, la, ta, xa, lsa, tsa, rfl, srcG, smG, laA, inA, told0⟩
        clear told0
        dsimp only [gName]
        -- bent
        refine seq_any (fun σ' G' => ∃ (L' s' l' t' : Addr) (xs' : List Str) (ls' : List Lt) (ts' : List Tt), σ' = lW a d e (some (.ref L')) (some (.ref L)) (some (.int (0 + (i : Int)))) v6 v7 v8 none none none none none ∧ SrcAt G' d c ∧ Same (hid d c G0) (hid d c G') ∧ LsAt K (hid d c G') L' s' l' t' xs' ls' ts' ∧ LsIn (16 + (i + 1)) xs' ls' ts') ?_ ?_
        rotate_left
        · intro nx2 hnx2
          have z := laA.same hid_sub
          refine ⟨_, rfl, _, rfl, L1, _, 0, .ref sa, rfl, rfl, SqL.of z.L, rfl, _, rfl, L1, _, 1, .ref la, rfl, rfl, SqL.of z.L, rfl, _, rfl, L1, _, 2, .ref ta, rfl, rfl, SqL.of z.L, rfl, d, c, sa, la, ta, xa, lsa, tsa, 16 + i, rfl, srcG, laA.s, laA.l, laA.t, inA, by omega, fun L' s' l' t' xs' ls' ts' G2 src2 sm2 la2 in2 => ?_⟩
          exact hnx2 _ _ ⟨L', s', l', t', xs', ls', ts', rfl, src2, smG.trans sm2, la2, in2⟩
        clear srcG smG laA inA G
        rintro σ G ⟨L', s', l', t', xs', ls', ts', rfl, srcG, smG, laA, inA⟩
        have z0 := laA.same hid_sub
        have fi := inA.fi (by omega)
        have sw := tri_shw fi
        -- the text, the error
        refine seq_any (fun σ' G' => ∃ v7, σ' = lW a d e (some (.ref L')) (some (.ref L)) (some (.int (0 + (i : Int)))) (some (.str (triD xs' ls' ts').shown)) (some v7) v8 none none none none none ∧ Same G G' ∧ DueAt K G' (dueF xs' ls' ts') v7) ?_ ?_
        rotate_left
        · intro nx2 hnx2
          refine ⟨_, rfl, _, triD xs' ls' ts', rfl, tri_dp (SqL.of z0.L) (SqL.of z0.s) z0.l.at_ z0.t.at_, ⟨L', rfl⟩, sw.s, sw.k, sw.p, sw.l, ?_⟩
          refine ⟨_, rfl, L', _, 0, .ref s', rfl, rfl, SqL.of z0.L, rfl, _, rfl, L', _, 1, .ref l', rfl, rfl, SqL.of z0.L, rfl, _, rfl, L', _, 2, .ref t', rfl, rfl, SqL.of z0.L, rfl, s', l', t', xs', ls', ts', rfl, z0.s, z0.l.at_, z0.t.at_, fi, fun v H' s1 du => ?_⟩
          exact ⟨_, _, rfl, hnx2 _ _ ⟨v, rfl, s1, du⟩⟩
        clear v7
        rintro σ G2 ⟨v7, rfl, s2, du2⟩
        have z2 := z0.same s2
        -- told
        refine seq_any (fun σ' G' => ∃ v8, σ' = lW a d e (some (.ref L')) (some (.ref L)) (some (.int (0 + (i : Int)))) (some (.str (triD xs' ls' ts').shown)) (some v7) (some v8) none none none none none ∧ Same G2 G' ∧ ToldAt K G' xs' ls' ts' v8) ?_ ?_
        rotate_left
        · intro nx2 hnx2
          refine ⟨_, rfl, L', _, 0, .ref s', rfl, rfl, SqL.of z2.L, rfl, _, rfl, L', _, 1, .ref l', rfl, rfl, SqL.of z2.L, rfl, _, rfl, L', _, 2, .ref t', rfl, rfl, SqL.of z2.L, rfl, s', l', t', xs', ls', ts', rfl, .inl (SqL.of z2.s), TupsA.of z2.l.at_, TupsA.of z2.t.at_, fi, fun f ef a' H' s1 g => ?_, fun en x H' s1 g => ?_⟩
          · exact hnx2 _ _ ⟨.ref a', rfl, s1, (fun f' ef' => by rw [ef] at ef'; cases ef'; exact ⟨a', rfl, g⟩), (fun en => by rw [ef] at en; cases en)⟩
          · exact hnx2 _ _ ⟨.ref x, rfl, s1, (fun f' ef' => by rw [en] at ef'; cases ef'), fun _ => ⟨x, rfl, g⟩⟩
        clear v8
        rintro σ G3 ⟨v8, rfl, s3, told3⟩
        have s23 := s2.trans s3
        have z3 := z2.same s3
        have dp3 := tri_dp (SqL.of z3.L) (SqL.of z3.s) z3.l.at_ z3.t.at_
        have du3 : DueAt K G3 (dueF xs' ls' ts') v7 := by
          revert du2
          cases dueF xs' ls' ts' with
          | none => exact fun h => h
          | some f => exact fun ⟨a', e1, e2⟩ => ⟨a', e1, e2.same s3⟩
        clear du2
        -- nothing has changed; it is a list just if one is due
        refine seq_any (fun σ' G' => σ' = lW a d e (some (.ref L')) (some (.ref L)) (some (.int (0 + (i : Int)))) (some (.str (triD xs' ls' ts').shown)) (some v7) (some v8) none none none none none ∧ G' = G3) ?_ ?_
        rotate_left
        · intro nx2 hnx2
          refine ⟨_, rfl, _, triD xs' ls' ts', rfl, dp3, ⟨L', rfl⟩, sw.s, sw.k, sw.p, sw.l, _, rfl, rfl, _, rfl, ?_⟩
          rw [decide_eq_true rfl]
          refine iteF ?_
          obtain ⟨t1, t2⟩ := told3
          cases ed : dueF xs' ls' ts' with
          | some f =>
            rw [ed] at du3
            obtain ⟨a1, rfl, u, eu, _⟩ := t1 f ed
            obtain ⟨a2, rfl, _⟩ := du3
            refine ⟨_, rfl, _, _, _, _, true, rfl, .ty _, .base (.lst eu), kit_ty (by decide +kernel), _, rfl, rfl, _, rfl, ?_⟩
            exact iteF (hnx2 _ _ ⟨rfl, rfl⟩)
          | none =>
            rw [ed] at du3
            obtain ⟨x, rfl, hx⟩ := t2 ed
            obtain rfl : v7 = .non := du3
            refine ⟨_, rfl, _, _, _, _, false, rfl, .ty _, Y.insTy hx, of_decide_eq_true Y.x10, _, rfl, rfl, _, rfl, ?_⟩
            exact iteF (hnx2 _ _ ⟨rfl, rfl⟩)
        rintro σ G4 ⟨rfl, rfl⟩
        -- the same error
        refine seq_any (fun σ' G' => σ' = lW a d e (some (.ref L')) (some (.ref L)) (some (.int (0 + (i : Int)))) (some (.str (triD xs' ls' ts').shown)) (some v7) (some v8) none none none none none ∧ G' = G4) ?_ ?_
        rotate_left
        · intro nx2 hnx2
          obtain ⟨t1, t2⟩ := told3
          cases ed : dueF xs' ls' ts' with
          | some f =>
            rw [ed] at du3
            obtain ⟨a1, rfl, h1⟩ := t1 f ed
            obtain ⟨a2, rfl, h2⟩ := du3
            have fs := flt_shw (due_ok fi ed)
            refine ⟨_, rfl, _, rfl, iteT ?_⟩
            refine ⟨_, rfl, _, fltD f, rfl, flt_dp h1, ⟨a1, rfl⟩, fs.s, fs.k, fs.p, fs.l, _, rfl, _, fltD f, rfl, flt_dp h2, ⟨a2, rfl⟩, fs.s, fs.k, fs.p, fs.l, rfl, _, rfl, ?_⟩
            rw [decide_eq_true rfl]
            exact iteF (hnx2 _ _ ⟨rfl, rfl⟩)
          | none =>
            rw [ed] at du3
            obtain rfl : v7 = .non := du3
            exact ⟨_, rfl, _, rfl, iteF (iteF (hnx2 _ _ ⟨rfl, rfl⟩))⟩
        rintro σ G5 ⟨rfl, rfl⟩
        -- the frame is right
        have out : ∀ {G' : Hp}, Same G G' → (dueF xs' ls' ts' = none → ∃ x, v8 = .ref x ∧ FrmAt K G' x xs' ls' ts') → ∃ (u5 u6 u7 w8 : Option V) (L'' s'' l'' t'' : Addr) (xs'' : List Str) (ls'' : List Lt) (ts'' : List Tt), lW a d e (some (.ref L')) (some (.ref L)) (some (.int (0 + (i : Int)))) (some (.str (triD xs' ls' ts').shown)) (some v7) (some v8) none none none none none = lW a d e (some (.ref L'')) (some (.ref L)) u5 u6 u7 w8 none none none none none ∧ SrcAt G' d c ∧ Same (hid d c G0) (hid d c G') ∧ LsAt K (hid d c G') L'' s'' l'' t'' xs'' ls'' ts'' ∧ LsIn (16 + (i + 1)) xs'' ls'' ts'' ∧
            (1 ≤ i + 1 → ∃ u, w8 = some u ∧ (dueF xs'' ls'' ts'' = none → ∃ x, u = .ref x ∧ FrmAt K (hid d c G') x xs'' ls'' ts'')) := fun {G'} sm hx => by
          have sr := src_same sm srcG
          have sh := hid_same (d := d) (c := c) sm
          refine ⟨_, _, _, _, L', s', l', t', xs', ls', ts', rfl, sr, smG.trans sh, laA.same sh, inA, fun _ => ⟨v8, rfl, fun en => ?_⟩⟩
          obtain ⟨x, e1, e2⟩ := hx en
          exact ⟨x, e1, e2.hid sr⟩
        obtain ⟨t1, t2⟩ := told3
        cases ed : dueF xs' ls' ts' with
        | some f =>
          rw [ed] at du3
          obtain ⟨a2, rfl, h2⟩ := du3
          exact ⟨_, rfl, _, rfl, iteF (iteF (out s23 fun en => by rw [ed] at en; cases en))⟩
        | none =>
          rw [ed] at du3
          obtain rfl : v7 = .non := du3
          obtain ⟨x, rfl, hx⟩ := t2 ed
          refine ⟨_, rfl, _, rfl, iteT ?_⟩
          refine ⟨_, rfl, _, rfl, L', _, 0, .ref s', rfl, rfl, SqL.of z3.L, rfl, _, rfl, L', _, 1, .ref l', rfl, rfl, SqL.of z3.L, rfl, _, rfl, L', _, 2, .ref t', rfl, rfl, SqL.of z3.L, rfl, x, s', l', t', xs', ls', ts', rfl, hx, ⟨fi, ed⟩, SqL.of z3.s, z3.l.at_, z3.t.at_, inA.nx, inA.nl, fun H' s4 => ?_⟩
          exact ⟨_, rfl, iteF (out (s23.trans s4) fun _ => ⟨x, rfl, hx.same s4⟩)⟩
      · rintro σ G ⟨v5, v6, v7, v8, L', s', l', t', xs', ls', ts', rfl, srcG, smG, laA, inA, told⟩
        obtain ⟨u, rfl, hu'⟩ := told (by omega)
        exact hnx _ _ ⟨v5, v6, v7, u, L', s', l', t', xs', ls', ts', rfl, srcG, smG, laA, inA.mono (by omega), hu'⟩
    rintro σ B ⟨v5, v6, v7, v8, L', s', l', t', xs', ls', ts', rfl, srcB, smB, laB, inB, told⟩
    replace told : dueF xs' ls' ts' = none → ∃ x, v8 = .ref x ∧ FrmAt K B x xs' ls' ts' := fun en => by
      obtain ⟨x, e1, e2⟩ := told en
      exact ⟨x, e1, e2.same hid_sub⟩
    replace laB := laB.same hid_sub
    have la1 := (la0.same smB).same hid_sub
    clear la0 smB srcB src0 G0
    have la1s := la1.s
    obtain ⟨as, el, hA⟩ := la1.l
    obtain ⟨bs, et, hB⟩ := la1.t
    have la_ : as.length = ls.length := by rw [hA.1, List.length_map]
    have lb_ : bs.length = us.length := by rw [hB.1, List.length_map, List.length_map]
    have x16 := in0.lx
    have l16 := in0.ll
    have t16 := in0.lt
    rw [List.length_map] at t16
    -- copies
    refine seq_any (fun σ' G => ∃ (D g1 g2 g3 : Addr), σ' = lW a d e (some (.ref L')) (some (.ref L)) v5 v6 v7 (some v8) (some (.ref D)) none none none none ∧ Same B G ∧ B D = none ∧ G D = some (.lst [.ref g1, .ref g2, .ref g3]) ∧ (B g1 = none ∧ g1 ≠ D ∧ G g1 = some (.lst (xs.map V.str))) ∧ (B g2 = none ∧ g2 ≠ D ∧ G g2 = some (.lst (as.map V.ref))) ∧ (B g3 = none ∧ g3 ≠ D ∧ G g3 = some (.lst (bs.map V.ref)))) ?_ ?_
    rotate_left
    · intro nx hnx
      refine ⟨_, rfl, L, rfl, ⟨_, SqL.of la1.L⟩, fun D hD => ?_⟩
      refine lc_list (K := K) (a := L) (xs := [V.ref s, V.ref l, V.ref t]) (fun i G => ∃ gs : List Addr, G D = some (.lst (gs.map V.ref)) ∧ gs.length = i ∧ (∀ (j : Nat) (g : Addr), gs[j]? = some g → B g = none ∧ g ≠ D ∧ ∃ zs, ([xs.map V.str, as.map V.ref, bs.map V.ref] : List (List V))[j]? = some zs ∧ G g = some (.lst zs)) ∧ Same B G) ⟨[], upd_same, rfl, fun j g z => (by cases z), same_upd hD⟩ (fun i G _ ⟨_, _, _, _, p⟩ => p.seq (SqL.of la1.L)) ?_ ?_
      · rintro i v G hi ⟨gs, eD, lg, hg, sm⟩
        obtain ⟨r, zs, rfl, hr, hz⟩ : ∃ (r : Addr) (zs : List V), v = .ref r ∧ B r = some (.lst zs) ∧ ([xs.map V.str, as.map V.ref, bs.map V.ref] : List (List V))[i]? = some zs := by
          match i, hi with
          | 0, hi => cases hi; exact ⟨s, _, rfl, la1s, rfl⟩
          | 1, hi => cases hi; exact ⟨l, _, rfl, el, rfl⟩
          | 2, hi => cases hi; exact ⟨t, _, rfl, et, rfl⟩
          | i + 3, hi => cases hi
        have i3 := (List.getElem?_eq_some_iff.mp hz).1
        replace i3 : i < 3 := i3
        refine ⟨rfl, _, rfl, r, zs, rfl, .inl (SqL.of (sm _ _ hr)), fun p hp => ?_⟩
        have sp := same_upd (o := .lst zs) hp
        have eD2 := sp _ _ eD
        refine ⟨_, eD2, by rw [List.length_map]; exact small1000 (by omega), gs ++ [p], by rw [upd_same, List.map_append]; rfl, by rw [List.length_append, lg]; rfl, fun j g ej => ?_, same_put hD (sm.trans sp)⟩
        by_cases lt : j < gs.length
        · rw [List.getElem?_append_left lt] at ej
          obtain ⟨q1, q2, zs', q3, q4⟩ := hg j g ej
          exact ⟨q1, q2, zs', q3, (upd_ne q2).trans (sp _ _ q4)⟩
        · rw [List.getElem?_append_right (by omega)] at ej
          have j0 : j - gs.length = 0 := by
            cases z : j - gs.length with
            | zero => rfl
            | succ m => rw [z] at ej; cases ej
          rw [j0] at ej
          obtain rfl : p = g := Option.some.inj ej
          obtain rfl : j = i := by omega
          have npD : p ≠ D := (ne_of_none eD hp).symm
          exact ⟨none_of sm hp, npD, zs, hz, (upd_ne npD).trans upd_same⟩
      · rintro G ⟨gs, eD, lg, hg, sm⟩
        match gs, lg with
        | [g1, g2, g3], _ =>
          obtain ⟨p1, p2, z1, p3, p4⟩ := hg 0 g1 rfl
          obtain ⟨q1, q2, z2, q3, q4⟩ := hg 1 g2 rfl
          obtain ⟨r1, r2, z3, r3, r4⟩ := hg 2 g3 rfl
          cases p3
          cases q3
          cases r3
          exact hnx _ _ ⟨D, g1, g2, g3, rfl, sm, hD, eD, ⟨p1, p2, p4⟩, ⟨q1, q2, q4⟩, ⟨r1, r2, r4⟩⟩
    rintro σ G1 ⟨D, g1, g2, g3, rfl, s1, hD, eD, ⟨b1, nD1, e1⟩, ⟨b2, nD2, e2⟩, ⟨b3, nD3, e3⟩⟩
    -- built
    refine seq_any (fun σ' G => ∃ b, σ' = lW a d e (some (.ref L')) (some (.ref L)) v5 v6 v7 (some v8) (some (.ref D)) (some (.ref b)) none none none ∧ Same G1 G ∧ FrmAt K G b xs ls (us.map totOf)) ?_ ?_
    rotate_left
    · intro nx hnx
      refine ⟨_, rfl, D, _, 0, .ref g1, rfl, rfl, SqL.of eD, rfl, _, rfl, D, _, 1, .ref g2, rfl, rfl, SqL.of eD, rfl, _, rfl, D, _, 2, .ref g3, rfl, rfl, SqL.of eD, rfl, ?_⟩
      exact mk_fr2 (.inl (SqL.of e1)) (TupsT.tups' (.inl (SqL.of e2)) (hA.same s1)) (TupsT.tups' (.inl (SqL.of e3)) (hB.same s1)) gd0.fi (fun f e => by rw [gd0.no] at e; cases e) fun _ b H1 s2 hb hF => hnx _ _ ⟨b, rfl, s2, hF⟩
    rintro σ G2 ⟨b, rfl, s2, hF2⟩
    have s12 := s1.trans s2
    -- what is told is changed
    refine seq_any (fun σ' G => ∃ v11, σ' = lW a d e (some (.ref L')) (some (.ref L)) v5 v6 v7 (some v8) (some (.ref D)) (some (.ref b)) v11 none none ∧ Same B G ∧ FrmAt K G b xs ls (us.map totOf)) ?_ ?_
    rotate_left
    · intro nx hnx
      obtain ⟨dx, sa, la0, ta, ma, hx, _⟩ := id hF2
      refine ⟨_, rfl, _, rfl, b, dx, _, rfl, hx, rfl, b, xs, ls, us.map totOf, rfl, hF2, fun r1 H1 t1 hr1' f1 => ?_⟩
      refine ⟨_, rfl, b, dx, _, rfl, t1 _ _ hx, rfl, b, xs, ls, us.map totOf, rfl, hF2.same t1, fun r2 as2 H2 t2 hr2' f2 hA2 => ?_⟩
      have t12 := t1.trans t2
      refine ⟨_, rfl, b, dx, _, rfl, t12 _ _ hx, rfl, b, xs, ls, us.map totOf, rfl, hF2.same t12, fun r3 as3 H3 t3 hr3' f3 hA3 => ?_⟩
      have t13 := t12.trans t3
      have sA := s12.trans t13
      have ex0 : xs[0]? = some (xs[0]'(by omega)) := List.getElem?_eq_getElem _
      refine ⟨_, rfl, b, dx, _, rfl, t13 _ _ hx, rfl, _, rfl, L, _, 0, .ref s, rfl, rfl, SqL.of (sA _ _ la1.L), rfl, s, _, ((0 : Nat) : Int), .str (xs[0]'(by omega)), rfl, rfl, SqL.of (sA _ _ la1s), str_ix (by omega), ?_⟩
      refine ⟨b, .str (xs[0]'(by omega)), .str (xs[0]'(by omega)), xs, ls, us.map totOf, rfl, hF2.same t13, gd0, .str _, fun z => ?_, fun z hz ev r4 as4 H4 t4 hr4' f4 hA4 => ?_⟩
      · exfalso
        rw [isTx_str, decide_eq_true (List.getElem_mem _)] at z
        cases z
      have t14 := t13.trans t4
      refine ⟨szl (by show 4 ≤ 1000; decide), fun p hp => ?_⟩
      have t5 := same_upd (o := .lst [V.ref r1, V.ref r2, V.ref r3, V.ref r4]) hp
      have t15 := t14.trans t5
      refine ⟨D, p, _, _, rfl, rfl, (s2.trans t15) _ _ eD, upd_same, szl (by show 3 + 4 ≤ 1000; decide), fun q hq => ⟨q, rfl, ⟨_, SqL.of upd_same⟩, ?_⟩⟩
      have t6 := same_upd (o := .lst ([V.ref g1, V.ref g2, V.ref g3] ++ [V.ref r1, V.ref r2, V.ref r3, V.ref r4])) hq
      have t16' := t15.trans t6
      have sB6 := s12.trans t16'
      have ne : ∀ {g : Addr} {o : HO} {G : Hp}, G g = some o → G q = none → g ≠ q := fun h1 h2 => ne_of_none h1 h2
      have it : ∀ g ∈ [g1, g2, g3, r1, r2, r3, r4], B g = none ∧ g ≠ q ∧ ∃ zs, (upd (upd H4 p (.lst [V.ref r1, V.ref r2, V.ref r3, V.ref r4])) q (.lst ([V.ref g1, V.ref g2, V.ref g3] ++ [V.ref r1, V.ref r2, V.ref r3, V.ref r4]))) g = some (.lst zs) ∧ zs.length ≤ 100 := by
        have go : ∀ {g : Addr} {zs : List V}, (upd H4 p (.lst [V.ref r1, V.ref r2, V.ref r3, V.ref r4])) g = some (.lst zs) → B g = none → zs.length ≤ 100 → B g = none ∧ g ≠ q ∧ ∃ zs, (upd (upd H4 p (.lst [V.ref r1, V.ref r2, V.ref r3, V.ref r4])) q (.lst ([V.ref g1, V.ref g2, V.ref g3] ++ [V.ref r1, V.ref r2, V.ref r3, V.ref r4]))) g = some (.lst zs) ∧ zs.length ≤ 100 := fun h1 h2 h3 => ⟨h2, ne_of_none h1 hq, _, t6 _ _ h1, h3⟩
        have n1 : B r1 = none := none_of s12 hr1'
        have n2 : B r2 = none := none_of (s12.trans t1) hr2'
        have n3 : B r3 = none := none_of (s12.trans t12) hr3'
        have n4 : B r4 = none := none_of (s12.trans t13) hr4'
        have m2 : as2.length ≤ 100 := by rw [hA2.1, List.length_map]; omega
        have m3 : as3.length ≤ 100 := by rw [hA3.1, List.length_map, List.length_map]; omega
        have m4 : as4.length ≤ 100 := by
          rw [hA4.1, List.length_map]
          have := List.length_filter_le (fun t => decide ((stepOf (endOf ls t.1) t).1 = z)) (us.map totOf)
          rw [List.length_map] at this
          unfold tfs
          omega
        intro g hg
        simp only [List.mem_cons, List.not_mem_nil, or_false] at hg
        rcases hg with rfl | rfl | rfl | rfl | rfl | rfl | rfl
        · exact go ((s2.trans t15) _ _ e1) b1 (by rw [List.length_map]; omega)
        · exact go ((s2.trans t15) _ _ e2) b2 (by rw [List.length_map]; omega)
        · exact go ((s2.trans t15) _ _ e3) b3 (by rw [List.length_map]; omega)
        · exact go ((t2.trans (t3.trans (t4.trans t5))) _ _ f1) n1 (by rw [List.length_map]; omega)
        · exact go ((t3.trans (t4.trans t5)) _ _ f2) n2 (by rw [List.length_map]; omega)
        · exact go ((t4.trans t5) _ _ f3) n3 (by rw [List.length_map]; omega)
        · exact go (t5 _ _ f4) n4 (by rw [List.length_map]; omega)
      refine for_list (K := K) (a := q) (xs := [g1, g2, g3, r1, r2, r3, r4].map V.ref) (fun i σ G => (∃ v11, σ = lW a d e (some (.ref L')) (some (.ref L)) v5 v6 v7 (some v8) (some (.ref D)) (some (.ref b)) v11 none none) ∧ Same B G ∧ FrmAt K G b xs ls (us.map totOf) ∧ G q = some (.lst ([g1, g2, g3, r1, r2, r3, r4].map V.ref)) ∧ ∀ g ∈ [g1, g2, g3, r1, r2, r3, r4], B g = none ∧ g ≠ q ∧ ∃ zs, G g = some (.lst zs) ∧ zs.length ≤ 100 + i)
        ⟨⟨none, rfl⟩, sB6, hF2.same t16', upd_same, it⟩ (fun i σ G _ z => SqL.of z.2.2.2.1) ?_ ?_
      · rintro i v σ G hi ⟨⟨v11, rfl⟩, sm, hF, eq, hg⟩
        obtain ⟨g, eg, rfl⟩ := ref_at hi
        have li : i < 7 := (List.getElem?_eq_some_iff.mp eg).1
        obtain ⟨n1, n2, zs, ez, lz⟩ := hg g (List.mem_of_getElem? eg)
        refine ⟨_, rfl, .inl ⟨rfl, _, SqL.of ez⟩, szl (by show 3 ≤ 1000; decide), fun T hT => ?_⟩
        have sT := same_upd (o := .tup [V.str "x", V.str "a", V.str "a"]) hT
        have ez2 := sT _ _ ez
        refine ⟨g, _, _, rfl, rfl, ez2, small1000 (by omega), ⟨_, rfl⟩, same_put n1 (sm.trans sT), (hF.same sT).putL ez2, (upd_ne n2.symm).trans (sT _ _ eq), fun g' hg' => ?_⟩
        obtain ⟨m1, m2, zs', ez', lz'⟩ := hg g' hg'
        refine ⟨m1, m2, ?_⟩
        by_cases c : g' = g
        · subst c
          exact ⟨_, upd_same, by rw [List.length_append]; show zs.length + 1 ≤ 100 + (i + 1); omega⟩
        · exact ⟨zs', (upd_ne c).trans (sT _ _ ez'), by omega⟩
      · rintro σ G ⟨⟨v11, rfl⟩, sm, hF, _⟩
        exact hnx _ _ ⟨v11, rfl, sm, hF⟩
    clear s12 hF2 s2 G2 s1 hD eD b1 nD1 e1 b2 nD2 e2 b3 nD3 e3 G1
    rintro σ C ⟨v11, rfl, sC, hF⟩
    have lC := la1.same sC
    have lBC := laB.same sC
    obtain ⟨dx, sa, la0, ta, ma, hx, _⟩ := id hF
    have fi0 := gd0.fi
    have nf : ∀ T, T ∈ ["list", "int"] → PySem.W.notFirst K (CFrame K) (.type T) = true := fun T hT => (an (List.all_eq_true.mp Y.x9 T hT)).2
    -- right, and like nothing else
    refine seq_any (fun σ' G => σ' = lW a d e (some (.ref L')) (some (.ref L)) v5 v6 v7 (some v8) (some (.ref D)) (some (.ref b)) v11 none none ∧ Same C G) ?_ ?_
    rotate_left
    · intro nx hnx
      refine ⟨_, rfl, _, rfl, L, _, 0, .ref s, rfl, rfl, SqL.of lC.L, rfl, _, rfl, L, _, 1, .ref l, rfl, rfl, SqL.of lC.L, rfl, _, rfl, L, _, 2, .ref t, rfl, rfl, SqL.of lC.L, rfl, b, s, l, t, xs, ls, us.map totOf, rfl, hF, gd0, SqL.of lC.s, lC.l.at_, lC.t.at_, in0.nx, in0.nl, fun H' s1 => ⟨_, rfl, iteF ?_⟩⟩
      refine ⟨_, rfl, _, rfl, b, dx, _, .type "list", rfl, s1 _ _ hx, .inr (.lst (SqL.of (s1 _ _ lC.L))), nf "list" (by simp), b, .ref L, xs, ls, us.map totOf, rfl, hF.same s1, fi0, .inr ⟨_, .lst (SqL.of (s1 _ _ lC.L)), _, rfl, iteF ?_⟩⟩
      refine ⟨_, rfl, b, dx, _, .type "int", rfl, s1 _ _ hx, .inr (.int 0), nf "int" (by simp), b, .int 0, xs, ls, us.map totOf, rfl, hF.same s1, fi0, .inr ⟨_, .int 0, _, rfl, iteF ?_⟩⟩
      exact hnx _ _ ⟨rfl, s1⟩
    rintro σ C1 ⟨rfl, s1⟩
    -- the same of tuples
    refine seq_any (fun σ' G => σ' = lW a d e (some (.ref L')) (some (.ref L)) v5 v6 v7 (some v8) (some (.ref D)) (some (.ref b)) v11 none none ∧ Same C G) ?_ ?_
    rotate_left
    · intro nx hnx
      have z1 := lC.same s1
      refine ⟨_, rfl, _, rfl, L, _, 0, .ref s, rfl, rfl, SqL.of z1.L, rfl, s, _, rfl, .inl (SqL.of z1.s), fun T1 H1 t1 h1 => ?_⟩
      have z2 := z1.same t1
      obtain ⟨as2, el2, hA2⟩ := z2.l
      refine ⟨_, rfl, L, _, 1, .ref l, rfl, rfl, SqL.of z2.L, rfl, l, _, rfl, .inl (SqL.of el2), fun T2 H2 t2 h2 => ?_⟩
      have z3 := z2.same t2
      obtain ⟨bs3, et3, hB3⟩ := z3.t
      refine ⟨_, rfl, L, _, 2, .ref t, rfl, rfl, SqL.of z3.L, rfl, t, _, rfl, .inl (SqL.of et3), fun T3 H3 t3 h3 => ?_⟩
      refine mk_fr2 (.inr (sqt_same (t2.trans t3) h1)) (TupsT.tups' (.inr (sqt_same t3 h2)) (hA2.same (t2.trans t3))) (TupsT.tups' (.inr h3) (hB3.same t3)) gd0.fi (fun f e => by rw [gd0.no] at e; cases e) fun _ b2 H4 t4 hb hF2 => ?_
      have sA := s1.trans (t1.trans (t2.trans (t3.trans t4)))
      obtain ⟨dx2, sa2, la2, ta2, ma2, hx2, _⟩ := id hF2
      refine ⟨b, b2, dx, dx2, _, _, rfl, rfl, sA _ _ hx, hx2, b, .ref b2, xs, ls, us.map totOf, rfl, hF.same sA, fi0, .inl ⟨b2, xs, ls, us.map totOf, rfl, hF2, fi0, ?_⟩⟩
      rw [decide_eq_true ⟨rfl, rfl, rfl⟩]
      exact ⟨true, rfl, _, rfl, iteF (hnx _ _ ⟨rfl, sA⟩)⟩
    clear s1 C1
    rintro σ C1 ⟨rfl, s1⟩
    -- nothing at all
    refine seq_any (fun σ' G => σ' = lW a d e (some (.ref L')) (some (.ref L)) v5 v6 v7 (some v8) (some (.ref D)) (some (.ref b)) v11 none none ∧ Same C G) ?_ ?_
    rotate_left
    · intro nx hnx
      have gdE : Good [] [] [] := ⟨⟨fun x h => absurd h List.not_mem_nil, fun x h => absurd h List.not_mem_nil, fun x h => absurd h List.not_mem_nil, by decide, by decide, by decide⟩, rfl⟩
      refine ⟨szl (by show 0 ≤ 1000; decide), fun p1 hp1 => ?_⟩
      have t1 := same_upd (o := .lst []) hp1
      refine ⟨szl (by show 0 ≤ 1000; decide), fun p2 hp2 => ?_⟩
      have t2 := same_upd (o := .lst []) hp2
      refine ⟨szl (by show 0 ≤ 1000; decide), fun p3 hp3 => ?_⟩
      have t3 := same_upd (o := .lst []) hp3
      have s14 := s1.trans (t1.trans (t2.trans t3))
      refine mk_fr2 (xs := []) (ls := []) (ts := []) (.inl (SqL.of ((t2.trans t3) _ _ upd_same))) (TupsT.tups' (us := []) (.inl (SqL.of (t3 _ _ upd_same))) AllT.nil) (TupsT.tups' (us := []) (.inl (SqL.of upd_same)) AllT.nil) gdE.fi (fun f e => by cases e) fun _ b2 H4 t4 hb hF2 => ?_
      refine ⟨szl (by show 0 ≤ 1000; decide), fun p4 hp4 => ?_⟩
      have t5 := same_upd (o := .lst []) hp4
      refine ⟨szl (by show 0 ≤ 1000; decide), fun p5 hp5 => ?_⟩
      have t6 := same_upd (o := .lst []) hp5
      refine ⟨szl (by show 0 ≤ 1000; decide), fun p6 hp6 => ?_⟩
      have t7 := same_upd (o := .lst []) hp6
      refine ⟨b2, p4, p5, p6, [], [], [], rfl, hF2.same (t5.trans (t6.trans t7)), gdE, SqL.of ((t6.trans t7) _ _ upd_same), (AllT.nil (K := K)).tups (us := []) (SqL.of (t7 _ _ upd_same)), (AllT.nil (K := K)).tups (us := []) (SqL.of upd_same), fun x h => absurd h List.not_mem_nil, fun x h => absurd h List.not_mem_nil, fun H' t8 => ⟨_, rfl, iteF ?_⟩⟩
      exact hnx _ _ ⟨rfl, s14.trans (t4.trans (t5.trans (t6.trans (t7.trans t8))))⟩
    clear s1 C1
    rintro σ C1 ⟨rfl, s1⟩
    -- the totals the other way round
    have gdR := dr.revu.good
    refine seq_any (fun σ' G => ∃ o, σ' = lW a d e (some (.ref L')) (some (.ref L)) v5 v6 v7 (some v8) (some (.ref D)) (some (.ref b)) v11 (some (.ref o)) none ∧ Same C G ∧ FrmAt K G o xs ls (us.reverse.map totOf)) ?_ ?_
    rotate_left
    · intro nx hnx
      have z1 := lC.same s1
      obtain ⟨as2, el2, hA2⟩ := z1.l
      obtain ⟨bs2, et2, hB2⟩ := z1.t
      refine ⟨_, rfl, L, _, 0, .ref s, rfl, rfl, SqL.of z1.L, rfl, _, rfl, L, _, 1, .ref l, rfl, rfl, SqL.of z1.L, rfl, _, rfl, L, _, 2, .ref t, rfl, rfl, SqL.of z1.L, rfl, _, rfl, rfl, t, _, rfl, .inl ⟨SqL.of et2, fun p hp => ?_⟩⟩
      have tp := same_upd (o := .lst (bs2.map V.ref).reverse) hp
      have hR : AllT K (upd C1 p (.lst (bs2.map V.ref).reverse)) bs2.reverse ((us.reverse.map totOf).map ttV) := by
        rw [List.map_reverse, List.map_reverse]
        exact (hB2.same tp).rev
      refine mk_fr2 (.inl (SqL.of (tp _ _ z1.s))) (TupsT.tups' (.inl (SqL.of (tp _ _ el2))) (hA2.same tp)) (TupsT.tups' (us := bs2.reverse) (.inl (SqL.of (by rw [List.map_reverse]; exact upd_same))) hR) gdR.fi (fun f e => by rw [gdR.no] at e; cases e) fun _ b2 H4 t4 hb hF2 => ?_
      exact hnx _ _ ⟨b2, rfl, s1.trans (tp.trans t4), hF2⟩
    clear s1 C1
    rintro σ C1 ⟨o, rfl, s1, hFo⟩
    refine seq_any (fun σ' G => σ' = lW a d e (some (.ref L')) (some (.ref L)) v5 v6 v7 (some v8) (some (.ref D)) (some (.ref b)) v11 (some (.ref o)) none ∧ Same C G) ?_ ?_
    rotate_left
    · intro nx hnx
      have z1 := lC.same s1
      obtain ⟨bs2, et2, hB2⟩ := z1.t
      obtain ⟨dx2, sa2, la2, ta2, ma2, hx2, _⟩ := id hFo
      refine ⟨_, rfl, _, rfl, o, dx2, _, .ref (CFrame K), rfl, hx2, .inl ⟨b, dx, _, rfl, s1 _ _ hx, rfl⟩, by simp [PySem.W.notFirst], o, .ref b, xs, ls, us.reverse.map totOf, rfl, hFo, gdR.fi, .inl ⟨b, xs, ls, us.map totOf, rfl, hF.same s1, fi0, ?_⟩⟩
      refine ⟨_, rfl, L, _, 2, .ref t, rfl, rfl, SqL.of z1.L, rfl, _, rfl, L, _, 2, .ref t, rfl, rfl, SqL.of z1.L, rfl, _, rfl, rfl, t, _, rfl, .inl ⟨SqL.of et2, fun p hp => ?_⟩⟩
      have tp := same_upd (o := .lst (bs2.map V.ref).reverse) hp
      have h1 := hB2.same tp
      have hR : AllT K (upd C1 p (.lst (bs2.map V.ref).reverse)) bs2.reverse ((us.reverse.map totOf).map ttV) := by
        rw [List.map_reverse, List.map_reverse]
        exact h1.rev
      rw [rows_tt] at h1 hR
      refine ⟨.list (((us.map totOf).map ttS).map rowD), .list (((us.reverse.map totOf).map ttS).map rowD), .lst (SqL.of (tp _ _ et2)) (dpa_rows h1), .lst (SqL.of (by rw [List.map_reverse]; exact upd_same)) (dpa_rows hR), shp_rowsL (okr_tt fi0.ot), shp_rowsL (okr_tt gdR.fi.ot), ?_⟩
      rw [eqv_lrows]
      have ee : decide (xs = xs ∧ ls = ls ∧ us.reverse.map totOf = us.map totOf) = decide ((us.map totOf).map ttS = (us.reverse.map totOf).map ttS) := by
        by_cases c : us.reverse.map totOf = us.map totOf
        · rw [decide_eq_true ⟨rfl, rfl, c⟩, decide_eq_true (congrArg _ c.symm)]
        · rw [decide_eq_false (fun z => c z.2.2), decide_eq_false (fun z => c (map_inj' ttS_inj z).symm)]
      refine ⟨rfl, _, rfl, ?_⟩
      rw [ee, decide_eq_true rfl]
      exact iteF (hnx _ _ ⟨rfl, s1.trans tp⟩)
    clear s1 C1 hFo
    rintro σ C1 ⟨rfl, s1⟩
    -- the texts
    have zL := lC.same s1
    have zB := lBC.same s1
    have fiB := inB.fi (by decide)
    have sw0 := tri_shw fi0
    have swB := tri_shw fiB
    refine seq_any (fun σ' G => σ' = lW a d e (some (.ref L')) (some (.ref L)) v5 v6 (some (.bl (decide (V.str (triD xs' ls' ts').shown = V.str (triD xs ls (us.map totOf)).shown)))) (some v8) (some (.ref D)) (some (.ref b)) v11 (some (.ref o)) none ∧ G = C1) ?_ ?_
    rotate_left
    · intro nx hnx
      refine ⟨_, rfl, _, triD xs' ls' ts', rfl, tri_dp (SqL.of zB.L) (SqL.of zB.s) zB.l.at_ zB.t.at_, ⟨L', rfl⟩, swB.s, swB.k, swB.p, swB.l, _, rfl, _, triD xs ls (us.map totOf), rfl, tri_dp (SqL.of zL.L) (SqL.of zL.s) zL.l.at_ zL.t.at_, ⟨L, rfl⟩, sw0.s, sw0.k, sw0.p, sw0.l, rfl, ?_⟩
      exact hnx _ _ ⟨rfl, rfl⟩
    rintro σ G ⟨rfl, rfl⟩
    refine ⟨_, rfl, _, rfl, ?_⟩
    by_cases c : V.str (triD xs' ls' ts').shown = V.str (triD xs ls (us.map totOf)).shown
    · rw [decide_eq_true c, if_pos rfl]
      exact k _
    rw [decide_eq_false c, if_neg Bool.false_ne_true]
    refine ⟨_, rfl, L', _, 0, .ref s', rfl, rfl, SqL.of zB.L, rfl, _, rfl, L', _, 1, .ref l', rfl, rfl, SqL.of zB.L, rfl, _, rfl, L', _, 2, .ref t', rfl, rfl, SqL.of zB.L, rfl, s', l', t', xs', ls', ts', rfl, zB.s, zB.l.at_, zB.t.at_, fiB, fun v H' s2 du => ?_⟩
    cases ed : dueF xs' ls' ts' with
    | some f =>
      rw [ed] at du
      obtain ⟨a2, rfl, _⟩ := du
      exact ⟨_, rfl, iteT (k _)⟩
    | none =>
      rw [ed] at du
      obtain rfl : v = .non := du
      refine ⟨_, rfl, iteF ?_⟩
      obtain ⟨x, rfl, hX⟩ := told ed
      have s12 := s1.trans s2
      have sB := sC.trans s12
      obtain ⟨dx2, sa2, la2, ta2, ma2, hx2, _⟩ := id (hX.same sB)
      refine ⟨_, rfl, _, rfl, x, b, dx2, dx, _, _, rfl, rfl, hx2, s12 _ _ hx, x, .ref b, xs', ls', ts', rfl, hX.same sB, fiB, .inl ⟨b, xs, ls, us.map totOf, rfl, hF.same s12, fi0, ?_⟩⟩
      rw [decide_eq_false (fun z => c (by rw [z.1, z.2.1, z.2.2]))]
      exact ⟨false, rfl, k _⟩
end
end K22

namespace K22
open PySem PySem.Spec PyProof.Rows L2 Ow
/-! ### the end: the law's def is called at the bottom, where nothing is being shown -/
section
variable {P : Program} {w : World} {K : PySem.W.Frag} {mg mb : Str → Option Value} {f a : Addr} {fd : FuncData} {s : Shared} {us : List Value} {ks : List Int}
/-- what the row asks of that call -/
def Done (P : Program) (w : World) (f a : Addr) (s : Shared) : Prop :=
  codeAny (model P w) callerA (.call (.ref f) ⟨[.ref a], []⟩) (fun r t => r = .ok (.ret (.bool true)) ∧ OldK s.heap t.heap ∧ t.os = s.os ∧ AllBare t.gens) s
/-- over a reading that tracks the script, or nothing -/
theorem done_at (kx : K.In s.heap) (gN : s.heap.Ns mainGlobals mg) (bN : s.heap.Ns builtinsNs mb) (bQ : ∀ y : Str, y ≠ "__name__" → mb y = bootBuiltins y) (nl : s.heap.NoLimit) (ge : s.gens = #[])
    (aO : s.heap.get? a = some { cls := .type "list", data := .seq us.toArray }) (law : ∀ B : Heap, K.In B → B.Ns mainGlobals mg → FnG P w K mg B 8 f fd ["_law_script"] (spLaw K))
    (bd : BindsTo s fd ⟨[.ref a], []⟩ [("_law_script", .ref a)]) (H : Hp) (tr : Only H) (rd : SqL K H a (ks.map V.int)) (ln : ks.length ≤ 63) (ok : HOk P w H s.heap) (one : ∀ b, b ≠ a → H b = none) (un : H a ≠ none → K.lookup a = none) : Done P w f a s := by
  have isA : ∀ {b : Addr}, H b ≠ none → b = a := fun {b} z => Classical.byContradiction fun n => z (one b n)
  have dNo : ∀ {b : Addr} {o : Obj} {es : Array DictEntry} {ep : Nat}, s.heap.get? b = some o → o.data = .dict es ep → H b = none := fun {b o es ep} g d => one b fun e => by
    rw [e, aO] at g
    cases g
    exact nomatch (show Data.seq us.toArray _ = Data.dict es ep from d)
  have nsB : ∀ {b : Addr} {m : Str → Option Value}, s.heap.Ns b m → (hidT s.heap H).Ns b m := fun {b m} z => by
    obtain ⟨o, es, ep, g, d, r⟩ := z
    exact ⟨o, es, ep, hidT_get g (dNo g d), d, r⟩
  have kB : K.In (hidT s.heap H) := fun b o g => hidT_get (kx b o g) (Classical.byContradiction fun z => by
    have e := isA z
    rw [e] at z g
    exact nomatch (un z).symm.trans g)
  have md : Mod K mg (hidT s.heap H) := ⟨kB, nsB gN, ⟨mb, nsB bN, bQ⟩, by obtain ⟨m, g1, g2⟩ := nl; exact ⟨m, nsB g1, g2⟩⟩
  have en : Env0 P w K mg (hidT s.heap H) callerA [] s H := ⟨rfl, md, fun b o g => of_hidT g, Nat.le_of_eq (hidT_size _ _), trivial, fun b z => (List.not_mem_nil z).elim, ok, .of_eq ge⟩
  have go := (law _ kB (nsB gN)).run callerA [] s H ⟨[.ref a], []⟩ [.ref a] [.ref a] (fun v _ => v = .bl true) (fun _ _ _ => False) rfl ⟨rfl, by decide, by decide⟩ en bd (.cons rfl .nil) ⟨a, ks, rfl, rd, ln, fun _ => rfl⟩
  refine codeAny_mono go fun res t z => ?_
  match res, z with
  | .error _, z => exact False.elim z
  | .ok .next, z => exact False.elim z
  | .ok .brk, z => exact False.elim z
  | .ok .cont, z => exact False.elim z
  | .ok (.ret u), ⟨v, G, os, bare, base, okG, rv, e⟩ =>
    cases (show v = V.bl true from e)
    cases (show u = Value.bool true from rv)
    refine ⟨rfl, .of_keep fun b o g => ?_, os, bare⟩
    by_cases n : H b = none
    · exact base.keep b o g n (fun z => (List.not_mem_nil z).elim) (by simp)
    · rcases tr b with z | ⟨p, xs, z⟩
      · exact (n z).elim
      · have g1 := (ok b _ z).1
        have g2 := (okG b _ (base.frzs b p _ z)).1
        rw [g] at g1
        cases g1
        exact g2
theorem done (kx : K.In s.heap) (gN : s.heap.Ns mainGlobals mg) (bN : s.heap.Ns builtinsNs mb) (bQ : ∀ y : Str, y ≠ "__name__" → mb y = bootBuiltins y) (nl : s.heap.NoLimit) (ge : s.gens = #[])
    (aO : s.heap.get? a = some { cls := .type "list", data := .seq us.toArray }) (ia : IntsAre us ks) (ln : ks.length ≤ 63) (law : ∀ B : Heap, K.In B → B.Ns mainGlobals mg → FnG P w K mg B 8 f fd ["_law_script"] (spLaw K))
    (bd : BindsTo s fd ⟨[.ref a], []⟩ [("_law_script", .ref a)]) : Done P w f a s := by
  have vi := vals_ints ia
  have l1 : us.length = ks.length := ia.length
  have sz : ks.length ≤ sizeLine := Nat.le_trans ln (by decide)
  have at_ := done_at (ks := ks) kx gN bN bQ nl ge aO law bd
  by_cases kn : K.lookup a = none
  · refine at_ (fun b => if b = a then some (.frz { cls := .type "list", data := .seq us.toArray } (.lst (ks.map V.int))) else none) (fun b => ?_) (.inl (.inr ⟨_, if_pos rfl⟩)) ln (fun b u z => ?_) (fun b n => if_neg n) fun _ => kn
    · by_cases e : b = a
      · exact .inr ⟨_, _, if_pos e⟩
      · exact .inl (if_neg e)
    · by_cases e : b = a
      · cases (if_pos e).symm.trans z
        cases e
        exact ⟨aO, by rw [List.length_map]; exact sz, us, _, vi, aO⟩
      · exact nomatch (if_neg e).symm.trans z
  · obtain ⟨o, lk⟩ := Option.ne_none_iff_exists'.mp kn
    have e := (kx a o lk).symm.trans aO
    cases e
    exact at_ (fun _ => none) (fun _ => .inl rfl) (.inr ⟨_, us.toArray, _, lk, rfl, rfl, rfl, by rw [List.size_toArray, l1]; exact sz, by simpa using vi⟩) ln (fun b u z => nomatch (show (none : Option HO) = some u from z)) (fun _ _ => rfl) fun z => (z rfl).elim
end
/-- what the head has told of the law's def -/
theorem told_law {P : Program} {w : World} {K : PySem.W.Frag} {h : Heap} {mg : Str → Option Value} {f : Addr} (X : K.In h) (G : h.Ns mainGlobals mg) (at_ : mg ("law" : Str) = some (.ref f)) (c : He.SaysT fa fn tabs w K) (e : exB K = true) :
    ∃ fd : FuncData, (∀ (s : Shared) (v : Value), BindsTo s fd ⟨[v], []⟩ [("_law_script", v)]) ∧ ∀ B : Heap, FnG P w K mg B 8 f fd ["_law_script"] (spLaw K) := by
  have Y := Fx.of X G c e
  obtain ⟨fd, F⟩ := Y.dLaw
  have z := at_.symm.trans Y.gLaw
  cases z
  have b := FunD.bindsA (ps := ["_law_script"]) F fun _ _ _ _ _ _ us hl => match us, hl with | [_], _ => rfl
  exact ⟨fd, fun s v => b s [v] rfl, fun B => ok_law F Y⟩
theorem walkG {q : Program} {loose : List Str} {XP : (Str → Option Value) → Heap → Prop} {d : DefRec} (df : d.params.defaults = []) (nme : d.name = ("law" : Str)) :
    PySem.W.WalkO q loose XP hk.says (PySem.Challenge.rw_pairlaws_k22_frames).row.toRowW d [] (fun f vs => PySem.call f vs) := by
  refine Att.attach_call (n := 63) rfl df fun w s₀ s mg mb f o pm cd doc a us ks G Y ho hd hcd at_ aO ia ln ge => ?_
  obtain ⟨K, kx, c, e⟩ := Y
  rw [nme] at at_
  obtain ⟨fd, bd, law⟩ := told_law (P := (PySem.Challenge.rw_pairlaws_k22_frames).prog) (w := w) kx G.T.g at_ c e
  exact done kx G.T.g G.T.b G.T.builtins G.T.nolimit ge aO ia ln (fun B _ _ => law B) (bd s (.ref a))
end K22

open PySem PySem.W PySem.Calls PyProof.Rows
set_option maxRecDepth 100000 in
set_option maxHeartbeats 0 in
theorem PySem.Challenge.cw_pairlaws_k22_frames_holds : PySem.Challenge.rw_pairlaws_k22_frames.Holds := by
  w_on; o_law
  refine HandSHeadRun.head_any (r := OpenLaw.row PySem.Challenge.rw_pairlaws_k22_frames) (q := view (OpenLaw.row PySem.Challenge.rw_pairlaws_k22_frames).prog [35]) (H := K22.hk) (ob := K22.ob) (M := 40000) (loose := K22.nm) (d := HandSHeadRun.topDef (OpenLaw.row PySem.Challenge.rw_pairlaws_k22_frames).prog 35) (kwd := []) K22.ob_eq
    (by kernel_rfl) (fun s => by kernel_rfl) K22.run (by kernel_rfl) (by kernel_rfl) (by kernel_rfl) (by rfl) (by first | assumption | decide +kernel) (by decide +kernel) ⟨rfl, rfl, rfl, rfl, rfl, by decide +kernel⟩ ?hw ?hc
  case hw => w_witness2
  case hc => exact K22.walkG (by kernel_rfl) (by kernel_rfl)
