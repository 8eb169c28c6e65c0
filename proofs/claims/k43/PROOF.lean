import PyProof.Rows.All
import Wide.All
import OpenK.AllK
import Wide.FinOn
import KE.KStateDown
import KE.KExcInit
import KE.KExcIs
import HandS.ForMost
import HandS.ForExc
import HandS.ExcInit
import HandS.ExcValue
import HandS.ExcField
import HandS.IsInst
import HandS.Conv
import HandS.Defaults
import HandS.Wide
import HandS.Head0
import HandS.Head1
import HandS.Head2
import HandS.HeadEnd
import HandS.HeadHook1
import HandS.HeadHook2
import HandS.HeadHook3
import KE.GoesEnum
import HandS.OwnEq
import HandS.Zip
import HandS.Strs
import HandS.DictComp
import HandS.Flow
import HandS.Style
import HandS.More
import HandS.NoneIn
import HandS.WideBits
import HandS.Codes
import HandS.TupAny
import HandS.Star
import HandS.RevTup
import PyProof.ReprRoads
import HandS.Walk
import KE.KRevSl
import HandS.TryMany
import PyProof.P3In
import PyProof.EqKinds
import PyProof.FactsAll.dict
import HandS.Exc
import PyProof.NeKinds
import HandS.Deep
import PySem.Challenge.RW_pairlaws_k43_made_places
set_option Elab.async false
set_option linter.all false
set_option maxRecDepth 100000
set_option maxHeartbeats 0
/-! Exceptions of the program as plain values: made, stored into, read, asked for their class; repr of data. -/
namespace Xv
open PySem PySem.Spec PyProof.Rows L2
/-- what the written part says of an exception class -/
structure EC (K : PySem.W.Frag) (C : Addr) : Prop where
  cl : (PySem.W.clsIn K C).isSome = true
  hd : PySem.W.hasDictIn K C = true
  ga : PySem.W.findIn K (.ref C) "__getattribute__" = some (some (.builtin "BaseException.__getattribute__"))
  gg : PySem.W.findIn K (.ref C) "__getattr__" = some none
  sa : PySem.W.findIn K (.ref C) "__setattr__" = some (some (.builtin "object.__setattr__"))
  ca : PySem.W.findIn K (.ref C) "__class__" = some (some (.builtin "object.__class__"))
  be : PySem.W.subIn K (.ref C) (.type "BaseException") = some true
  ob : PySem.W.mroIn K C (.type "object") = some true
  kp : PySem.W.keepIn K (.ref C) = true
/-- and of object.__class__ -/
structure OC (K : PySem.W.Frag) : Prop where
  g : PySem.W.specialIn K (.builtin "object.__class__") "__get__" = some (some (.builtin "getset_descriptor.__get__"))
  t : PySem.W.takesIn K (.builtin "object.__class__") = some true
/-- an exception of the class at C at a, with no dict as yet or with the fields fs -/
def IsX (H : Hp) (a C : Addr) (fs : List (Str × V)) : Prop := (H a = some (exo a C none) ∧ fs = []) ∨ ∃ dx, H a = some (exo a C (some dx)) ∧ H dx = some (exd dx fs)
section
variable {X : Cx} {pins : List (Addr × Obj)} {σ : L2.St} {H : Hp} {s : Shared} {a C : Addr} {fs : List (Str × V)}
theorem IsX.at (I : Inv X pins σ H s) (e : IsX H a C fs) : ∃ (ox : Obj) (od : Option Obj), PySem.W.InstAt s.heap a ox C od := by
  rcases e with ⟨e, _⟩ | ⟨dx, e, d⟩
  · obtain ⟨t, h⟩ := exo_at I.hok e
    exact ⟨_, none, h, rfl, rfl, trivial⟩
  · obtain ⟨t, h⟩ := exo_at I.hok e
    obtain ⟨mA, hn, _⟩ := exd_at I.hok d
    obtain ⟨o, _, _, ho, _⟩ := hn
    exact ⟨_, some o, h, rfl, rfl, ho⟩
/-- isinstance(e, c) of such an exception -/
def rIsX (K : PySem.W.Frag) : List V → Hp → VK → Prop := fun xs H Q => ∃ (a C : Addr) (fs : List (Str × V)) (c : V) (u : Value) (b : Bool), xs = [.ref a, c] ∧ IsX H a C fs ∧ EC K C ∧ ClsV c u ∧ PySem.W.kitOne K (.ref C) u = some b ∧ Q (.bl b) H
theorem call_isX (O : OC X.K) : CallR X (.builtin "isinstance") (rIsX X.K) := by
  intro pins s σ H xs us Q I r ⟨a, C, fs, c, u, b, e, hx, T, k, ek, q⟩
  subst e
  obtain ⟨u1, u2, rfl, r1, r2⟩ := vals2 r
  obtain rfl : u1 = Value.ref a := r1
  have e2 := k.eq r2
  subst e2
  obtain ⟨ox, od, J⟩ := hx.at I
  exact PySem.W.kia_one (PySem.W.kitx_exc T.cl T.ga T.gg T.be T.ca O.g O.t T.ob) I.kIn J ek (fun z => nomatch z) fun tk => ⟨.bl b, H, I.tok tk, rfl, q⟩
/-- C(), the class without an __init__ of its own -/
theorem pe_exc0 {bmB : List Value} {B newId initId : String} {x : Str} {p pos : Pos} (F : ExcBaseFacts B newId initId bmB) (q : PySem.W.excIn X.K C bmB newId = true) (gC : X.mg x = some (.ref C)) (kC : PySem.W.keepIn X.K (.ref C) = true) (hg : Gl X x)
    (hdb : (x == ("__debug__" : Str)) = false := by decide) : PE X (.Call (.Name x p) [] [] pos) (fun _ H Q => ∀ a, H a = none → Q (.ref a) (upd H a (exo a C none))) := by
  refine ⟨fun pins s σ H Q I h => wpAny_Call_Name_kw (ld_glob I hg gC ?_ hdb)⟩
  refine PySem.W.callWith_K0 I.kIn kC ?_
  obtain ⟨bm, N, nm, qn, bs, hdct, sn, sub, abt, col, dd, k0, k1, k2, k3, k5, mN, hC, hN, hni, T⟩ := exc_obj I.kIn q
  refine wpAny_call_exc_subT F T hC hN hni (fun h' e hm => ?_) (by show 0 ≤ sizeLine; rw [sizeLine_eq]; omega)
  have hn : H e = none := I.hok.gone hm.new
  obtain ⟨t, ht, _, _⟩ := hm.there
  exact ⟨.ref e, upd H e (exo e C none), I.laidN hm.keeps hm.new hn (exo_ok ht), rfl, h e hn⟩
/-- C(e, ..), the class's own __init__ keeping sp -/
theorem pe_excI {CX : CXT} {bmB : List Value} {B newId initId : String} {x : Str} {fI : Addr} {k : Nat} {fd : FuncData} {ps : List Str} {sp : Sp} {p pos : Pos} {e : Expr} {es : List Expr} {ta : TA} (F : ExcBaseFacts B newId initId bmB)
    (q : PySem.W.excInitIn X.K C bmB newId = true) (iC : PySem.W.findIn X.K (.ref C) "__init__" = some (some (.ref fI))) (tI : PySem.W.typeIn X.K (.ref fI) = some (.type "function")) (kC : PySem.W.keepIn X.K (.ref C) = true)
    (F1 : FnOk X.prog X.w X.K X.mg X.base CX k fI fd ps sp) (hr : Room (k + 1) X.A) (hb : Binds X.K fd ps []) (hx : Passes CX X (fun _ _ _ => False)) (hg : Gl X x) (hm : X.mg x = some (.ref C)) (ha : PA X (e :: es) ta)
    (hdb : (x == ("__debug__" : Str)) = false := by decide) (he : starEach (e :: es) X.env = (false, eval e X.env) :: starEach es X.env := by rfl) (hpl : (backTo pos (starEach es X.env)).any (·.1) = false := by rfl) :
    PE X (.Call (.Name x p) (e :: es) [] pos) (fun σ H Q => ta σ H fun vs H1 => vs.length ≤ 1000 ∧ ∀ a, H1 a = none → sp (.ref a :: vs) (upd H1 a (exo a C none)) (fun v H2 => v = .non ∧ Q (.ref a) H2) (fun _ _ _ => False)) := by
  refine ⟨fun pins s σ H Q I h => wpAny_Call_Name_kw (ld_glob I hg hm ?_ hdb)⟩
  refine PySem.W.callWith_K (h₀ := X.base) I.ok.mod.kin kC (thn (ha.run pos pins s σ H _ I h) fun us s1 ⟨vs, H1, I1, r1, hz, q1⟩ => ⟨I1.kIn, ?_⟩) he hpl
  show wpAny _ _ (call (.ref C) us) _ _ _
  obtain ⟨hp, g, dr, tk, os⟩ := s1
  have sz1 : hp.objs.size ≤ hp.objs.size + 1 := Nat.le_succ _
  have spq := q1 (hp.objs.size + 1) (I1.hok.fresh sz1)
  obtain ⟨nm, N', qn, bs, bm, hdct, sn, sub, abt, col, dd, k0, k1, k2, k3, k5, hC, hT⟩ := PySem.W.excInit_of I1.kIn q
  have kept : ∀ b o, hp.get? b = some o → ((hp.push (PySem.W.kdv_tup us)).push (PySem.HandSPX.excO C hp.objs.size)).get? b = some o := fun b o z => Heap.get?_push_of_some _ (Heap.get?_push_of_some _ z)
  have there : ((hp.push (PySem.W.kdv_tup us)).push (PySem.HandSPX.excO C hp.objs.size)).get? (hp.objs.size + 1) = some (PySem.HandSPX.excO C hp.objs.size) := by heap_get
  have I2 := I1.laid (t' := tk) (a := hp.objs.size + 1) (o := exo (hp.objs.size + 1) C none) kept sz1 (exo_ok there)
  have rl : Vals (V.ref (hp.objs.size + 1) :: vs) (Value.ref (hp.objs.size + 1) :: us) := .cons rfl r1
  have ln : (Value.ref (hp.objs.size + 1) :: us).length = ps.length := by rw [← rl.length]; exact F1.len _ _ _ _ spq
  have uz : us.length ≤ sizeLine := by rw [← Paired.length r1, sizeLine_eq]; omega
  have bd := hb _ (Value.ref (hp.objs.size + 1) :: us) I2.kIn (by rw [List.append_nil]; exact ln)
  rw [List.append_nil] at bd
  refine wpAny_call (PySem.HandSPX.call_own F hT hC (PySem.W.looks_findIn I1.kIn iC) (fun self => PySem.W.bind_fn I1.kIn self tI) uz
    (codeAny_mono (F1.run _ X.stack _ _ ⟨Value.ref (hp.objs.size + 1) :: us, []⟩ _ _ _ (fun _ _ _ => False) (hr.make C us []) (I2.env0.make C us []) bd rl spq) fun r s' z => ?_))
  cases r with
  | error er => exact hx pins σ _ _ er s' I2 z
  | ok fl =>
    cases fl with
    | ret u =>
      obtain ⟨v, H', J, rv, ev, q3⟩ := I2.after z
      subst ev
      exact ⟨rv, .ref (hp.objs.size + 1), H', J, rfl, q3⟩
    | next => exact False.elim z
    | brk => exact False.elim z
    | cont => exact False.elim z

/-- the object's dict is made: what the abstract heap says behind the first store -/
theorem stored {h' : Heap} {hp : Heap} {g : Array GenState} {dr : Drawn} {t t' : Nat} {os : OsState} {dx t1 : Addr} {mA : Str → Option Value} (I : Inv X pins σ H ⟨hp, g, dr, t, os⟩) (e : H a = some (exo a C none)) (hk : ∀ b o, b ≠ a → hp.get? b = some o → h'.get? b = some o)
    (dn : hp.objs.size ≤ dx) (hx : h'.get? a = some ({ cls := .ref C, dict := some dx, data := .fields #[.ref t1, .none, .none, .none, .bool false, .none] } : Obj)) (hn : h'.Ns1 dx mA) (rel : ∀ g, RelO (fs.lookup g) (mA g)) :
    Inv X pins σ (upd (upd H dx (exd dx fs)) a (exo a C (some dx))) ⟨h', g, dr, t', os⟩ := by
  have fr : H dx = none := I.hok.fresh dn
  have old : ∀ {b : Addr} {o : Obj}, hp.get? b = some o → b ≠ dx := fun z => Nat.ne_of_lt (Nat.lt_of_lt_of_le (Heap.lt_size z) dn)
  have na : ∀ {b : Addr}, H b = none → b ≠ a := fun n z => nomatch (show (none : Option HO) = some _ from n.symm.trans ((congrArg H z).trans e))
  have up : ∀ {b : Addr} {u : HO}, H b = some u → b ≠ a → upd (upd H dx (exd dx fs)) a (exo a C (some dx)) b = some u := fun z hb => (upd_ne hb).trans ((upd_ne (ne_of_none z fr)).trans z)
  have U : Un X.fs [] H (upd (upd H dx (exd dx fs)) a (exo a C (some dx))) hp h' :=
    ⟨fun b o q n _ _ => hk b o (na n) q, fun b o q n _ _ => ⟨o.slots, hk b o (na n) q⟩, fun b o q n _ => (upd_ne (na n)).trans ((upd_ne (old q)).trans n),
      fun b o q _ => if hb : b = a then ⟨_, hb ▸ hx⟩ else ⟨o, hk b o hb q⟩, fun b xs q => up q (at_ne e q exo_tup), fun b o v q => up q (at_ne e q exo_frz), fun b ps q => ⟨#[], (up q (at_ne e q exo_tbl)).trans (by simp)⟩⟩
  refine I.un U fun b o q => ?_
  by_cases hb : b = a
  · subst hb
    rw [upd_same] at q
    obtain rfl := Option.some.inj q
    exact exo_ok hx
  rw [upd_ne hb] at q
  by_cases hd : b = dx
  · subst hd
    rw [upd_same] at q
    obtain rfl := Option.some.inj q
    exact exd_ok hn rel
  rw [upd_ne hd] at q
  refine (I.hok b o q).stay (fun c v hc z => hk c v ?_ z) (fun c hc => up hc (at_ne e hc exo_own)) (fun c xs hc => up hc (at_ne e hc exo_tup))
  rcases hc with rfl | hc
  · exact hb
  · exact at_ne e hc exo_own
section
variable {B : String} {bmB : List Value} {f : Str} {y : V} {u : Value} {Q : Unit → Shared → Prop} {E : Value → Shared → Prop} {A : Around} {dx : Addr}
theorem st_new (SF : StoreFacts B bmB "object.__setattr__" "object") (T : EC X.K C) (ov : PySem.W.excOver X.K C bmB = true) (tk : PySem.W.takerIn X.K C f = some none) (I : Inv X pins σ H s) (e : H a = some (exo a C none)) (ry : RelV y u)
    (h : ∀ dx s', H dx = none → dx ≠ a → Inv X pins σ (upd (upd H dx (exd dx [(f, y)])) a (exo a C (some dx))) s' → Q () s') : wpAny (model X.prog X.w) A (setAttr (.ref a) f u) Q E s := by
  obtain ⟨t1, ho⟩ := exo_at I.hok e
  obtain ⟨hp, g, d, t, os⟩ := s
  obtain ⟨cd, hc, hd'⟩ := PySem.W.any_some T.hd
  have az : a ≠ hp.objs.size := Nat.ne_of_lt (Heap.lt_size ho)
  refine PySem.W.set_plain I.kIn (od := none) ⟨ho, rfl, rfl, trivial⟩ T.sa (PySem.W.osa_openX (s := ⟨hp, g, d, t + 1, os⟩) (od := none) SF I.kIn ⟨ho, rfl, rfl, trivial⟩ ov tk fun b => ?_)
  refine wpAny_bind (wpAny_pure (wpAny_bind (PySem.W.instanceDict_exc (t := t1) (c2 := .none) ho ((PySem.W.looks_clsIn I.kIn hc)) hd' ?_)))
  show wpAny _ _ (Builtin.ObjectAttr.storeInDict hp.objs.size (.str f _) f u) _ _ _
  refine PySem.HandSPX.store_in_new ⟨_, #[], _, (Heap.get?_update_ne _ _ _ _ az.symm).trans (Heap.get?_push_at rfl rfl), rfl, fun e he => absurd he (by simp), fun _ => rfl⟩ fun h' tk' hn' hs => ?_
  have ha : (hp.push (PySem.W.dictOf [] 0)).get? a = some _ := Heap.get?_push_of_some _ ho
  refine h hp.objs.size _ (I.hok.fresh (Nat.le_refl _)) az.symm (stored (t1 := t1) I e (fun b o hb q => ?_) (Nat.le_refl _) ?_ hn' (relO_put (fs := []) ry fun _ => True.intro))
  · exact (hs.2 b (Nat.ne_of_lt (Heap.lt_size q))).trans ((Heap.get?_update_ne _ _ _ _ hb).trans (Heap.get?_push_of_some _ q))
  · exact (hs.2 a az).trans (Heap.get?_update_self _ ha rfl)

theorem st_old (SF : StoreFacts B bmB "object.__setattr__" "object") (T : EC X.K C) (ov : PySem.W.excOver X.K C bmB = true) (tk : PySem.W.takerIn X.K C f = some none) (I : Inv X pins σ H s) (e : H a = some (exo a C (some dx))) (ed : H dx = some (exd dx fs)) (hl : fs.length ≤ 900) (ry : RelV y u)
    (h : ∀ s', Inv X pins σ (upd H dx (exd dx ((f, y) :: fs))) s' → Q () s') : wpAny (model X.prog X.w) A (setAttr (.ref a) f u) Q E s := by
  obtain ⟨t1, ho⟩ := exo_at I.hok e
  obtain ⟨mA, hns, rel⟩ := exd_at I.hok ed
  have hw := within_of rel
  obtain ⟨hp, g, d, t, os⟩ := s
  obtain ⟨cd, hc, hd'⟩ := PySem.W.any_some T.hd
  obtain ⟨oD, _, _, hoD, _, _⟩ := hns.count hw
  have Lc : PySem.W.Looks (model X.prog X.w) hp (classData C) cd := PySem.W.looks_clsIn I.kIn hc
  refine PySem.W.set_plain I.kIn (od := some oD) ⟨ho, rfl, rfl, hoD⟩ T.sa (PySem.W.osa_openX (s := ⟨hp, g, d, t + 1, os⟩) (od := some oD) SF I.kIn ⟨ho, rfl, rfl, hoD⟩ ov tk fun b => ?_)
  refine wpAny_bind (wpAny_pure (wpAny_bind (wpAny_bind (wpAny_loadPart ho (wpAny_bind (Lc.at ?_))))))
  rw [hd']
  refine wpAny_pure (a := some dx) ?_
  refine PySem.OEX.store_in_old hns hw (by rw [List.length_map]; omega) fun h' tk' hn' hs => ?_
  have there : ∃ o, h'.get? dx = some o := let ⟨o, _, _, q, _⟩ := hn'; ⟨o, q⟩
  exact h _ (I.write (t' := tk') (x := dx) (e := dx) (o := exd dx ((f, y) :: fs)) (by rw [ed]; exact True.intro) (.inl rfl) (fun b o hb q => (hs.2 b hb).trans q) there (exd_ok hn' (relO_put ry rel)))
end
/-- o.f = e, o an exception of the class at C -/
def tSt (C : Addr) (f : Str) (to te : TE) : TS := fun D σ H => te σ H fun y H1 => to σ H1 fun x H2 => ∃ a : Addr, x = .ref a ∧
  ((H2 a = some (exo a C none) ∧ ∀ dx, H2 dx = none → dx ≠ a → D.nx σ (upd (upd H2 dx (exd dx [(f, y)])) a (exo a C (some dx)))) ∨
    ∃ (dx : Addr) (fs : List (Str × V)), H2 a = some (exo a C (some dx)) ∧ H2 dx = some (exd dx fs) ∧ fs.length ≤ 900 ∧ D.nx σ (upd H2 dx (exd dx ((f, y) :: fs))))
theorem ps_st {B : String} {bmB : List Value} {f : Str} {o e : Expr} {to te : TE} {p' pos : Pos} (SF : StoreFacts B bmB "object.__setattr__" "object") (T : EC X.K C) (ov : PySem.W.excOver X.K C bmB = true) (tk : PySem.W.takerIn X.K C f = some none)
    (ho : PE X o to) (he : PE X e te) (hs : swapsWith e (some (.Attribute o f p')) pos.line X.env = pure false := by rfl) : PS X (.Assign [.Attribute o f p'] e pos) (tSt C f to te) := by
  refine ⟨fun pins s σ H D I h => plainObj_wpAny_Assign_Attribute (thn (he.run pins s σ H _ I h) fun v s1 ⟨y, H1, I1, r1, q1⟩ => thn (ho.run pins s1 σ H1 _ I1 q1) fun u s2 ⟨x, H2, I2, r2, a, ex, q⟩ => ?_) hs⟩
  subst ex
  obtain rfl : u = Value.ref a := r2
  rcases q with ⟨ea, q⟩ | ⟨dx, fs, ea, ed, hl, q⟩
  · exact st_new SF T ov tk I2 ea r1 fun dx s' n ne J => ⟨σ, _, J, q dx n ne⟩
  · exact st_old SF T ov tk I2 ea ed hl r1 fun s' J => ⟨σ, _, J, q⟩
/-- e.n, e an exception with its field n -/
def tXa (K : PySem.W.Frag) (n : Str) (te : TE) : TE := fun σ H Q => te σ H fun x H1 => ∃ (a C : Addr) (fs : List (Str × V)) (v : V), x = .ref a ∧ IsX H1 a C fs ∧ EC K C ∧ PySem.W.findIn K (.ref C) n = some none ∧ fs.lookup n = some v ∧ Q v H1
theorem pe_xa {e : Expr} {te : TE} {pos : Pos} {n : Str} (he : PE X e te) (hb : attributeBase e n X.env (eval e X.env) = eval e X.env := by rfl) : PE X (.Attribute e n pos) (tXa X.K n te) := by
  refine ⟨fun pins s σ H Q I h => attr_of hb (thn (he.run pins s σ H _ I h) fun u s1 ⟨x, H1, I1, rx, a, C, fs, v, ex, hx, T, hno, l, q⟩ => ?_)⟩
  subst ex
  obtain rfl : u = Value.ref a := rx
  rcases hx with ⟨_, rfl⟩ | ⟨dx, ea, ed⟩
  · cases l
  · obtain ⟨t1, ho⟩ := exo_at I1.hok ea
    obtain ⟨mA, hns, hr⟩ := exd_at I1.hok ed
    obtain ⟨od, hod, hl⟩ := lookIn_ns hns
    obtain ⟨w1, hw, rw1⟩ := RelO.some_of (v := v) (o := mA n) (by rw [← l]; exact hr n)
    have J : PySem.W.InstAt s1.heap a _ C (some od) := ⟨ho, rfl, rfl, hod⟩
    exact HandSPX.exc_get I1.kIn J T.ga T.gg T.be (PySem.W.findObj_own T.hd hno rfl (by rw [hl, hw])) (handed_of rw1) ⟨v, H1, I1.tok _, rw1, q⟩
/-- repr of data (lists, tuples of any depth) where nothing is being shown -/
def rRepr (K : PySem.W.Frag) : List V → Hp → VK → Prop := fun xs H Q => ∃ (x : V) (d : PyData), xs = [x] ∧ Dp K H x d ∧ (∃ a, x = .ref a) ∧ d.showable = true ∧ d.hasDict = false ∧ d.depth ≤ 8 ∧ d.shown.length ≤ sizeLine ∧ Q (.str d.shown) H
theorem call_repr (hg : X.A.guards = some []) (hu : X.A.units + 9 < cLine) : CallR X (.builtin "repr") (rRepr X.K) := by
  intro pins s σ H xs us Q I r ⟨x, d, e, hd, ⟨a, ea⟩, h1, h2, h3, h4, q⟩
  subst e
  subst ea
  obtain ⟨u1, rfl, r1⟩ := vals1 r
  obtain ⟨as, rd⟩ := Dp.reads I d (.ref a) u1 hd r1
  obtain rfl : u1 = Value.ref a := r1
  exact repr_of_reads' rd h1 (fun z => absurd (h2.symm.trans z) (by simp)) hg (by omega) (fun _ _ z => z) (fun h' u tk hk => ⟨.str d.shown, H, I.kept (t' := tk) hk, ⟨u, rfl⟩, q⟩) h4
end
end Xv

/-! raise C(e, ..), C an own exception class of any built-in base with an __init__ of its own. -/
namespace Xv
open PySem PySem.Spec PyProof.Rows L2
theorem pmk_excI {X : Cx} {C : Addr} {CX : CXT} {bmB : List Value} {B newId initId : String} {x : Str} {fI : Addr} {k : Nat} {fd : FuncData} {ps : List Str} {sp : Sp} {p pos : Pos} {e : Expr} {es : List Expr} {ta : TA} (F : ExcBaseFacts B newId initId bmB)
    (q : PySem.W.excInitIn X.K C bmB newId = true) (iC : PySem.W.findIn X.K (.ref C) "__init__" = some (some (.ref fI))) (tI : PySem.W.typeIn X.K (.ref fI) = some (.type "function")) (kC : PySem.W.keepIn X.K (.ref C) = true) (rC : Raises X (.ref C))
    (F1 : FnOk X.prog X.w X.K X.mg X.base CX k fI fd ps sp) (hr : Room (k + 1) X.A) (hb : Binds X.K fd ps []) (hx : Passes CX X (fun _ _ _ => False)) (hg : Gl X x) (hm : X.mg x = some (.ref C)) (ha : PA X (e :: es) ta)
    (hdb : (x == ("__debug__" : Str)) = false := by decide) (he : starEach (e :: es) X.env = (false, eval e X.env) :: starEach es X.env := by rfl) (hpl : (backTo pos (starEach es X.env)).any (·.1) = false := by rfl) :
    PMk X (.Call (.Name x p) (e :: es) [] pos) (tMkO C sp [] ta) := by
  intro pins s σ H Q I h
  refine wpAny_Call_Name_kw (ld_glob I hg hm ?_ hdb)
  refine PySem.W.callWith_K (h₀ := X.base) I.ok.mod.kin kC (thn (ha.run pos pins s σ H _ I h) fun us s1 ⟨vs, H1, I1, r1, hz, q1⟩ => ⟨I1.kIn, ?_⟩) he hpl
  show wpAny _ _ (call (.ref C) us) _ _ _
  obtain ⟨hp, g, dr, tk, os⟩ := s1
  have hsz : hp.objs.size ≤ hp.objs.size + 1 := Nat.le_succ _
  have hn : H1 (hp.objs.size + 1) = none := I1.hok.fresh hsz
  have hq := q1 (hp.objs.size + 1) hn
  rw [List.append_nil] at hq
  obtain ⟨nm, N', qn, bs, bm, hdct, sn, sub, abt, col, dd, k0, k1, k2, k3, k5, hC, hT⟩ := PySem.W.excInit_of I1.kIn q
  have kk : ∀ b o, hp.get? b = some o → ((hp.push (PySem.W.kdv_tup us)).push (PySem.HandSPX.excO C hp.objs.size)).get? b = some o := fun b o e => Heap.get?_push_of_some _ (Heap.get?_push_of_some _ e)
  have hget : ((hp.push (PySem.W.kdv_tup us)).push (PySem.HandSPX.excO C hp.objs.size)).get? (hp.objs.size + 1) = some (PySem.HandSPX.excO C hp.objs.size) := by heap_get
  have I2 : Inv X pins σ (upd H1 (hp.objs.size + 1) (exo (hp.objs.size + 1) C none)) ⟨(hp.push (PySem.W.kdv_tup us)).push (PySem.HandSPX.excO C hp.objs.size), g, dr, tk, os⟩ :=
    I1.laid (t' := tk) (a := hp.objs.size + 1) (o := exo (hp.objs.size + 1) C none) (h' := (hp.push (PySem.W.kdv_tup us)).push (PySem.HandSPX.excO C hp.objs.size)) kk hsz (exo_ok hget)
  have rl : Vals (V.ref (hp.objs.size + 1) :: vs) (Value.ref (hp.objs.size + 1) :: us) := .cons rfl r1
  have ln : (Value.ref (hp.objs.size + 1) :: us).length = ps.length := by rw [← rl.length]; exact F1.len _ _ _ _ hq
  have uz : us.length ≤ sizeLine := by rw [← Paired.length r1, sizeLine_eq]; omega
  have bd := hb _ (Value.ref (hp.objs.size + 1) :: us) I2.kIn (by rw [List.append_nil]; exact ln)
  rw [List.append_nil] at bd
  refine wpAny_call (PySem.HandSPX.call_own F hT hC (PySem.W.looks_findIn I1.kIn iC) (fun self => PySem.W.bind_fn I1.kIn self tI) uz
    (codeAny_mono (F1.run _ X.stack _ _ ⟨Value.ref (hp.objs.size + 1) :: us, []⟩ _ _ _ (fun _ _ _ => False) (hr.make C us []) (I2.env0.make C us []) bd rl hq) fun r s' hq' => ?_))
  cases r with
  | error er => exact hx pins σ _ _ er s' I2 hq'
  | ok fl =>
    cases fl with
    | ret u =>
      obtain ⟨v, H2, os2, bare2, un2, hok2, rv, ev, d, fs, ea, ed, hd1, q2⟩ := hq'
      subst ev
      obtain ⟨h2, g2, d2, t2, os'⟩ := s'
      exact ⟨rv, mk_end rC I1 hsz kk un2 hok2 os2 bare2 ea ed hd1 q2⟩
    | next => exact False.elim hq'
    | brk => exact False.elim hq'
    | cont => exact False.elim hq'
end Xv

namespace K43
open PySem PySem.Spec PyProof.Rows L2
/-! ### the defs of the text -/
def top (i : Nat) : Stmt := PySem.Challenge.pw_pairlaws_k43_made_places.main.body.getD i (.Pass ⟨0, 0, 0, 0⟩)
abbrev sPartsBelow : Stmt := top 16
def dPartsBelow : He.DefD := ⟨("parts_below", none), "parts_below", "parts_below", defArgs (top 16), defBody (top 16), defScope (top 16), [], []⟩
abbrev sSortsTold : Stmt := top 17
def dSortsTold : He.DefD := ⟨("sorts_told", none), "sorts_told", "sorts_told", defArgs (top 17), defBody (top 17), defScope (top 17), [], []⟩
abbrev sHasForm : Stmt := top 18
def dHasForm : He.DefD := ⟨("has_form", none), "has_form", "has_form", defArgs (top 18), defBody (top 18), defScope (top 18), [], []⟩
abbrev sBelow : Stmt := top 19
def dBelow : He.DefD := ⟨("_below", none), "_below", "_below", defArgs (top 19), defBody (top 19), defScope (top 19), [], []⟩
abbrev sPartsChecked : Stmt := top 20
def dPartsChecked : He.DefD := ⟨("_parts_checked", none), "_parts_checked", "_parts_checked", defArgs (top 20), defBody (top 20), defScope (top 20), [], []⟩
abbrev sPartsOf : Stmt := top 21
def dPartsOf : He.DefD := ⟨("parts_of", none), "parts_of", "parts_of", defArgs (top 21), defBody (top 21), defScope (top 21), [], []⟩
abbrev sPartsInnerFirst : Stmt := top 22
def dPartsInnerFirst : He.DefD := ⟨("parts_inner_first", none), "parts_inner_first", "parts_inner_first", defArgs (top 22), defBody (top 22), defScope (top 22), [], []⟩
abbrev sEndsOfLeaf : Stmt := top 23
def dEndsOfLeaf : He.DefD := ⟨("_ends_of_leaf", none), "_ends_of_leaf", "_ends_of_leaf", defArgs (top 23), defBody (top 23), defScope (top 23), [], []⟩
abbrev sEndsOfOne : Stmt := top 24
def dEndsOfOne : He.DefD := ⟨("_ends_of_one", none), "_ends_of_one", "_ends_of_one", defArgs (top 24), defBody (top 24), defScope (top 24), [], []⟩
abbrev sEndsOfTwo : Stmt := top 25
def dEndsOfTwo : He.DefD := ⟨("_ends_of_two", none), "_ends_of_two", "_ends_of_two", defArgs (top 25), defBody (top 25), defScope (top 25), [], []⟩
abbrev sEndsAbove : Stmt := top 26
def dEndsAbove : He.DefD := ⟨("ends_above", none), "ends_above", "ends_above", defArgs (top 26), defBody (top 26), defScope (top 26), [], []⟩
abbrev sEndsOf : Stmt := top 27
def dEndsOf : He.DefD := ⟨("ends_of", none), "ends_of", "ends_of", defArgs (top 27), defBody (top 27), defScope (top 27), [], []⟩
abbrev sIsNumberBelow : Stmt := top 29
def dIsNumberBelow : He.DefD := ⟨("is_number_below", none), "is_number_below", "is_number_below", defArgs (top 29), defBody (top 29), defScope (top 29), [], []⟩
abbrev sHasNoneOf : Stmt := top 33
def dHasNoneOf : He.DefD := ⟨("_has_none_of", none), "_has_none_of", "_has_none_of", defArgs (top 33), defBody (top 33), defScope (top 33), [], []⟩
abbrev sIsFlat : Stmt := top 34
def dIsFlat : He.DefD := ⟨("is_flat", none), "is_flat", "is_flat", defArgs (top 34), defBody (top 34), defScope (top 34), [], []⟩
abbrev sIsKept : Stmt := top 35
def dIsKept : He.DefD := ⟨("is_kept", none), "is_kept", "is_kept", defArgs (top 35), defBody (top 35), defScope (top 35), [], []⟩
abbrev sIsShort : Stmt := top 36
def dIsShort : He.DefD := ⟨("is_short", none), "is_short", "is_short", defArgs (top 36), defBody (top 36), defScope (top 36), [], []⟩
abbrev sIsWord : Stmt := top 40
def dIsWord : He.DefD := ⟨("is_word", none), "is_word", "is_word", defArgs (top 40), defBody (top 40), defScope (top 40), [], []⟩
abbrev sFirstAgain : Stmt := top 41
def dFirstAgain : He.DefD := ⟨("first_again", none), "first_again", "first_again", defArgs (top 41), defBody (top 41), defScope (top 41), [], []⟩
abbrev sCheckNames : Stmt := top 42
def dCheckNames : He.DefD := ⟨("check_names", none), "check_names", "check_names", defArgs (top 42), defBody (top 42), defScope (top 42), [], []⟩
abbrev sCheckEnds : Stmt := top 44
def dCheckEnds : He.DefD := ⟨("_check_ends", none), "_check_ends", "_check_ends", defArgs (top 44), defBody (top 44), defScope (top 44), [], []⟩
abbrev sCheckTotals : Stmt := top 45
def dCheckTotals : He.DefD := ⟨("_check_totals", none), "_check_totals", "_check_totals", defArgs (top 45), defBody (top 45), defScope (top 45), [], []⟩
abbrev sStepOf : Stmt := top 46
def dStepOf : He.DefD := ⟨("_step_of", none), "_step_of", "_step_of", defArgs (top 46), defBody (top 46), defScope (top 46), [], []⟩
abbrev sCheckSteps : Stmt := top 47
def dCheckSteps : He.DefD := ⟨("_check_steps", none), "_check_steps", "_check_steps", defArgs (top 47), defBody (top 47), defScope (top 47), [], []⟩
abbrev sLedTo : Stmt := top 49
def dLedTo : He.DefD := ⟨("led_to", none), "led_to", "led_to", defArgs (top 49), defBody (top 49), defScope (top 49), [], []⟩
abbrev sIsMark : Stmt := top 51
def dIsMark : He.DefD := ⟨("_is_mark", none), "_is_mark", "_is_mark", defArgs (top 51), defBody (top 51), defScope (top 51), [], []⟩
abbrev sIsWay : Stmt := top 52
def dIsWay : He.DefD := ⟨("is_way", none), "is_way", "is_way", defArgs (top 52), defBody (top 52), defScope (top 52), [], []⟩
abbrev sRenumbered : Stmt := top 53
def dRenumbered : He.DefD := ⟨("_renumbered", none), "_renumbered", "_renumbered", defArgs (top 53), defBody (top 53), defScope (top 53), [], []⟩
abbrev sTurnedWay : Stmt := top 54
def dTurnedWay : He.DefD := ⟨("turned_way", none), "turned_way", "turned_way", defArgs (top 54), defBody (top 54), defScope (top 54), [], []⟩
abbrev sWayOfCut : Stmt := top 55
def dWayOfCut : He.DefD := ⟨("_way_of_cut", none), "_way_of_cut", "_way_of_cut", defArgs (top 55), defBody (top 55), defScope (top 55), [], []⟩
abbrev sWayOfThen : Stmt := top 56
def dWayOfThen : He.DefD := ⟨("_way_of_then", none), "_way_of_then", "_way_of_then", defArgs (top 56), defBody (top 56), defScope (top 56), [], []⟩
abbrev sUWays : Stmt := top 57
def dUWays : He.DefD := ⟨("_ways", none), "_ways", "_ways", defArgs (top 57), defBody (top 57), defScope (top 57), [], []⟩
abbrev sWays : Stmt := top 58
def dWays : He.DefD := ⟨("ways", none), "ways", "ways", defArgs (top 58), defBody (top 58), defScope (top 58), [], []⟩
abbrev sMadeSteps : Stmt := top 59
def dMadeSteps : He.DefD := ⟨("made_steps", none), "made_steps", "made_steps", defArgs (top 59), defBody (top 59), defScope (top 59), [], []⟩
abbrev sMade : Stmt := top 60
def dMade : He.DefD := ⟨("made", none), "made", "made", defArgs (top 60), defBody (top 60), defScope (top 60), [], []⟩
abbrev sCheckPremise : Stmt := top 62
def dCheckPremise : He.DefD := ⟨("_check_premise", none), "_check_premise", "_check_premise", defArgs (top 62), defBody (top 62), defScope (top 62), [], []⟩
abbrev sLawSource : Stmt := top 65
def dLawSource : He.DefD := ⟨("_law_source", none), "_law_source", "_law_source", defArgs (top 65), defBody (top 65), defScope (top 65), [], []⟩
abbrev sLawPick : Stmt := top 66
def dLawPick : He.DefD := ⟨("_law_pick", none), "_law_pick", "_law_pick", defArgs (top 66), defBody (top 66), defScope (top 66), [], []⟩
abbrev sLawNames : Stmt := top 67
def dLawNames : He.DefD := ⟨("_law_names", none), "_law_names", "_law_names", defArgs (top 67), defBody (top 67), defScope (top 67), [], []⟩
abbrev sLawFrame : Stmt := top 68
def dLawFrame : He.DefD := ⟨("_law_frame", none), "_law_frame", "_law_frame", defArgs (top 68), defBody (top 68), defScope (top 68), [], []⟩
abbrev sLawFramed : Stmt := top 69
def dLawFramed : He.DefD := ⟨("_law_framed", none), "_law_framed", "_law_framed", defArgs (top 69), defBody (top 69), defScope (top 69), [], []⟩
abbrev sLawWithTotals : Stmt := top 70
def dLawWithTotals : He.DefD := ⟨("_law_with_totals", none), "_law_with_totals", "_law_with_totals", defArgs (top 70), defBody (top 70), defScope (top 70), [], []⟩
abbrev sLawLeaf : Stmt := top 71
def dLawLeaf : He.DefD := ⟨("_law_leaf", none), "_law_leaf", "_law_leaf", defArgs (top 71), defBody (top 71), defScope (top 71), [], []⟩
abbrev sLawFlat : Stmt := top 72
def dLawFlat : He.DefD := ⟨("_law_flat", none), "_law_flat", "_law_flat", defArgs (top 72), defBody (top 72), defScope (top 72), [], []⟩
abbrev sLawTerm : Stmt := top 73
def dLawTerm : He.DefD := ⟨("_law_term", none), "_law_term", "_law_term", defArgs (top 73), defBody (top 73), defScope (top 73), [], []⟩
abbrev sLawSomeEnds : Stmt := top 74
def dLawSomeEnds : He.DefD := ⟨("_law_some_ends", none), "_law_some_ends", "_law_some_ends", defArgs (top 74), defBody (top 74), defScope (top 74), [], []⟩
abbrev sLawEnds : Stmt := top 75
def dLawEnds : He.DefD := ⟨("_law_ends", none), "_law_ends", "_law_ends", defArgs (top 75), defBody (top 75), defScope (top 75), [], []⟩
abbrev sLawWords : Stmt := top 76
def dLawWords : He.DefD := ⟨("_law_words", none), "_law_words", "_law_words", defArgs (top 76), defBody (top 76), defScope (top 76), [], []⟩
abbrev sLawIsFlat : Stmt := top 77
def dLawIsFlat : He.DefD := ⟨("_law_is_flat", none), "_law_is_flat", "_law_is_flat", defArgs (top 77), defBody (top 77), defScope (top 77), [], []⟩
abbrev sLawMoved : Stmt := top 78
def dLawMoved : He.DefD := ⟨("_law_moved", none), "_law_moved", "_law_moved", defArgs (top 78), defBody (top 78), defScope (top 78), [], []⟩
abbrev sLawTwoWays : Stmt := top 79
def dLawTwoWays : He.DefD := ⟨("_law_two_ways", none), "_law_two_ways", "_law_two_ways", defArgs (top 79), defBody (top 79), defScope (top 79), [], []⟩
abbrev sLawWays : Stmt := top 80
def dLawWays : He.DefD := ⟨("_law_ways", none), "_law_ways", "_law_ways", defArgs (top 80), defBody (top 80), defScope (top 80), [], []⟩
abbrev sLawMadeWays : Stmt := top 81
def dLawMadeWays : He.DefD := ⟨("_law_made_ways", none), "_law_made_ways", "_law_made_ways", defArgs (top 81), defBody (top 81), defScope (top 81), [], []⟩
abbrev sLawMostPlaces : Stmt := top 82
def dLawMostPlaces : He.DefD := ⟨("_law_most_places", none), "_law_most_places", "_law_most_places", defArgs (top 82), defBody (top 82), defScope (top 82), [], []⟩
abbrev sLawSame : Stmt := top 83
def dLawSame : He.DefD := ⟨("_law_same", none), "_law_same", "_law_same", defArgs (top 83), defBody (top 83), defScope (top 83), [], []⟩
abbrev sLawShortTerm : Stmt := top 84
def dLawShortTerm : He.DefD := ⟨("_law_short_term", none), "_law_short_term", "_law_short_term", defArgs (top 84), defBody (top 84), defScope (top 84), [], []⟩
abbrev sLaw : Stmt := top 85
def dLaw : He.DefD := ⟨("law", none), "law", "law", defArgs (top 85), defBody (top 85), defScope (top 85), [], []⟩
abbrev sFrame_Init : Stmt := inClass (top 48) 0
def dFrame_Init : He.DefD := ⟨("Frame", some "__init__"), "__init__", "Frame.__init__", defArgs sFrame_Init, defBody sFrame_Init, defScope sFrame_Init, [], []⟩
abbrev sFrame_Ends : Stmt := inClass (top 48) 4
def dFrame_Ends : He.DefD := ⟨("Frame", some "ends"), "ends", "Frame.ends", defArgs sFrame_Ends, defBody sFrame_Ends, defScope sFrame_Ends, [], []⟩
abbrev sFrame_HasSort : Stmt := inClass (top 48) 5
def dFrame_HasSort : He.DefD := ⟨("Frame", some "has_sort"), "has_sort", "Frame.has_sort", defArgs sFrame_HasSort, defBody sFrame_HasSort, defScope sFrame_HasSort, [], []⟩
abbrev sFrame_HasLetter : Stmt := inClass (top 48) 6
def dFrame_HasLetter : He.DefD := ⟨("Frame", some "has_letter"), "has_letter", "Frame.has_letter", defArgs sFrame_HasLetter, defBody sFrame_HasLetter, defScope sFrame_HasLetter, [], []⟩
abbrev sFrame_TotalsFrom : Stmt := inClass (top 48) 7
def dFrame_TotalsFrom : He.DefD := ⟨("Frame", some "totals_from"), "totals_from", "Frame.totals_from", defArgs sFrame_TotalsFrom, defBody sFrame_TotalsFrom, defScope sFrame_TotalsFrom, [], []⟩
abbrev sBook_Init : Stmt := inClass (top 63) 0
def dBook_Init : He.DefD := ⟨("Book", some "__init__"), "__init__", "Book.__init__", defArgs sBook_Init, defBody sBook_Init, defScope sBook_Init, [], []⟩
abbrev sBook_Frame : Stmt := inClass (top 63) 1
def dBook_Frame : He.DefD := ⟨("Book", some "frame"), "frame", "Book.frame", defArgs sBook_Frame, defBody sBook_Frame, defScope sBook_Frame, [], []⟩
abbrev sBadName_Init : Stmt := inClass (top 3) 0
def dBadName_Init : He.DefD := ⟨("BadName", some "__init__"), "__init__", "BadName.__init__", defArgs sBadName_Init, defBody sBadName_Init, defScope sBadName_Init, [], []⟩
abbrev sTwiceTold_Init : Stmt := inClass (top 4) 0
def dTwiceTold_Init : He.DefD := ⟨("TwiceTold", some "__init__"), "__init__", "TwiceTold.__init__", defArgs sTwiceTold_Init, defBody sTwiceTold_Init, defScope sTwiceTold_Init, [], []⟩
abbrev sBadFrame_Init : Stmt := inClass (top 5) 0
def dBadFrame_Init : He.DefD := ⟨("BadFrame", some "__init__"), "__init__", "BadFrame.__init__", defArgs sBadFrame_Init, defBody sBadFrame_Init, defScope sBadFrame_Init, [], []⟩
abbrev sComesRound_Init : Stmt := inClass (top 6) 0
def dComesRound_Init : He.DefD := ⟨("ComesRound", some "__init__"), "__init__", "ComesRound.__init__", defArgs sComesRound_Init, defBody sComesRound_Init, defScope sComesRound_Init, [], []⟩
abbrev sBadTerm_Init : Stmt := inClass (top 7) 0
def dBadTerm_Init : He.DefD := ⟨("BadTerm", some "__init__"), "__init__", "BadTerm.__init__", defArgs sBadTerm_Init, defBody sBadTerm_Init, defScope sBadTerm_Init, [], []⟩
abbrev sUnknownName_Init : Stmt := inClass (top 12) 0
def dUnknownName_Init : He.DefD := ⟨("UnknownName", some "__init__"), "__init__", "UnknownName.__init__", defArgs sUnknownName_Init, defBody sUnknownName_Init, defScope sUnknownName_Init, [], []⟩
def fn0 : List He.DefD := [dPartsBelow, dSortsTold, dHasForm, dBelow, dPartsChecked, dPartsOf, dPartsInnerFirst, dEndsOfLeaf, dEndsOfOne, dEndsOfTwo]
def fn1 : List He.DefD := [dEndsAbove, dEndsOf, dIsNumberBelow, dHasNoneOf, dIsFlat, dIsKept, dIsShort, dIsWord, dFirstAgain, dCheckNames]
def fn2 : List He.DefD := [dCheckEnds, dCheckTotals, dStepOf, dCheckSteps, dLedTo, dIsMark, dIsWay, dRenumbered, dTurnedWay, dWayOfCut]
def fn3 : List He.DefD := [dWayOfThen, dUWays, dWays, dMadeSteps, dMade, dCheckPremise, dLawSource, dLawPick, dLawNames, dLawFrame]
def fn4 : List He.DefD := [dLawFramed, dLawWithTotals, dLawLeaf, dLawFlat, dLawTerm, dLawSomeEnds, dLawEnds, dLawWords, dLawIsFlat, dLawMoved]
def fn5 : List He.DefD := [dLawTwoWays, dLawWays, dLawMadeWays, dLawMostPlaces, dLawSame, dLawShortTerm, dLaw, dFrame_Init, dFrame_Ends, dFrame_HasSort]
def fn6 : List He.DefD := [dFrame_HasLetter, dFrame_TotalsFrom, dBook_Init, dBook_Frame, dBadName_Init, dTwiceTold_Init, dBadFrame_Init, dComesRound_Init, dBadTerm_Init, dUnknownName_Init]
def fn : List He.DefD := fn0 ++ (fn1 ++ (fn2 ++ (fn3 ++ (fn4 ++ (fn5 ++ (fn6))))))
def fa0 : List He.Fa := [.glo "Frame", .glo "Book", .glo "parts_below", .glo "sorts_told", .glo "has_form", .glo "_below", .glo "_parts_checked", .glo "parts_of", .glo "parts_inner_first", .glo "_ends_of_leaf"]
def fa1 : List He.Fa := [.glo "_ends_of_one", .glo "_ends_of_two", .glo "ends_above", .glo "ends_of", .glo "is_number_below", .glo "_has_none_of", .glo "is_flat", .glo "is_kept", .glo "is_short", .glo "is_word"]
def fa2 : List He.Fa := [.glo "first_again", .glo "check_names", .glo "_check_ends", .glo "_check_totals", .glo "_step_of", .glo "_check_steps", .glo "led_to", .glo "_is_mark", .glo "is_way", .glo "_renumbered"]
def fa3 : List He.Fa := [.glo "turned_way", .glo "_way_of_cut", .glo "_way_of_then", .glo "_ways", .glo "ways", .glo "made_steps", .glo "made", .glo "_check_premise", .glo "_law_source", .glo "_law_pick"]
def fa4 : List He.Fa := [.glo "_law_names", .glo "_law_frame", .glo "_law_framed", .glo "_law_with_totals", .glo "_law_leaf", .glo "_law_flat", .glo "_law_term", .glo "_law_some_ends", .glo "_law_ends", .glo "_law_words"]
def fa5 : List He.Fa := [.glo "_law_is_flat", .glo "_law_moved", .glo "_law_two_ways", .glo "_law_ways", .glo "_law_made_ways", .glo "_law_most_places", .glo "_law_same", .glo "_law_short_term", .glo "law", .glo "BadName"]
def fa6 : List He.Fa := [.glo "TwiceTold", .glo "BadFrame", .glo "ComesRound", .glo "BadTerm", .glo "UnknownName", .glo "_NOT_FLAT", .glo "_NOT_SHORT", .glo "_PARTS_BELOW", .glo "_SORTS_TOLD", .free "abs"]
def fa7 : List He.Fa := [.free "int", .free "len", .free "range", .free "enumerate", .free "isinstance", .free "str", .free "tuple", .free "list", .free "set", .free "all"]
def fa8 : List He.Fa := [.free "any", .free "repr", .free "bool", .cls "Frame", .cls "Book", .mkr "Frame", .mkr "Book", .str "_LETTERS" "abcdefghijklmnopqrstuvwxyz", .str "_SIGNS" "abcdefghijklmnopqrstuvwxyz0123456789", .noat "Frame" "_sorts"]
def fa9 : List He.Fa := [.noat "Frame" "_letters", .noat "Frame" "_totals", .noat "Frame" "_ends", .noat "Book" "_frame", .noat "Book" "_premises", .meth "Frame" "ends", .meth "Frame" "has_sort", .meth "Frame" "has_letter", .meth "Frame" "totals_from", .meth "Book" "frame"]
def fa : List He.Fa := fa0 ++ (fa1 ++ (fa2 ++ (fa3 ++ (fa4 ++ (fa5 ++ (fa6 ++ (fa7 ++ (fa8 ++ (fa9)))))))))
def nm0 : List PySem.Str := ["PairError", "NotShort", "BadName", "TwiceTold", "BadFrame", "ComesRound", "BadTerm", "NotKept", "NotFlat", "MixedEnds"]
def nm1 : List PySem.Str := ["NameMissing", "UnknownName", "parts_below", "sorts_told", "has_form", "_below", "_parts_checked", "parts_of", "parts_inner_first", "_ends_of_leaf"]
def nm2 : List PySem.Str := ["_ends_of_one", "_ends_of_two", "ends_above", "ends_of", "ends_behind", "is_number_below", "_has_none_of", "is_flat", "is_kept", "is_short"]
def nm3 : List PySem.Str := ["is_word", "first_again", "check_names", "_check_ends", "_check_totals", "_step_of", "_check_steps", "Frame", "led_to", "_is_mark"]
def nm4 : List PySem.Str := ["is_way", "_renumbered", "turned_way", "_way_of_cut", "_way_of_then", "_ways", "ways", "made_steps", "made", "_check_premise"]
def nm5 : List PySem.Str := ["Book", "_law_source", "_law_pick", "_law_names", "_law_frame", "_law_framed", "_law_with_totals", "_law_leaf", "_law_flat", "_law_term"]
def nm6 : List PySem.Str := ["_law_some_ends", "_law_ends", "_law_words", "_law_is_flat", "_law_moved", "_law_two_ways", "_law_ways", "_law_made_ways", "_law_most_places", "_law_same"]
def nm7 : List PySem.Str := ["_law_short_term", "_PARTS_BELOW", "_SORTS_TOLD", "_NOT_FLAT", "_NOT_SHORT", "_LETTERS", "_SIGNS"]
def nm : List PySem.Str := nm0 ++ (nm1 ++ (nm2 ++ (nm3 ++ (nm4 ++ (nm5 ++ (nm6 ++ (nm7)))))))
def CFrame (K : PySem.W.Frag) : Addr := He.ga K "Frame"
def CBook (K : PySem.W.Frag) : Addr := He.ga K "Book"
def CBadName (K : PySem.W.Frag) : Addr := He.ga K "BadName"
def CTwiceTold (K : PySem.W.Frag) : Addr := He.ga K "TwiceTold"
def CBadFrame (K : PySem.W.Frag) : Addr := He.ga K "BadFrame"
def CComesRound (K : PySem.W.Frag) : Addr := He.ga K "ComesRound"
def CBadTerm (K : PySem.W.Frag) : Addr := He.ga K "BadTerm"
def CUnknownName (K : PySem.W.Frag) : Addr := He.ga K "UnknownName"
def tNOTFLAT : List He.Dv := [.str "then", .str "closed", .str "walked"]
def tNOTSHORT : List He.Dv := [.str "closed", .str "walked"]
def kPARTSBELOW0 : List PySem.Str := ["letter", "same", "other", "none", "all", "rest", "turned", "joined", "cut", "then"]
def kPARTSBELOW1 : List PySem.Str := ["closed", "walked"]
def kPARTSBELOW : List PySem.Str := kPARTSBELOW0 ++ (kPARTSBELOW1)
def vPARTSBELOW0 : List (PySem.Str × He.Dv) := [("letter", .int 0), ("same", .int 0), ("other", .int 0), ("none", .int 0), ("all", .int 0), ("rest", .int 1), ("turned", .int 1), ("joined", .int 2), ("cut", .int 2), ("then", .int 2)]
def vPARTSBELOW1 : List (PySem.Str × He.Dv) := [("closed", .int 1), ("walked", .int 1)]
def vPARTSBELOW : List (PySem.Str × He.Dv) := vPARTSBELOW0 ++ (vPARTSBELOW1)
def kSORTSTOLD0 : List PySem.Str := ["same", "other", "none", "all"]
def kSORTSTOLD : List PySem.Str := kSORTSTOLD0
def vSORTSTOLD0 : List (PySem.Str × He.Dv) := [("same", .int 1), ("other", .int 1), ("none", .int 2), ("all", .int 2)]
def vSORTSTOLD : List (PySem.Str × He.Dv) := vSORTSTOLD0
/-- what else is asked of a class -/
def ocB (K : PySem.W.Frag) : Bool := He.eqO (PySem.W.specialIn K (.builtin "object.__class__") "__get__") (some (some (.builtin "getset_descriptor.__get__"))) && decide (PySem.W.takesIn K (.builtin "object.__class__") = some true)
def icB (K : PySem.W.Frag) (C : Addr) : Bool := He.eqO (PySem.W.findIn K (.ref C) "__class__") (some (some (.builtin "object.__class__"))) && decide (PySem.W.mroIn K C (.type "object") = some true)
/-- what is asked of the errors' classes -/
abbrev veB : List Value := [.type "ValueError", .type "Exception", .type "BaseException", .type "object"]
abbrev leB : List Value := [.type "LookupError", .type "Exception", .type "BaseException", .type "object"]
def ecB (K : PySem.W.Frag) (C : Addr) : Bool := (PySem.W.clsIn K C).isSome && (PySem.W.hasDictIn K C && (He.eqO (PySem.W.findIn K (.ref C) "__getattribute__") (some (some (.builtin "BaseException.__getattribute__"))) && (He.eqO (PySem.W.findIn K (.ref C) "__getattr__") (some none) &&
  (He.eqO (PySem.W.findIn K (.ref C) "__setattr__") (some (some (.builtin "object.__setattr__"))) && (He.eqO (PySem.W.findIn K (.ref C) "__class__") (some (some (.builtin "object.__class__"))) && (decide (PySem.W.subIn K (.ref C) (.type "BaseException") = some true) &&
  (decide (PySem.W.mroIn K C (.type "object") = some true) && PySem.W.keepIn K (.ref C))))))))
def xcB (K : PySem.W.Frag) (C : Addr) (f : Str) (bm : List Value) (new : String) : Bool := ecB K C && (PySem.W.excInitIn K C bm new && (PySem.W.excOver K C bm && (He.eqO (PySem.W.findIn K (.ref C) "__init__") (some (some (.ref (He.ma K C "__init__")))) &&
  (decide (PySem.W.typeIn K (.ref (He.ma K C "__init__")) = some (.type "function")) && (He.eqO (PySem.W.takerIn K C f) (some none) && (He.eqO (PySem.W.findIn K (.ref C) f) (some none) && decide (PySem.W.typeIn K (.ref C) = some (.type "type"))))))))
def ECs : List Str := ["BadName", "TwiceTold", "UnknownName", "BadFrame", "ComesRound"]
def exmB (K : PySem.W.Frag) (i : Nat) : Bool := (List.range 5).all fun j => decide (PySem.W.exmOne K (.ref (He.ga K (ECs.getD i ""))) (.ref (He.ga K (ECs.getD j ""))) = some (decide (i = j)))
def exB (K : PySem.W.Frag) : Bool := (decide (PySem.W.kitOne K (.type "str") (.type "str") = some true)) && ((xcB K (CBadName K) "name" veB "ValueError.__new__") && ((xcB K (CTwiceTold K) "name" veB "ValueError.__new__") && ((xcB K (CUnknownName K) "name" leB "LookupError.__new__") && ((xcB K (CBadFrame K) "name" veB "ValueError.__new__") && ((xcB K (CComesRound K) "members" veB "ValueError.__new__") && ((xcB K (CBadTerm K) "path" veB "ValueError.__new__") && ((decide (PySem.W.exmOne K (.ref (CBadTerm K)) (.ref (CBadTerm K)) = some true)) && ((decide (PySem.W.kitOne K (.type "tuple") (.type "tuple") = some true)) && ((He.valsB K (He.ga K "_PARTS_BELOW") vPARTSBELOW) && ((He.valsB K (He.ga K "_SORTS_TOLD") vSORTSTOLD) && ((He.tupB K "_NOT_FLAT" tNOTFLAT) && ((He.tupB K "_NOT_SHORT" tNOTSHORT) && (true)))))))))))))
def tabs : List He.Tab := [(fun K => He.ga K "_PARTS_BELOW", kPARTSBELOW), (fun K => He.ga K "_SORTS_TOLD", kSORTSTOLD)]
/-! ### the head's Hook: facts, tables, and one Bool more -/
abbrev AlY : Type := He.AlT × Bool
def obY (n : Nat) (g : Addr → Option Obj) : AlY := (He.obsTG n fa fn tabs g, exB (He.frG g (He.asD g n)))
def hookY (n : Nat) : PySem.W.Hook where
  α := AlY
  obs := fun s => obY n s.heap.get?
  val := fun w => (He.valT fn tabs w, true)
  says := fun w h => ∃ K : PySem.W.Frag, K.In h ∧ He.SaysT fa fn tabs w K ∧ exB K = true
  of := fun _ _ e => ⟨_, He.frG_in, congrArg (fun z : AlY => z.1) e, congrArg (fun z : AlY => z.2) e⟩
  keeps := fun _ _ _ ⟨K, hK, c⟩ k => ⟨K, PySem.W.Frag.In.keeps hK k, c⟩
theorem obY_eq {n : Nat} {g : Addr → Option Obj} {s : Shared} (h : ∀ a, g a = s.heap.get? a) : obY n g = (hookY n).obs s := by
  have e : g = s.heap.get? := funext h
  rw [e] <;> rfl
abbrev R : PySem.W.OpenRow := PySem.W.OpenLaw.row PySem.Challenge.rw_pairlaws_k43_made_places
abbrev hk : PySem.W.Hook := hookY 4
def ob (s : PySem.W.SharedT) : AlY := obY 4 (HandSHeadRun.getT s)
theorem ob_eq (s : PySem.W.SharedT) : ob s = hk.obs s.abs := obY_eq (HandSHeadRun.getT_eq s)
/-! ### what the head has told, in hand -/
structure Fx (w : World) (K : PySem.W.Frag) (mg : Str → Option Value) : Prop where
  g : ∀ (i : Nat) (x : Str), fa[i]? = some (He.Fa.glo x) → mg x = some (.ref (He.ga K x))
  f : ∀ (i : Nat) (x : Str), fa[i]? = some (He.Fa.free x) → mg x = none
  sLETTERS : ∃ t, mg "_LETTERS" = some (.str "abcdefghijklmnopqrstuvwxyz" t)
  sSIGNS : ∃ t, mg "_SIGNS" = some (.str "abcdefghijklmnopqrstuvwxyz0123456789" t)
  t : He.SaysT fa fn tabs w K
  ex : exB K = true
theorem Fx.of {w : World} {K : PySem.W.Frag} {mg : Str → Option Value} {h : Heap} (X : K.In h) (G : h.Ns mainGlobals mg) (c : He.SaysT fa fn tabs w K) (e : exB K = true) : Fx w K mg :=
  ⟨fun i _ z => He.glo_ok X G (c.d.fact i z), fun i _ z => He.free_ok X G (c.d.fact i z), He.str_ok X G (c.d.fact 87 (f := .str "_LETTERS" "abcdefghijklmnopqrstuvwxyz") rfl), He.str_ok X G (c.d.fact 88 (f := .str "_SIGNS" "abcdefghijklmnopqrstuvwxyz0123456789") rfl), c, e⟩
theorem an {a b : Bool} (h : (a && b) = true) : a = true ∧ b = true := Bool.and_eq_true_iff.mp h
section
variable {w : World} {K : PySem.W.Frag} {mg : Str → Option Value}
theorem Fx.d (Y : Fx w K mg) : He.SaysD fa fn K := Y.t.d
theorem Fx.gFrame (Y : Fx w K mg) : mg "Frame" = some (.ref (He.ga K "Frame")) := Y.g 0 _ rfl
theorem Fx.gBook (Y : Fx w K mg) : mg "Book" = some (.ref (He.ga K "Book")) := Y.g 1 _ rfl
theorem Fx.gPartsBelow (Y : Fx w K mg) : mg "parts_below" = some (.ref (He.ga K "parts_below")) := Y.g 2 _ rfl
theorem Fx.gSortsTold (Y : Fx w K mg) : mg "sorts_told" = some (.ref (He.ga K "sorts_told")) := Y.g 3 _ rfl
theorem Fx.gHasForm (Y : Fx w K mg) : mg "has_form" = some (.ref (He.ga K "has_form")) := Y.g 4 _ rfl
theorem Fx.gBelow (Y : Fx w K mg) : mg "_below" = some (.ref (He.ga K "_below")) := Y.g 5 _ rfl
theorem Fx.gPartsChecked (Y : Fx w K mg) : mg "_parts_checked" = some (.ref (He.ga K "_parts_checked")) := Y.g 6 _ rfl
theorem Fx.gPartsOf (Y : Fx w K mg) : mg "parts_of" = some (.ref (He.ga K "parts_of")) := Y.g 7 _ rfl
theorem Fx.gPartsInnerFirst (Y : Fx w K mg) : mg "parts_inner_first" = some (.ref (He.ga K "parts_inner_first")) := Y.g 8 _ rfl
theorem Fx.gEndsOfLeaf (Y : Fx w K mg) : mg "_ends_of_leaf" = some (.ref (He.ga K "_ends_of_leaf")) := Y.g 9 _ rfl
theorem Fx.gEndsOfOne (Y : Fx w K mg) : mg "_ends_of_one" = some (.ref (He.ga K "_ends_of_one")) := Y.g 10 _ rfl
theorem Fx.gEndsOfTwo (Y : Fx w K mg) : mg "_ends_of_two" = some (.ref (He.ga K "_ends_of_two")) := Y.g 11 _ rfl
theorem Fx.gEndsAbove (Y : Fx w K mg) : mg "ends_above" = some (.ref (He.ga K "ends_above")) := Y.g 12 _ rfl
theorem Fx.gEndsOf (Y : Fx w K mg) : mg "ends_of" = some (.ref (He.ga K "ends_of")) := Y.g 13 _ rfl
theorem Fx.gIsNumberBelow (Y : Fx w K mg) : mg "is_number_below" = some (.ref (He.ga K "is_number_below")) := Y.g 14 _ rfl
theorem Fx.gHasNoneOf (Y : Fx w K mg) : mg "_has_none_of" = some (.ref (He.ga K "_has_none_of")) := Y.g 15 _ rfl
theorem Fx.gIsFlat (Y : Fx w K mg) : mg "is_flat" = some (.ref (He.ga K "is_flat")) := Y.g 16 _ rfl
theorem Fx.gIsKept (Y : Fx w K mg) : mg "is_kept" = some (.ref (He.ga K "is_kept")) := Y.g 17 _ rfl
theorem Fx.gIsShort (Y : Fx w K mg) : mg "is_short" = some (.ref (He.ga K "is_short")) := Y.g 18 _ rfl
theorem Fx.gIsWord (Y : Fx w K mg) : mg "is_word" = some (.ref (He.ga K "is_word")) := Y.g 19 _ rfl
theorem Fx.gFirstAgain (Y : Fx w K mg) : mg "first_again" = some (.ref (He.ga K "first_again")) := Y.g 20 _ rfl
theorem Fx.gCheckNames (Y : Fx w K mg) : mg "check_names" = some (.ref (He.ga K "check_names")) := Y.g 21 _ rfl
theorem Fx.gCheckEnds (Y : Fx w K mg) : mg "_check_ends" = some (.ref (He.ga K "_check_ends")) := Y.g 22 _ rfl
theorem Fx.gCheckTotals (Y : Fx w K mg) : mg "_check_totals" = some (.ref (He.ga K "_check_totals")) := Y.g 23 _ rfl
theorem Fx.gStepOf (Y : Fx w K mg) : mg "_step_of" = some (.ref (He.ga K "_step_of")) := Y.g 24 _ rfl
theorem Fx.gCheckSteps (Y : Fx w K mg) : mg "_check_steps" = some (.ref (He.ga K "_check_steps")) := Y.g 25 _ rfl
theorem Fx.gLedTo (Y : Fx w K mg) : mg "led_to" = some (.ref (He.ga K "led_to")) := Y.g 26 _ rfl
theorem Fx.gIsMark (Y : Fx w K mg) : mg "_is_mark" = some (.ref (He.ga K "_is_mark")) := Y.g 27 _ rfl
theorem Fx.gIsWay (Y : Fx w K mg) : mg "is_way" = some (.ref (He.ga K "is_way")) := Y.g 28 _ rfl
theorem Fx.gRenumbered (Y : Fx w K mg) : mg "_renumbered" = some (.ref (He.ga K "_renumbered")) := Y.g 29 _ rfl
theorem Fx.gTurnedWay (Y : Fx w K mg) : mg "turned_way" = some (.ref (He.ga K "turned_way")) := Y.g 30 _ rfl
theorem Fx.gWayOfCut (Y : Fx w K mg) : mg "_way_of_cut" = some (.ref (He.ga K "_way_of_cut")) := Y.g 31 _ rfl
theorem Fx.gWayOfThen (Y : Fx w K mg) : mg "_way_of_then" = some (.ref (He.ga K "_way_of_then")) := Y.g 32 _ rfl
theorem Fx.gUWays (Y : Fx w K mg) : mg "_ways" = some (.ref (He.ga K "_ways")) := Y.g 33 _ rfl
theorem Fx.gWays (Y : Fx w K mg) : mg "ways" = some (.ref (He.ga K "ways")) := Y.g 34 _ rfl
theorem Fx.gMadeSteps (Y : Fx w K mg) : mg "made_steps" = some (.ref (He.ga K "made_steps")) := Y.g 35 _ rfl
theorem Fx.gMade (Y : Fx w K mg) : mg "made" = some (.ref (He.ga K "made")) := Y.g 36 _ rfl
theorem Fx.gCheckPremise (Y : Fx w K mg) : mg "_check_premise" = some (.ref (He.ga K "_check_premise")) := Y.g 37 _ rfl
theorem Fx.gLawSource (Y : Fx w K mg) : mg "_law_source" = some (.ref (He.ga K "_law_source")) := Y.g 38 _ rfl
theorem Fx.gLawPick (Y : Fx w K mg) : mg "_law_pick" = some (.ref (He.ga K "_law_pick")) := Y.g 39 _ rfl
theorem Fx.gLawNames (Y : Fx w K mg) : mg "_law_names" = some (.ref (He.ga K "_law_names")) := Y.g 40 _ rfl
theorem Fx.gLawFrame (Y : Fx w K mg) : mg "_law_frame" = some (.ref (He.ga K "_law_frame")) := Y.g 41 _ rfl
theorem Fx.gLawFramed (Y : Fx w K mg) : mg "_law_framed" = some (.ref (He.ga K "_law_framed")) := Y.g 42 _ rfl
theorem Fx.gLawWithTotals (Y : Fx w K mg) : mg "_law_with_totals" = some (.ref (He.ga K "_law_with_totals")) := Y.g 43 _ rfl
theorem Fx.gLawLeaf (Y : Fx w K mg) : mg "_law_leaf" = some (.ref (He.ga K "_law_leaf")) := Y.g 44 _ rfl
theorem Fx.gLawFlat (Y : Fx w K mg) : mg "_law_flat" = some (.ref (He.ga K "_law_flat")) := Y.g 45 _ rfl
theorem Fx.gLawTerm (Y : Fx w K mg) : mg "_law_term" = some (.ref (He.ga K "_law_term")) := Y.g 46 _ rfl
theorem Fx.gLawSomeEnds (Y : Fx w K mg) : mg "_law_some_ends" = some (.ref (He.ga K "_law_some_ends")) := Y.g 47 _ rfl
theorem Fx.gLawEnds (Y : Fx w K mg) : mg "_law_ends" = some (.ref (He.ga K "_law_ends")) := Y.g 48 _ rfl
theorem Fx.gLawWords (Y : Fx w K mg) : mg "_law_words" = some (.ref (He.ga K "_law_words")) := Y.g 49 _ rfl
theorem Fx.gLawIsFlat (Y : Fx w K mg) : mg "_law_is_flat" = some (.ref (He.ga K "_law_is_flat")) := Y.g 50 _ rfl
theorem Fx.gLawMoved (Y : Fx w K mg) : mg "_law_moved" = some (.ref (He.ga K "_law_moved")) := Y.g 51 _ rfl
theorem Fx.gLawTwoWays (Y : Fx w K mg) : mg "_law_two_ways" = some (.ref (He.ga K "_law_two_ways")) := Y.g 52 _ rfl
theorem Fx.gLawWays (Y : Fx w K mg) : mg "_law_ways" = some (.ref (He.ga K "_law_ways")) := Y.g 53 _ rfl
theorem Fx.gLawMadeWays (Y : Fx w K mg) : mg "_law_made_ways" = some (.ref (He.ga K "_law_made_ways")) := Y.g 54 _ rfl
theorem Fx.gLawMostPlaces (Y : Fx w K mg) : mg "_law_most_places" = some (.ref (He.ga K "_law_most_places")) := Y.g 55 _ rfl
theorem Fx.gLawSame (Y : Fx w K mg) : mg "_law_same" = some (.ref (He.ga K "_law_same")) := Y.g 56 _ rfl
theorem Fx.gLawShortTerm (Y : Fx w K mg) : mg "_law_short_term" = some (.ref (He.ga K "_law_short_term")) := Y.g 57 _ rfl
theorem Fx.gLaw (Y : Fx w K mg) : mg "law" = some (.ref (He.ga K "law")) := Y.g 58 _ rfl
theorem Fx.gBadName (Y : Fx w K mg) : mg "BadName" = some (.ref (He.ga K "BadName")) := Y.g 59 _ rfl
theorem Fx.gTwiceTold (Y : Fx w K mg) : mg "TwiceTold" = some (.ref (He.ga K "TwiceTold")) := Y.g 60 _ rfl
theorem Fx.gBadFrame (Y : Fx w K mg) : mg "BadFrame" = some (.ref (He.ga K "BadFrame")) := Y.g 61 _ rfl
theorem Fx.gComesRound (Y : Fx w K mg) : mg "ComesRound" = some (.ref (He.ga K "ComesRound")) := Y.g 62 _ rfl
theorem Fx.gBadTerm (Y : Fx w K mg) : mg "BadTerm" = some (.ref (He.ga K "BadTerm")) := Y.g 63 _ rfl
theorem Fx.gUnknownName (Y : Fx w K mg) : mg "UnknownName" = some (.ref (He.ga K "UnknownName")) := Y.g 64 _ rfl
theorem Fx.gNOTFLAT (Y : Fx w K mg) : mg "_NOT_FLAT" = some (.ref (He.ga K "_NOT_FLAT")) := Y.g 65 _ rfl
theorem Fx.gNOTSHORT (Y : Fx w K mg) : mg "_NOT_SHORT" = some (.ref (He.ga K "_NOT_SHORT")) := Y.g 66 _ rfl
theorem Fx.gPARTSBELOW (Y : Fx w K mg) : mg "_PARTS_BELOW" = some (.ref (He.ga K "_PARTS_BELOW")) := Y.g 67 _ rfl
theorem Fx.gSORTSTOLD (Y : Fx w K mg) : mg "_SORTS_TOLD" = some (.ref (He.ga K "_SORTS_TOLD")) := Y.g 68 _ rfl
theorem Fx.bAbs (Y : Fx w K mg) : mg "abs" = none := Y.f 69 _ rfl
theorem Fx.bInt (Y : Fx w K mg) : mg "int" = none := Y.f 70 _ rfl
theorem Fx.bLen (Y : Fx w K mg) : mg "len" = none := Y.f 71 _ rfl
theorem Fx.bRange (Y : Fx w K mg) : mg "range" = none := Y.f 72 _ rfl
theorem Fx.bEnumerate (Y : Fx w K mg) : mg "enumerate" = none := Y.f 73 _ rfl
theorem Fx.bIsinstance (Y : Fx w K mg) : mg "isinstance" = none := Y.f 74 _ rfl
theorem Fx.bStr (Y : Fx w K mg) : mg "str" = none := Y.f 75 _ rfl
theorem Fx.bTuple (Y : Fx w K mg) : mg "tuple" = none := Y.f 76 _ rfl
theorem Fx.bList (Y : Fx w K mg) : mg "list" = none := Y.f 77 _ rfl
theorem Fx.bSet (Y : Fx w K mg) : mg "set" = none := Y.f 78 _ rfl
theorem Fx.bAll (Y : Fx w K mg) : mg "all" = none := Y.f 79 _ rfl
theorem Fx.bAny (Y : Fx w K mg) : mg "any" = none := Y.f 80 _ rfl
theorem Fx.bRepr (Y : Fx w K mg) : mg "repr" = none := Y.f 81 _ rfl
theorem Fx.bBool (Y : Fx w K mg) : mg "bool" = none := Y.f 82 _ rfl
theorem Fx.dPartsBelow (Y : Fx w K mg) : ∃ fd, FunD K "parts_below" "parts_below" (defArgs sPartsBelow) (defBody sPartsBelow) (defScope sPartsBelow) [] [] (He.ga K "parts_below") fd := Y.d.def_ 0 (d := K43.dPartsBelow) rfl
theorem Fx.dSortsTold (Y : Fx w K mg) : ∃ fd, FunD K "sorts_told" "sorts_told" (defArgs sSortsTold) (defBody sSortsTold) (defScope sSortsTold) [] [] (He.ga K "sorts_told") fd := Y.d.def_ 1 (d := K43.dSortsTold) rfl
theorem Fx.dHasForm (Y : Fx w K mg) : ∃ fd, FunD K "has_form" "has_form" (defArgs sHasForm) (defBody sHasForm) (defScope sHasForm) [] [] (He.ga K "has_form") fd := Y.d.def_ 2 (d := K43.dHasForm) rfl
theorem Fx.dBelow (Y : Fx w K mg) : ∃ fd, FunD K "_below" "_below" (defArgs sBelow) (defBody sBelow) (defScope sBelow) [] [] (He.ga K "_below") fd := Y.d.def_ 3 (d := K43.dBelow) rfl
theorem Fx.dPartsChecked (Y : Fx w K mg) : ∃ fd, FunD K "_parts_checked" "_parts_checked" (defArgs sPartsChecked) (defBody sPartsChecked) (defScope sPartsChecked) [] [] (He.ga K "_parts_checked") fd := Y.d.def_ 4 (d := K43.dPartsChecked) rfl
theorem Fx.dPartsOf (Y : Fx w K mg) : ∃ fd, FunD K "parts_of" "parts_of" (defArgs sPartsOf) (defBody sPartsOf) (defScope sPartsOf) [] [] (He.ga K "parts_of") fd := Y.d.def_ 5 (d := K43.dPartsOf) rfl
theorem Fx.dPartsInnerFirst (Y : Fx w K mg) : ∃ fd, FunD K "parts_inner_first" "parts_inner_first" (defArgs sPartsInnerFirst) (defBody sPartsInnerFirst) (defScope sPartsInnerFirst) [] [] (He.ga K "parts_inner_first") fd := Y.d.def_ 6 (d := K43.dPartsInnerFirst) rfl
theorem Fx.dEndsOfLeaf (Y : Fx w K mg) : ∃ fd, FunD K "_ends_of_leaf" "_ends_of_leaf" (defArgs sEndsOfLeaf) (defBody sEndsOfLeaf) (defScope sEndsOfLeaf) [] [] (He.ga K "_ends_of_leaf") fd := Y.d.def_ 7 (d := K43.dEndsOfLeaf) rfl
theorem Fx.dEndsOfOne (Y : Fx w K mg) : ∃ fd, FunD K "_ends_of_one" "_ends_of_one" (defArgs sEndsOfOne) (defBody sEndsOfOne) (defScope sEndsOfOne) [] [] (He.ga K "_ends_of_one") fd := Y.d.def_ 8 (d := K43.dEndsOfOne) rfl
theorem Fx.dEndsOfTwo (Y : Fx w K mg) : ∃ fd, FunD K "_ends_of_two" "_ends_of_two" (defArgs sEndsOfTwo) (defBody sEndsOfTwo) (defScope sEndsOfTwo) [] [] (He.ga K "_ends_of_two") fd := Y.d.def_ 9 (d := K43.dEndsOfTwo) rfl
theorem Fx.dEndsAbove (Y : Fx w K mg) : ∃ fd, FunD K "ends_above" "ends_above" (defArgs sEndsAbove) (defBody sEndsAbove) (defScope sEndsAbove) [] [] (He.ga K "ends_above") fd := Y.d.def_ 10 (d := K43.dEndsAbove) rfl
theorem Fx.dEndsOf (Y : Fx w K mg) : ∃ fd, FunD K "ends_of" "ends_of" (defArgs sEndsOf) (defBody sEndsOf) (defScope sEndsOf) [] [] (He.ga K "ends_of") fd := Y.d.def_ 11 (d := K43.dEndsOf) rfl
theorem Fx.dIsNumberBelow (Y : Fx w K mg) : ∃ fd, FunD K "is_number_below" "is_number_below" (defArgs sIsNumberBelow) (defBody sIsNumberBelow) (defScope sIsNumberBelow) [] [] (He.ga K "is_number_below") fd := Y.d.def_ 12 (d := K43.dIsNumberBelow) rfl
theorem Fx.dHasNoneOf (Y : Fx w K mg) : ∃ fd, FunD K "_has_none_of" "_has_none_of" (defArgs sHasNoneOf) (defBody sHasNoneOf) (defScope sHasNoneOf) [] [] (He.ga K "_has_none_of") fd := Y.d.def_ 13 (d := K43.dHasNoneOf) rfl
theorem Fx.dIsFlat (Y : Fx w K mg) : ∃ fd, FunD K "is_flat" "is_flat" (defArgs sIsFlat) (defBody sIsFlat) (defScope sIsFlat) [] [] (He.ga K "is_flat") fd := Y.d.def_ 14 (d := K43.dIsFlat) rfl
theorem Fx.dIsKept (Y : Fx w K mg) : ∃ fd, FunD K "is_kept" "is_kept" (defArgs sIsKept) (defBody sIsKept) (defScope sIsKept) [] [] (He.ga K "is_kept") fd := Y.d.def_ 15 (d := K43.dIsKept) rfl
theorem Fx.dIsShort (Y : Fx w K mg) : ∃ fd, FunD K "is_short" "is_short" (defArgs sIsShort) (defBody sIsShort) (defScope sIsShort) [] [] (He.ga K "is_short") fd := Y.d.def_ 16 (d := K43.dIsShort) rfl
theorem Fx.dIsWord (Y : Fx w K mg) : ∃ fd, FunD K "is_word" "is_word" (defArgs sIsWord) (defBody sIsWord) (defScope sIsWord) [] [] (He.ga K "is_word") fd := Y.d.def_ 17 (d := K43.dIsWord) rfl
theorem Fx.dFirstAgain (Y : Fx w K mg) : ∃ fd, FunD K "first_again" "first_again" (defArgs sFirstAgain) (defBody sFirstAgain) (defScope sFirstAgain) [] [] (He.ga K "first_again") fd := Y.d.def_ 18 (d := K43.dFirstAgain) rfl
theorem Fx.dCheckNames (Y : Fx w K mg) : ∃ fd, FunD K "check_names" "check_names" (defArgs sCheckNames) (defBody sCheckNames) (defScope sCheckNames) [] [] (He.ga K "check_names") fd := Y.d.def_ 19 (d := K43.dCheckNames) rfl
theorem Fx.dCheckEnds (Y : Fx w K mg) : ∃ fd, FunD K "_check_ends" "_check_ends" (defArgs sCheckEnds) (defBody sCheckEnds) (defScope sCheckEnds) [] [] (He.ga K "_check_ends") fd := Y.d.def_ 20 (d := K43.dCheckEnds) rfl
theorem Fx.dCheckTotals (Y : Fx w K mg) : ∃ fd, FunD K "_check_totals" "_check_totals" (defArgs sCheckTotals) (defBody sCheckTotals) (defScope sCheckTotals) [] [] (He.ga K "_check_totals") fd := Y.d.def_ 21 (d := K43.dCheckTotals) rfl
theorem Fx.dStepOf (Y : Fx w K mg) : ∃ fd, FunD K "_step_of" "_step_of" (defArgs sStepOf) (defBody sStepOf) (defScope sStepOf) [] [] (He.ga K "_step_of") fd := Y.d.def_ 22 (d := K43.dStepOf) rfl
theorem Fx.dCheckSteps (Y : Fx w K mg) : ∃ fd, FunD K "_check_steps" "_check_steps" (defArgs sCheckSteps) (defBody sCheckSteps) (defScope sCheckSteps) [] [] (He.ga K "_check_steps") fd := Y.d.def_ 23 (d := K43.dCheckSteps) rfl
theorem Fx.dLedTo (Y : Fx w K mg) : ∃ fd, FunD K "led_to" "led_to" (defArgs sLedTo) (defBody sLedTo) (defScope sLedTo) [] [] (He.ga K "led_to") fd := Y.d.def_ 24 (d := K43.dLedTo) rfl
theorem Fx.dIsMark (Y : Fx w K mg) : ∃ fd, FunD K "_is_mark" "_is_mark" (defArgs sIsMark) (defBody sIsMark) (defScope sIsMark) [] [] (He.ga K "_is_mark") fd := Y.d.def_ 25 (d := K43.dIsMark) rfl
theorem Fx.dIsWay (Y : Fx w K mg) : ∃ fd, FunD K "is_way" "is_way" (defArgs sIsWay) (defBody sIsWay) (defScope sIsWay) [] [] (He.ga K "is_way") fd := Y.d.def_ 26 (d := K43.dIsWay) rfl
theorem Fx.dRenumbered (Y : Fx w K mg) : ∃ fd, FunD K "_renumbered" "_renumbered" (defArgs sRenumbered) (defBody sRenumbered) (defScope sRenumbered) [] [] (He.ga K "_renumbered") fd := Y.d.def_ 27 (d := K43.dRenumbered) rfl
theorem Fx.dTurnedWay (Y : Fx w K mg) : ∃ fd, FunD K "turned_way" "turned_way" (defArgs sTurnedWay) (defBody sTurnedWay) (defScope sTurnedWay) [] [] (He.ga K "turned_way") fd := Y.d.def_ 28 (d := K43.dTurnedWay) rfl
theorem Fx.dWayOfCut (Y : Fx w K mg) : ∃ fd, FunD K "_way_of_cut" "_way_of_cut" (defArgs sWayOfCut) (defBody sWayOfCut) (defScope sWayOfCut) [] [] (He.ga K "_way_of_cut") fd := Y.d.def_ 29 (d := K43.dWayOfCut) rfl
theorem Fx.dWayOfThen (Y : Fx w K mg) : ∃ fd, FunD K "_way_of_then" "_way_of_then" (defArgs sWayOfThen) (defBody sWayOfThen) (defScope sWayOfThen) [] [] (He.ga K "_way_of_then") fd := Y.d.def_ 30 (d := K43.dWayOfThen) rfl
theorem Fx.dUWays (Y : Fx w K mg) : ∃ fd, FunD K "_ways" "_ways" (defArgs sUWays) (defBody sUWays) (defScope sUWays) [] [] (He.ga K "_ways") fd := Y.d.def_ 31 (d := K43.dUWays) rfl
theorem Fx.dWays (Y : Fx w K mg) : ∃ fd, FunD K "ways" "ways" (defArgs sWays) (defBody sWays) (defScope sWays) [] [] (He.ga K "ways") fd := Y.d.def_ 32 (d := K43.dWays) rfl
theorem Fx.dMadeSteps (Y : Fx w K mg) : ∃ fd, FunD K "made_steps" "made_steps" (defArgs sMadeSteps) (defBody sMadeSteps) (defScope sMadeSteps) [] [] (He.ga K "made_steps") fd := Y.d.def_ 33 (d := K43.dMadeSteps) rfl
theorem Fx.dMade (Y : Fx w K mg) : ∃ fd, FunD K "made" "made" (defArgs sMade) (defBody sMade) (defScope sMade) [] [] (He.ga K "made") fd := Y.d.def_ 34 (d := K43.dMade) rfl
theorem Fx.dCheckPremise (Y : Fx w K mg) : ∃ fd, FunD K "_check_premise" "_check_premise" (defArgs sCheckPremise) (defBody sCheckPremise) (defScope sCheckPremise) [] [] (He.ga K "_check_premise") fd := Y.d.def_ 35 (d := K43.dCheckPremise) rfl
theorem Fx.dLawSource (Y : Fx w K mg) : ∃ fd, FunD K "_law_source" "_law_source" (defArgs sLawSource) (defBody sLawSource) (defScope sLawSource) [] [] (He.ga K "_law_source") fd := Y.d.def_ 36 (d := K43.dLawSource) rfl
theorem Fx.dLawPick (Y : Fx w K mg) : ∃ fd, FunD K "_law_pick" "_law_pick" (defArgs sLawPick) (defBody sLawPick) (defScope sLawPick) [] [] (He.ga K "_law_pick") fd := Y.d.def_ 37 (d := K43.dLawPick) rfl
theorem Fx.dLawNames (Y : Fx w K mg) : ∃ fd, FunD K "_law_names" "_law_names" (defArgs sLawNames) (defBody sLawNames) (defScope sLawNames) [] [] (He.ga K "_law_names") fd := Y.d.def_ 38 (d := K43.dLawNames) rfl
theorem Fx.dLawFrame (Y : Fx w K mg) : ∃ fd, FunD K "_law_frame" "_law_frame" (defArgs sLawFrame) (defBody sLawFrame) (defScope sLawFrame) [] [] (He.ga K "_law_frame") fd := Y.d.def_ 39 (d := K43.dLawFrame) rfl
theorem Fx.dLawFramed (Y : Fx w K mg) : ∃ fd, FunD K "_law_framed" "_law_framed" (defArgs sLawFramed) (defBody sLawFramed) (defScope sLawFramed) [] [] (He.ga K "_law_framed") fd := Y.d.def_ 40 (d := K43.dLawFramed) rfl
theorem Fx.dLawWithTotals (Y : Fx w K mg) : ∃ fd, FunD K "_law_with_totals" "_law_with_totals" (defArgs sLawWithTotals) (defBody sLawWithTotals) (defScope sLawWithTotals) [] [] (He.ga K "_law_with_totals") fd := Y.d.def_ 41 (d := K43.dLawWithTotals) rfl
theorem Fx.dLawLeaf (Y : Fx w K mg) : ∃ fd, FunD K "_law_leaf" "_law_leaf" (defArgs sLawLeaf) (defBody sLawLeaf) (defScope sLawLeaf) [] [] (He.ga K "_law_leaf") fd := Y.d.def_ 42 (d := K43.dLawLeaf) rfl
theorem Fx.dLawFlat (Y : Fx w K mg) : ∃ fd, FunD K "_law_flat" "_law_flat" (defArgs sLawFlat) (defBody sLawFlat) (defScope sLawFlat) [] [] (He.ga K "_law_flat") fd := Y.d.def_ 43 (d := K43.dLawFlat) rfl
theorem Fx.dLawTerm (Y : Fx w K mg) : ∃ fd, FunD K "_law_term" "_law_term" (defArgs sLawTerm) (defBody sLawTerm) (defScope sLawTerm) [] [] (He.ga K "_law_term") fd := Y.d.def_ 44 (d := K43.dLawTerm) rfl
theorem Fx.dLawSomeEnds (Y : Fx w K mg) : ∃ fd, FunD K "_law_some_ends" "_law_some_ends" (defArgs sLawSomeEnds) (defBody sLawSomeEnds) (defScope sLawSomeEnds) [] [] (He.ga K "_law_some_ends") fd := Y.d.def_ 45 (d := K43.dLawSomeEnds) rfl
theorem Fx.dLawEnds (Y : Fx w K mg) : ∃ fd, FunD K "_law_ends" "_law_ends" (defArgs sLawEnds) (defBody sLawEnds) (defScope sLawEnds) [] [] (He.ga K "_law_ends") fd := Y.d.def_ 46 (d := K43.dLawEnds) rfl
theorem Fx.dLawWords (Y : Fx w K mg) : ∃ fd, FunD K "_law_words" "_law_words" (defArgs sLawWords) (defBody sLawWords) (defScope sLawWords) [] [] (He.ga K "_law_words") fd := Y.d.def_ 47 (d := K43.dLawWords) rfl
theorem Fx.dLawIsFlat (Y : Fx w K mg) : ∃ fd, FunD K "_law_is_flat" "_law_is_flat" (defArgs sLawIsFlat) (defBody sLawIsFlat) (defScope sLawIsFlat) [] [] (He.ga K "_law_is_flat") fd := Y.d.def_ 48 (d := K43.dLawIsFlat) rfl
theorem Fx.dLawMoved (Y : Fx w K mg) : ∃ fd, FunD K "_law_moved" "_law_moved" (defArgs sLawMoved) (defBody sLawMoved) (defScope sLawMoved) [] [] (He.ga K "_law_moved") fd := Y.d.def_ 49 (d := K43.dLawMoved) rfl
theorem Fx.dLawTwoWays (Y : Fx w K mg) : ∃ fd, FunD K "_law_two_ways" "_law_two_ways" (defArgs sLawTwoWays) (defBody sLawTwoWays) (defScope sLawTwoWays) [] [] (He.ga K "_law_two_ways") fd := Y.d.def_ 50 (d := K43.dLawTwoWays) rfl
theorem Fx.dLawWays (Y : Fx w K mg) : ∃ fd, FunD K "_law_ways" "_law_ways" (defArgs sLawWays) (defBody sLawWays) (defScope sLawWays) [] [] (He.ga K "_law_ways") fd := Y.d.def_ 51 (d := K43.dLawWays) rfl
theorem Fx.dLawMadeWays (Y : Fx w K mg) : ∃ fd, FunD K "_law_made_ways" "_law_made_ways" (defArgs sLawMadeWays) (defBody sLawMadeWays) (defScope sLawMadeWays) [] [] (He.ga K "_law_made_ways") fd := Y.d.def_ 52 (d := K43.dLawMadeWays) rfl
theorem Fx.dLawMostPlaces (Y : Fx w K mg) : ∃ fd, FunD K "_law_most_places" "_law_most_places" (defArgs sLawMostPlaces) (defBody sLawMostPlaces) (defScope sLawMostPlaces) [] [] (He.ga K "_law_most_places") fd := Y.d.def_ 53 (d := K43.dLawMostPlaces) rfl
theorem Fx.dLawSame (Y : Fx w K mg) : ∃ fd, FunD K "_law_same" "_law_same" (defArgs sLawSame) (defBody sLawSame) (defScope sLawSame) [] [] (He.ga K "_law_same") fd := Y.d.def_ 54 (d := K43.dLawSame) rfl
theorem Fx.dLawShortTerm (Y : Fx w K mg) : ∃ fd, FunD K "_law_short_term" "_law_short_term" (defArgs sLawShortTerm) (defBody sLawShortTerm) (defScope sLawShortTerm) [] [] (He.ga K "_law_short_term") fd := Y.d.def_ 55 (d := K43.dLawShortTerm) rfl
theorem Fx.dLaw (Y : Fx w K mg) : ∃ fd, FunD K "law" "law" (defArgs sLaw) (defBody sLaw) (defScope sLaw) [] [] (He.ga K "law") fd := Y.d.def_ 56 (d := K43.dLaw) rfl
theorem Fx.cFrame (Y : Fx w K mg) : Cls K (CFrame K) := He.cls_ok (Y.d.fact 83 (f := .cls "Frame") rfl)
theorem Fx.mFrame (Y : Fx w K mg) : Mk K (CFrame K) (He.ma K (CFrame K) "__init__") := He.mkr_ok (Y.d.fact 85 (f := .mkr "Frame") rfl)
theorem Fx.dFrame_Init (Y : Fx w K mg) : ∃ fd, FunD K "__init__" "Frame.__init__" (defArgs sFrame_Init) (defBody sFrame_Init) (defScope sFrame_Init) [] [] (He.ma K (CFrame K) "__init__") fd := Y.d.def_ 57 (d := K43.dFrame_Init) rfl
theorem Fx.dFrame_Ends (Y : Fx w K mg) : ∃ fd, FunD K "ends" "Frame.ends" (defArgs sFrame_Ends) (defBody sFrame_Ends) (defScope sFrame_Ends) [] [] (He.ma K (CFrame K) "ends") fd := Y.d.def_ 58 (d := K43.dFrame_Ends) rfl
theorem Fx.mFrame_Ends (Y : Fx w K mg) : Meth K (CFrame K) "ends" (He.ma K (CFrame K) "ends") := He.meth_ok (Y.d.fact 95 (f := .meth "Frame" "ends") rfl)
theorem Fx.dFrame_HasSort (Y : Fx w K mg) : ∃ fd, FunD K "has_sort" "Frame.has_sort" (defArgs sFrame_HasSort) (defBody sFrame_HasSort) (defScope sFrame_HasSort) [] [] (He.ma K (CFrame K) "has_sort") fd := Y.d.def_ 59 (d := K43.dFrame_HasSort) rfl
theorem Fx.mFrame_HasSort (Y : Fx w K mg) : Meth K (CFrame K) "has_sort" (He.ma K (CFrame K) "has_sort") := He.meth_ok (Y.d.fact 96 (f := .meth "Frame" "has_sort") rfl)
theorem Fx.dFrame_HasLetter (Y : Fx w K mg) : ∃ fd, FunD K "has_letter" "Frame.has_letter" (defArgs sFrame_HasLetter) (defBody sFrame_HasLetter) (defScope sFrame_HasLetter) [] [] (He.ma K (CFrame K) "has_letter") fd := Y.d.def_ 60 (d := K43.dFrame_HasLetter) rfl
theorem Fx.mFrame_HasLetter (Y : Fx w K mg) : Meth K (CFrame K) "has_letter" (He.ma K (CFrame K) "has_letter") := He.meth_ok (Y.d.fact 97 (f := .meth "Frame" "has_letter") rfl)
theorem Fx.dFrame_TotalsFrom (Y : Fx w K mg) : ∃ fd, FunD K "totals_from" "Frame.totals_from" (defArgs sFrame_TotalsFrom) (defBody sFrame_TotalsFrom) (defScope sFrame_TotalsFrom) [] [] (He.ma K (CFrame K) "totals_from") fd := Y.d.def_ 61 (d := K43.dFrame_TotalsFrom) rfl
theorem Fx.mFrame_TotalsFrom (Y : Fx w K mg) : Meth K (CFrame K) "totals_from" (He.ma K (CFrame K) "totals_from") := He.meth_ok (Y.d.fact 98 (f := .meth "Frame" "totals_from") rfl)
theorem Fx.cBook (Y : Fx w K mg) : Cls K (CBook K) := He.cls_ok (Y.d.fact 84 (f := .cls "Book") rfl)
theorem Fx.mBook (Y : Fx w K mg) : Mk K (CBook K) (He.ma K (CBook K) "__init__") := He.mkr_ok (Y.d.fact 86 (f := .mkr "Book") rfl)
theorem Fx.dBook_Init (Y : Fx w K mg) : ∃ fd, FunD K "__init__" "Book.__init__" (defArgs sBook_Init) (defBody sBook_Init) (defScope sBook_Init) [] [] (He.ma K (CBook K) "__init__") fd := Y.d.def_ 62 (d := K43.dBook_Init) rfl
theorem Fx.dBook_Frame (Y : Fx w K mg) : ∃ fd, FunD K "frame" "Book.frame" (defArgs sBook_Frame) (defBody sBook_Frame) (defScope sBook_Frame) [] [] (He.ma K (CBook K) "frame") fd := Y.d.def_ 63 (d := K43.dBook_Frame) rfl
theorem Fx.mBook_Frame (Y : Fx w K mg) : Meth K (CBook K) "frame" (He.ma K (CBook K) "frame") := He.meth_ok (Y.d.fact 99 (f := .meth "Book" "frame") rfl)
theorem Fx.dBadName_Init (Y : Fx w K mg) : ∃ fd, FunD K "__init__" "BadName.__init__" (defArgs sBadName_Init) (defBody sBadName_Init) (defScope sBadName_Init) [] [] (He.ma K (CBadName K) "__init__") fd := Y.d.def_ 64 (d := K43.dBadName_Init) rfl
theorem Fx.dTwiceTold_Init (Y : Fx w K mg) : ∃ fd, FunD K "__init__" "TwiceTold.__init__" (defArgs sTwiceTold_Init) (defBody sTwiceTold_Init) (defScope sTwiceTold_Init) [] [] (He.ma K (CTwiceTold K) "__init__") fd := Y.d.def_ 65 (d := K43.dTwiceTold_Init) rfl
theorem Fx.dBadFrame_Init (Y : Fx w K mg) : ∃ fd, FunD K "__init__" "BadFrame.__init__" (defArgs sBadFrame_Init) (defBody sBadFrame_Init) (defScope sBadFrame_Init) [] [] (He.ma K (CBadFrame K) "__init__") fd := Y.d.def_ 66 (d := K43.dBadFrame_Init) rfl
theorem Fx.dComesRound_Init (Y : Fx w K mg) : ∃ fd, FunD K "__init__" "ComesRound.__init__" (defArgs sComesRound_Init) (defBody sComesRound_Init) (defScope sComesRound_Init) [] [] (He.ma K (CComesRound K) "__init__") fd := Y.d.def_ 67 (d := K43.dComesRound_Init) rfl
theorem Fx.dBadTerm_Init (Y : Fx w K mg) : ∃ fd, FunD K "__init__" "BadTerm.__init__" (defArgs sBadTerm_Init) (defBody sBadTerm_Init) (defScope sBadTerm_Init) [] [] (He.ma K (CBadTerm K) "__init__") fd := Y.d.def_ 68 (d := K43.dBadTerm_Init) rfl
theorem Fx.dUnknownName_Init (Y : Fx w K mg) : ∃ fd, FunD K "__init__" "UnknownName.__init__" (defArgs sUnknownName_Init) (defBody sUnknownName_Init) (defScope sUnknownName_Init) [] [] (He.ma K (CUnknownName K) "__init__") fd := Y.d.def_ 69 (d := K43.dUnknownName_Init) rfl
theorem Fx.nFrameSorts (Y : Fx w K mg) : NoAttr K (CFrame K) "_sorts" := He.noat_ok (Y.d.fact 89 (f := .noat "Frame" "_sorts") rfl)
theorem Fx.nFrameLetters (Y : Fx w K mg) : NoAttr K (CFrame K) "_letters" := He.noat_ok (Y.d.fact 90 (f := .noat "Frame" "_letters") rfl)
theorem Fx.nFrameTotals (Y : Fx w K mg) : NoAttr K (CFrame K) "_totals" := He.noat_ok (Y.d.fact 91 (f := .noat "Frame" "_totals") rfl)
theorem Fx.nFrameEnds (Y : Fx w K mg) : NoAttr K (CFrame K) "_ends" := He.noat_ok (Y.d.fact 92 (f := .noat "Frame" "_ends") rfl)
theorem Fx.nBookFrame (Y : Fx w K mg) : NoAttr K (CBook K) "_frame" := He.noat_ok (Y.d.fact 93 (f := .noat "Book" "_frame") rfl)
theorem Fx.nBookPremises (Y : Fx w K mg) : NoAttr K (CBook K) "_premises" := He.noat_ok (Y.d.fact 94 (f := .noat "Book" "_premises") rfl)
theorem Fx.x0 (Y : Fx w K mg) : (decide (PySem.W.kitOne K (.type "str") (.type "str") = some true)) = true := (an Y.ex).1
theorem Fx.x1 (Y : Fx w K mg) : (xcB K (CBadName K) "name" veB "ValueError.__new__") = true := (an (an Y.ex).2).1
theorem Fx.x2 (Y : Fx w K mg) : (xcB K (CTwiceTold K) "name" veB "ValueError.__new__") = true := (an (an (an Y.ex).2).2).1
theorem Fx.x3 (Y : Fx w K mg) : (xcB K (CUnknownName K) "name" leB "LookupError.__new__") = true := (an (an (an (an Y.ex).2).2).2).1
theorem Fx.x4 (Y : Fx w K mg) : (xcB K (CBadFrame K) "name" veB "ValueError.__new__") = true := (an (an (an (an (an Y.ex).2).2).2).2).1
theorem Fx.x5 (Y : Fx w K mg) : (xcB K (CComesRound K) "members" veB "ValueError.__new__") = true := (an (an (an (an (an (an Y.ex).2).2).2).2).2).1
theorem Fx.x6 (Y : Fx w K mg) : (xcB K (CBadTerm K) "path" veB "ValueError.__new__") = true := (an (an (an (an (an (an (an Y.ex).2).2).2).2).2).2).1
theorem Fx.x7 (Y : Fx w K mg) : (decide (PySem.W.exmOne K (.ref (CBadTerm K)) (.ref (CBadTerm K)) = some true)) = true := (an (an (an (an (an (an (an (an Y.ex).2).2).2).2).2).2).2).1
theorem Fx.x8 (Y : Fx w K mg) : (decide (PySem.W.kitOne K (.type "tuple") (.type "tuple") = some true)) = true := (an (an (an (an (an (an (an (an (an Y.ex).2).2).2).2).2).2).2).2).1
theorem Fx.x9 (Y : Fx w K mg) : (He.valsB K (He.ga K "_PARTS_BELOW") vPARTSBELOW) = true := (an (an (an (an (an (an (an (an (an (an Y.ex).2).2).2).2).2).2).2).2).2).1
theorem Fx.x10 (Y : Fx w K mg) : (He.valsB K (He.ga K "_SORTS_TOLD") vSORTSTOLD) = true := (an (an (an (an (an (an (an (an (an (an (an Y.ex).2).2).2).2).2).2).2).2).2).2).1
theorem Fx.x11 (Y : Fx w K mg) : (He.tupB K "_NOT_FLAT" tNOTFLAT) = true := (an (an (an (an (an (an (an (an (an (an (an (an Y.ex).2).2).2).2).2).2).2).2).2).2).2).1
theorem Fx.x12 (Y : Fx w K mg) : (He.tupB K "_NOT_SHORT" tNOTSHORT) = true := (an (an (an (an (an (an (an (an (an (an (an (an (an Y.ex).2).2).2).2).2).2).2).2).2).2).2).2).1
theorem Fx.kPARTSBELOW (Y : Fx w K mg) : ∃ es n, KDict K w (He.ga K "_PARTS_BELOW") es n := Y.t.tab 0 (t := (fun K => He.ga K "_PARTS_BELOW", K43.kPARTSBELOW)) rfl
theorem Fx.kSORTSTOLD (Y : Fx w K mg) : ∃ es n, KDict K w (He.ga K "_SORTS_TOLD") es n := Y.t.tab 1 (t := (fun K => He.ga K "_SORTS_TOLD", K43.kSORTSTOLD)) rfl
end
/-- the world, its one habit that the top asks for told by a Bool -/
def wB (w : World) (b : Bool) : World := { w with params := { w.params with followText := fun s => if s == "special-get-raises" then b else w.params.followText s } }
theorem wB_eq (w : World) : wB w (w.params.followText "special-get-raises") = w := by
  have e : (fun s : String => if s == "special-get-raises" then w.params.followText "special-get-raises" else w.params.followText s) = w.params.followText := by
    funext s
    by_cases h : s = "special-get-raises"
    · subst h
      simp
    · simp [h]
  unfold wB
  rw [e]
theorem runT (w : World) : HandSHeadRun.RunEq R (PySem.W.view R.prog [85]) hk ob 40000 nm (wB w true) := by
  intro os
  kernel_rfl
theorem runF (w : World) : HandSHeadRun.RunEq R (PySem.W.view R.prog [85]) hk ob 40000 nm (wB w false) := by
  intro os
  kernel_rfl
theorem run (w : World) : HandSHeadRun.RunEq R (PySem.W.view R.prog [85]) hk ob 40000 nm w := by
  have h : ∀ b, HandSHeadRun.RunEq R (PySem.W.view R.prog [85]) hk ob 40000 nm (wB w b) := fun b => match b with
    | true => runT w
    | false => runF w
  rw [← wB_eq w]
  exact h _

end K43

/-! Operators and comparisons that a class of the text defines, between two of its instances; ~ of one. -/
namespace Ow
open PySem PySem.Spec PyProof.Rows L2
section
variable {X : Cx} {n : Nat} {C f : Addr} {fd : FuncData} {ps : List Str} {sp : Sp}
/-- what a class must tell for one of its special defs -/
structure OwnFn (X : Cx) (n : Nat) (C : Addr) (nm : Str) (f : Addr) (fd : FuncData) (ps : List Str) (sp : Sp) : Prop where
  ok : FnOk X.prog X.w X.K X.mg X.base CX0 n f fd ps sp
  rm : Room n X.A
  at_ : PySem.W.findIn X.K (.ref C) nm = some (some (.ref f))
  fn : PySem.W.isFn X.K (.ref f) = true
  bd : Binds X.K fd ps []
theorem backs {Q : VK} {pins : List (Addr × Obj)} {σ : L2.St} {u : Value} {s : Shared} (h : EP X pins σ Q u s) : PySem.W.CmpBack (EP X pins σ Q) u s := by
  cases u with
  | notImplemented =>
    obtain ⟨v, H, _, r, _⟩ := h
    cases v with
    | non => exact nomatch (show Value.notImplemented = Value.none from r)
    | bl b => exact nomatch (show Value.notImplemented = Value.bool b from r)
    | int i => obtain ⟨t, e⟩ := r; exact nomatch e
    | str x => obtain ⟨t, e⟩ := r; exact nomatch e
    | byt b => obtain ⟨t, e⟩ := r; exact nomatch e
    | flt b => obtain ⟨t, e⟩ := r; exact nomatch e
    | ref a => exact nomatch (show Value.notImplemented = Value.ref a from r)
    | ty m => exact nomatch (show Value.notImplemented = Value.type m from r)
  | _ => exact h
theorem OwnFn.run {nm : Str} (O : OwnFn X n C nm f fd ps sp) {pins : List (Addr × Obj)} {σ : L2.St} {H : Hp} {s : Shared} {Q : VK} {vs : List V} {us : List Value} (I : Inv X pins σ H s) (r : Vals vs us) (h : sp vs H Q E0) :
    wpAny (model X.prog X.w) X.A (call (.ref f) us) (EP X pins σ Q) X.xe s :=
  run_fn O.ok O.rm O.bd .nil pass0 I r (by rw [List.append_nil]; exact h)
/-- the two operands are instances of C -/
def rOwn (C : Addr) (sp : Sp) : R2 := fun x y H Q => ∃ a b dx dy fs gs, x = .ref a ∧ y = .ref b ∧ H a = some (.ins C dx fs) ∧ H b = some (.ins C dy gs) ∧ sp [.ref a, .ref b] H Q E0
def rOwn1 (C : Addr) (sp : Sp) : V → Hp → VK → Prop := fun x H Q => ∃ a dx fs, x = .ref a ∧ H a = some (.ins C dx fs) ∧ sp [.ref a] H Q E0
theorem op_own {op : Operator} (O : OwnFn X n C (PySem.dunder op.info.2) f fd ps sp) (hc : PySem.W.selfFirst X.K C = true) : OpR X (binaryOp op) (rOwn C sp) := by
  intro pins s σ H x y v u Q I rx ry hq
  obtain ⟨a, b, dx, dy, fs, gs, rfl, rfl, ha, hb, h⟩ := hq
  cases rx
  cases ry
  obtain ⟨mA, J, _⟩ := ins_get I.hok ha
  obtain ⟨mB, J', _⟩ := ins_get I.hok hb
  obtain ⟨od, J, _⟩ := J.look
  obtain ⟨od', J', _⟩ := J'.look
  obtain ⟨m, F⟩ := I.fr
  exact PySem.W.binop_K F I.ok.mod.kin J J'.type hc O.at_ O.fn (wpAny_mono (O.run (vs := [.ref a, .ref b]) I (.cons rfl (.cons rfl .nil)) h) (fun _ _ z => backs z) fun _ _ z => z)
theorem un_own (O : OwnFn X n C "__invert__" f fd ps sp) : UnR X (unaryOp .Invert) (rOwn1 C sp) := by
  intro pins s σ H x v Q I rx hq
  obtain ⟨a, dx, fs, rfl, ha, h⟩ := hq
  cases rx
  obtain ⟨mA, J, _⟩ := ins_get I.hok ha
  obtain ⟨od, J, _⟩ := J.look
  obtain ⟨m, F⟩ := I.fr
  exact PySem.W.ksp_inv F I.ok.mod.kin J O.at_ O.fn (O.run (vs := [.ref a]) I (.cons rfl .nil) h)
/-- a <= b and the like -/
theorem cmp_own {op : CmpOp} (he : ∀ u v, compareOp op u v = richCompare op u v) (O : OwnFn X n C (cmpInfo op).2.1 f fd ps sp) : OpR X (compareOp op) (rOwn C sp) := by
  intro pins s σ H x y v u Q I rx ry hq
  obtain ⟨a, b, dx, dy, fs, gs, rfl, rfl, ha, hb, h⟩ := hq
  cases rx
  cases ry
  obtain ⟨mA, J, _⟩ := ins_get I.hok ha
  obtain ⟨mB, J', _⟩ := ins_get I.hok hb
  obtain ⟨od, J, _⟩ := J.look
  obtain ⟨od', J', _⟩ := J'.look
  obtain ⟨m, F⟩ := I.fr
  rw [he]
  exact PySem.W.cmp_K (tb := .ref C) O.rm.units0 F I.ok.mod.kin J J'.type (by simp [PySem.W.notFirst]) O.at_ O.fn (wpAny_mono (O.run (vs := [.ref a, .ref b]) I (.cons rfl (.cons rfl .nil)) h) (fun _ _ z => backs z) fun _ _ z => z)
theorem op_own_le (O : OwnFn X n C "__le__" f fd ps sp) : OpR X (compareOp .LtE) (rOwn C sp) := cmp_own (fun _ _ => rfl) O
theorem op_own_lt (O : OwnFn X n C "__lt__" f fd ps sp) : OpR X (compareOp .Lt) (rOwn C sp) := cmp_own (fun _ _ => rfl) O
theorem op_own_eq (O : OwnFn X n C "__eq__" f fd ps sp) : OpR X (compareOp .Eq) (rOwn C sp) := cmp_own (fun _ _ => rfl) O
/-! != of two instances: object.__ne__ asks the class's own == -/
def rOwnNe (C : Addr) (sp : Sp) : R2 := fun x y H Q => ∃ a b dx dy fs gs, x = .ref a ∧ y = .ref b ∧ H a = some (.ins C dx fs) ∧ H b = some (.ins C dy gs) ∧ sp [.ref a, .ref b] H (fun v H' => ∃ k, v = .bl k ∧ Q (.bl (!k)) H') E0
theorem ne_bind (u : Value) : bindSpecial (.builtin "object.__ne__") u = pure (.builtin "object.__ne__", [u]) := by kernel_rfl
theorem op_own_ne (ok : FnOk X.prog X.w X.K X.mg X.base CX0 n f fd ps sp) (rm : Room (n + 1) X.A) (at_ : PySem.W.findIn X.K (.ref C) "__eq__" = some (some (.ref f))) (fn : PySem.W.isFn X.K (.ref f) = true) (bd : Binds X.K fd ps [])
    (ne_ : PySem.W.findIn X.K (.ref C) "__ne__" = some (some (.builtin "object.__ne__"))) (hm : PySem.W.mroIn X.K C (.type "object") = some true) : OpR X (compareOp .NotEq) (rOwnNe C sp) := by
  intro pins s σ H x y v u Q I rx ry hq
  obtain ⟨a, b, dx, dy, fs, gs, rfl, rfl, ha, hb, h⟩ := hq
  cases rx
  cases ry
  obtain ⟨mA, J, _⟩ := ins_get I.hok ha
  obtain ⟨mB, J', _⟩ := ins_get I.hok hb
  obtain ⟨od, J, _⟩ := J.look
  obtain ⟨od', J', _⟩ := J'.look
  have K' := I.kIn
  have hl := ok.len _ _ _ _ h
  have e0 : Env0 X.prog X.w X.K X.mg X.base X.A.in1 X.stack s H := by
    have e := I.env0
    exact ⟨e.frames, e.mod, e.bs, e.bsz, e.funs, e.frf, e.hok, e.bare⟩
  have r2 : Vals [V.ref a, V.ref b] [Value.ref a, Value.ref b] := .cons rfl (.cons rfl .nil)
  have go : wpAny (model X.prog X.w) X.A.in1 (call (.ref f) [.ref a, .ref b]) (fun v s' => ∃ k, v = .bool k ∧ EP X pins σ Q (.bool (!k)) s') X.xe s := by
    refine wpAny_call (codeAny_mono (ok.run X.A.in1 X.stack s H ⟨[.ref a, .ref b], []⟩ [.ref a, .ref b] [.ref a, .ref b] _ E0 rm.in1 e0 (by
      have z := bd s [.ref a, .ref b] I.kIn (by simpa using hl)
      simpa using z) r2 h) fun r s' hq => ?_)
    cases r with
    | error e => exact pass0 pins σ H s e s' I hq
    | ok fl =>
      cases fl with
      | ret w =>
        obtain ⟨z, H', I', rz, k, ez, q⟩ := I.after hq
        subst ez
        cases rz
        exact ⟨k, rfl, .bl (!k), H', I', rfl, q⟩
      | next => exact False.elim hq
      | brk => exact False.elim hq
      | cont => exact False.elim hq
  show wpAny (model X.prog X.w) X.A (richCompare .NotEq (.ref a) (.ref b)) (EP X pins σ Q) X.xe s
  have one : wpAny (model X.prog X.w) X.A (tryCompare (.ref a) "__ne__" (.ref b)) (fun r s' => ∃ v, r = some v ∧ EP X pins σ Q v s') X.xe s := by
    unfold tryCompare
    refine wpAny_bind (m := callSpecialIfBound? (.ref a) "__ne__" [.ref b]) ?_
    simp only [callSpecialIfBound?, bindSpecialIfBound?]
    refine wpAny_holding (wpAny_bind (wpAny_bind (wpAny_bind (J.type.here ((PySem.W.looks_findIn K' ne_).here ?_)))))
    refine wpAny_bind (wpAny_askSetting (wpAny_ite ?_))
    have fin : wpAny (model X.prog X.w) X.A (call (.builtin "object.__ne__") ([.ref a] ++ [.ref b]) >>= fun v => pure (some v)) (fun r s' => wpAny (model X.prog X.w) X.A (match r with | some .notImplemented | none => pure none | some v => pure (some v)) (fun r s' => ∃ v, r = some v ∧ EP X pins σ Q v s') X.xe s') X.xe s := by
      refine wpAny_bind (wpAny_call (codeAny_call_builtin PySem.F.cmp_object.ne.plain PySem.F.cmpEntry_ne (PySem.W.check_slot PySem.F.cmpKind_ne PySem.F.cmpSplit_ne (J.type.andThen (PySem.W.looks_mroIn K' hm)) (PySem.F.cmpArgs_ne _ _) ?_)))
      unfold Builtin.«object.__ne__»
      refine wpAny_bind (m := slotArgs "__ne__" 1 _) (wpAny_pure ?_)
      refine wpAny_bind (m := cRoomFor _ _) (wpAny_cRoomFor rm.in1.units0 ?_)
      refine wpAny_bind (m := callSpecialIfBound? (.ref a) (PySem.Str.ofString "__eq__") _) (PySem.W.ifBound_K K' J at_ fn (wpAny_mono go (fun r s' hq => ?_) fun _ _ y => y))
      obtain ⟨k, rfl, q⟩ := hq
      refine wpAny_bind (m := truthy (.bool k)) (wpAny_truthy_bool ?_)
      exact wpAny_pure (wpAny_pure (wpAny_pure ⟨_, rfl, q⟩))
    split
    · exact wpAny_bind ((PySem.W.Looks.of_pure (ne_bind _)).here (wpAny_pure (by exact fin)))
    · exact wpAny_tryCatch (wpAny_bind ((PySem.W.Looks.of_pure (ne_bind _)).here (wpAny_pure (by exact fin))))
  unfold richCompare
  simp only [oneThing_ref]
  refine wpAny_holding (wpAny_bind (wpAny_cRoomFor rm.units0 ?_))
  refine wpAny_bind (J.type.here (wpAny_bind (J'.type.here ?_)))
  rw [show (Value.ref C != Value.ref C) = false from by simp]
  simp only [Bool.false_eq_true, if_false]
  refine wpAny_bind (wpAny_pure ?_)
  simp only [Bool.false_eq_true, if_false]
  refine wpAny_bind (wpAny_mono one (fun r s' z => ?_) fun _ _ e => e)
  obtain ⟨v, rfl, hq⟩ := z
  exact wpAny_pure hq
end
end Ow

/-! for i, x in enumerate(a tuple) -/
namespace Ow
open PySem PySem.Spec PyProof.Rows L2
theorem enum_new1 {v : Value} {o : Obj} {H : Heap → Prop} (B : Begins v o H) :
    Meets (Builtin.«enumerate.__new__» ⟨[.type "enumerate", v], []⟩) (fun _ R s => H s.heap ∧
      R (.ok (.ret (.ref (s.heap.push o).objs.size))) { s with heap := (s.heap.push o).push { cls := .type "enumerate", data := .fields #[.none, .bool false, .ref s.heap.objs.size, rawInt 0, .none, .none] } }) :=
  .of_wp fun prog w A R s h => by
    obtain ⟨hp, g, d, tk, os⟩ := s
    obtain ⟨h1, h⟩ := h
    have hsub := sub_enumerate
    have q1 : ∀ {A' : Around} {E : Value → Shared → Prop} {Q : Value → Shared → Prop}, Q (.ref hp.objs.size) ⟨hp.push o, g, d, tk, os⟩ → wpAny (model prog w) A' (pyIter v) Q E ⟨hp, g, d, tk, os⟩ :=
      fun q => B.iter prog w _ _ ⟨hp, g, d, tk, os⟩ _ h1 q
    wp_walk using q1
    refine wpAny_stack_any fun st => wpAny_pure ?_
    split
    · rename_i c _ _ _ _ _
      cases (c == Value.type "enumerate")
      · wp_walk using q1
        exact ⟨_, rfl, h⟩
      · wp_walk using q1
        exact ⟨_, rfl, h⟩
    · wp_walk using q1
      exact ⟨_, rfl, h⟩
section
variable {prog : Program} {w : World} {A : Around} {E : Value → Shared → Prop} {s : Shared}
theorem enum_tup {l : Addr} {items : Array Value} {Q : Value → Shared → Prop} (hL : s.heap.IsTuple l items)
    (h : ∀ h', IsEnum h' (s.heap.objs.size + 1) s.heap.objs.size 0 .none → h'.IsTupleIter s.heap.objs.size l 0 → h'.objs.size = s.heap.objs.size + 2 →
      (∀ b o, s.heap.get? b = some o → h'.get? b = some o) → Q (.ref (s.heap.objs.size + 1)) { s with heap := h' }) :
    wpAny (model prog w) A (call (.type "enumerate") [.ref l]) Q E s := by
  refine callType_new F.called_enumerate (by decide) (F.typeCall_enumerate_1 _) (F.newCall_enumerate_1 _) (fun obj => F.args_object_init_2 obj _) F.entry_enumerate_new
    (enum_new1 (begins_tuple l items)) ⟨hL, ?_⟩
  have hz : (s.heap.push { cls := .type "tuple_iterator", data := .fields #[.ref l, .int 0 0] }).objs.size = s.heap.objs.size + 1 := Heap.size_push ..
  show _ ∧ _
  rw [hz]
  have he : IsEnum ((s.heap.push { cls := .type "tuple_iterator", data := .fields #[.ref l, .int 0 0] }).push
      { cls := .type "enumerate", data := .fields #[.none, .bool false, .ref s.heap.objs.size, rawInt 0, .none, .none] }) (s.heap.objs.size + 1) s.heap.objs.size 0 .none := by
    have z := Heap.get?_push_size (s.heap.push { cls := .type "tuple_iterator", data := .fields #[.ref l, .int 0 0] })
      (o := { cls := .type "enumerate", data := .fields #[.none, .bool false, .ref s.heap.objs.size, rawInt 0, .none, .none] }) rfl
    rw [hz] at z
    exact z
  refine ⟨⟨_, he, rfl⟩, h _ he ⟨_, Heap.get?_push_of_some _ (Heap.get?_push_size _ rfl), rfl, rfl⟩ (by rw [Heap.size_push, hz]) fun b o x => Heap.get?_push_of_some _ (Heap.get?_push_of_some _ x)⟩
end
/-- the tuple at a, each item in a new pair -/
def IteT (K : PySem.W.Frag) (a : Addr) : It :=
  ⟨fun i H => ∃ (xs : List V) (x : V), SqT K H a xs ∧ xs[i]? = some x, fun i H v H' => ∃ T x, v = .ref T ∧ H T = none ∧ H' = upd H T (.tup [.int (i : Nat), x]) ∧ ∀ xs, SqT K H a xs → xs[i]? = some x, fun i H => ∃ xs : List V, SqT K H a xs ∧ xs.length = i⟩
theorem turn_enumT {P : Program} {w : World} {K : PySem.W.Frag} {elts : List Expr} {kk : Nat} {tpos : Pos} (a e it : Addr) :
    Turn P w K (.Tuple elts kk tpos) (IteT K a) [e, it] e (fun i h => (∃ old, IsEnum h e it ((i : Nat) : Int) old) ∧ h.IsTupleIter it a i ∧ e ≠ it ∧ a ≠ it ∧ e ≠ a) where
  mem := by simp
  obj := fun i h st b hb => by
    obtain ⟨⟨old, he⟩, ⟨o, ho, hc, hd⟩, _⟩ := st
    have e' : b = e ∨ b = it := by simpa using hb
    rcases e' with z | z
    · rw [z]; exact ⟨_, he, fun v q => nomatch q⟩
    · rw [z]; exact ⟨o, ho, fun v q => by rw [hd] at q; cases q⟩
  keep := fun i h h' st k => by
    obtain ⟨⟨old, he⟩, hi, hne⟩ := st
    exact ⟨⟨old, k e (by simp) _ he⟩, hi.at fun o q => k it (by simp) o q, hne⟩
  item := by
    intro X hP hw hK hc i pins s σ H E I hf st hg
    subst hP hw hK
    obtain ⟨⟨old, he⟩, hit, hne, hai, hea⟩ := st
    obtain ⟨xs, x, hq, hx⟩ := hg
    obtain ⟨its, rv, p, hz⟩ := I.tuple hq
    obtain ⟨u, hu, ru⟩ := rv.get hx
    have p : s.heap.IsTuple a its.toArray := p
    have hel : e < s.heap.objs.size := Heap.lt_size he
    have hil : it < s.heap.objs.size := by obtain ⟨_, q, _⟩ := hit; exact Heap.lt_size q
    have hlt : i < its.toArray.size := by
      have z : i < its.length := List.getElem?_eq_some_iff.mp hu |>.1
      simpa using z
    refine wpAny_pyNext_enum_itemD (Draws.tuple (A := X.A.in1) (show X.A.in1.handled = none from I.ok.hd hc) it a hai its.toArray) he ⟨hit, p⟩ hlt hne (by simp [hne, hea]) fun u' h' tk hP ho hst' hT hsz hk => ?_
    have eu : u' = u := by
      have z : its.toArray[i]? = some u := by simpa using hu
      rw [z] at hP
      exact (Option.some.inj hP).symm
    subst eu
    have hit' := hst'.1
    refine ⟨_, rfl, wpAny_letOwnedTupleGo_enum (s := { s with heap := h', toks := tk + 1 }) ho fun h'' he' sb => ?_⟩
    have hT2 : h''.get? s.heap.objs.size = some { cls := .type "tuple", data := .seq #[.int i tk, u'] } := (sb.2 _ (Nat.ne_of_gt hel)).trans hT
    have new : ObjOk X.prog X.w (upd H s.heap.objs.size (.tup [.int (i : Nat), x])) h'' s.heap.objs.size (.tup [.int (i : Nat), x]) :=
      ⟨by show 2 ≤ sizeLine; decide, [.int i tk, u'], .cons ⟨_, rfl⟩ (.cons ru .nil), ⟨_, hT2, rfl, _, rfl⟩⟩
    have I1 : Inv X pins σ (upd H s.heap.objs.size (.tup [.int (i : Nat), x])) { s with heap := h'', toks := tk + 1 } :=
      I.turnedNew (ch := [e, it]) (fun b ob hb q => (sb.2 b (fun z => hb (by simp [z]))).trans (hk b ob (fun z => hb (by simp [z])) (fun z => hb (by simp [z])) q)) hf (Nat.le_refl _) new
    refine ⟨.ref s.heap.objs.size, _, I1, rfl, ⟨_, x, rfl, I.hok.fresh (Nat.le_refl _), rfl, fun ys hy => by rw [I.tuple_inj hy hq]; exact hx⟩, ⟨⟨u', ?_⟩, hit'.at fun o q => (sb.2 it (Ne.symm hne)).trans q, hne, hai, hea⟩, fun b hb => ?_⟩
    · have e1 : ((i + 1 : Nat) : Int) = (i : Int) + 1 := by omega
      rw [e1]; exact he'
    · have hb' : b < s.heap.objs.size := by
        have e' : b = e ∨ b = it := by simpa using hb
        rcases e' with z | z
        · rw [z]; exact hel
        · rw [z]; exact hil
      rw [upd_ne (Nat.ne_of_lt hb')]
      exact (hf b hb).1
  done := by
    intro X hP hw hK hc i pins s σ H E I hf st hg
    subst hP hw hK
    obtain ⟨⟨old, he⟩, hit, hne, hai, hea⟩ := st
    obtain ⟨xs, hq, hx⟩ := hg
    obtain ⟨its, rv, p, hz⟩ := I.tuple hq
    have p : s.heap.IsTuple a its.toArray := p
    obtain ⟨f0, f1, f2, f3, f4, f5⟩ := hf it (by simp)
    have hl := rv.length
    have ez : i = its.toArray.size := by simp; omega
    subst ez
    exact wpAny_pyNext_enum_endD (Draws.tuple (A := X.A.in1) (show X.A.in1.handled = none from I.ok.hd hc) it a hai its.toArray) he ⟨hit, p⟩ fun h' eb => ⟨rfl, I.turned (t' := s.toks) (fun b o hb q => eb b o hb q) f0 f1 f3 f4 f5⟩
  self := fun A i s Q E st h => let ⟨⟨_, he⟩, _⟩ := st; wpAny_pyIter_enum he h
def iEnumT (K : PySem.W.Frag) (ta : TA) : TI := fun σ H R => ta σ H fun vs H1 => ∃ a xs, vs = [.ref a] ∧ SqT K H1 a xs ∧ R (IteT K a) H1
theorem pi_enumT {X : Cx} {e : Expr} {ta : TA} {p pos tpos : Pos} {elts : List Expr} {kk : Nat} (hg : Gl X "enumerate") (hm : X.mg "enumerate" = none) (ha : PA X [e] ta) (hs : starEach [e] X.env = [(false, eval e X.env)] := by rfl) :
    PI X (.Tuple elts kk tpos) (.Call (.Name "enumerate" p) [e] [] pos) (iEnumT X.K ta) := by
  refine ⟨fun pins s σ H R I h => ?_⟩
  refine Call_ (ld_blt I hg hm boot_enumerate (PyProof.Rows.callWith_type1 (thn (ha.run pos pins s σ H _ I h) fun us s1 ⟨vs, H1, I1, r1, q1⟩ => ?_) hs rfl))
  obtain ⟨a, xs, ex, hq, q⟩ := q1
  subst ex
  cases r1 with
  | cons r rr =>
    cases rr
    cases r
    obtain ⟨its, rv, p', hz⟩ := I1.tuple hq
    have p' : s1.heap.IsTuple a its.toArray := p'
    have al : a < s1.heap.objs.size := by obtain ⟨o, q, _⟩ := p'; exact Heap.lt_size q
    refine enum_tup p' fun h' he hit hsz hk => wpAny_pyIter_enum he ?_
    have I2 : Inv X pins σ H1 { s1 with heap := h' } := I1.kept (t' := s1.toks) hk
    refine ⟨s1.heap.objs.size + 1, [s1.heap.objs.size + 1, s1.heap.objs.size], _, _, H1, rfl, I2, turn_enumT a (s1.heap.objs.size + 1) s1.heap.objs.size, ⟨⟨.none, he⟩, hit, Nat.succ_ne_self _, Nat.ne_of_lt al, Nat.ne_of_gt (Nat.lt_succ_of_lt al)⟩, fun b hb => ?_, q⟩
    have e' : b = s1.heap.objs.size + 1 ∨ b = s1.heap.objs.size := by simpa using hb
    have hle : s1.heap.objs.size ≤ b := by
      rcases e' with z | z
      · rw [z]; exact Nat.le_add_right _ _
      · rw [z]; exact Nat.le_refl _
    exact I1.fpOk hle (I1.hok.fresh hle)
end Ow

/-! len(set(xs)), xs a list or a tuple of unlike texts -/
namespace Ow
open PySem PySem.Spec PyProof.Rows L2
theorem nd_take {xs : List Str} (nd : xs.Nodup) {i : Nat} (hi : i < xs.length) : (xs.take i).any (· == xs.getD i Str.empty) = false := by
  have e : xs.getD i Str.empty = xs[i] := by rw [List.getD_eq_getElem?_getD, List.getElem?_eq_getElem hi]; rfl
  refine Bool.eq_false_iff.mpr fun h => ?_
  obtain ⟨y, hy, q⟩ := List.any_eq_true.mp h
  rw [e] at q
  have ey : y = xs[i] := beq_iff_eq.mp q
  obtain ⟨j, hj, e3⟩ := List.getElem_of_mem hy
  have hl : j < i := by rw [List.length_take] at hj; omega
  rw [List.getElem_take] at e3
  exact List.pairwise_iff_getElem.mp nd j i (Nat.lt_trans hl hi) hi hl (e3.trans ey)
theorem any_take {xs : List Str} {i : Nat} (hi : i < xs.length) (k : Str) : (xs.take (i + 1)).any (· == k) = ((xs.take i).any (· == k) || decide (k = xs.getD i Str.empty)) := by
  have e : xs.getD i Str.empty = xs[i] := by rw [List.getD_eq_getElem?_getD, List.getElem?_eq_getElem hi]; rfl
  rw [List.take_succ, List.getElem?_eq_getElem hi, List.any_append, e]
  congr 1
  show ((xs[i] == k) || false) = decide (k = xs[i])
  rw [Bool.or_false]
  by_cases z : k = xs[i]
  · rw [z]; simp
  · rw [decide_eq_false z]; exact beq_eq_false_iff_ne.mpr fun y => z y.symm
section
variable {prog : Program} {w : World} {A : Around} {R : Result → Shared → Prop} {I : Addr} {fp wr : List Addr} {G : Array GenState → Array GenState → Prop} {n : Nat} {P : Nat → Value → Prop} {St : Nat → Shared → Prop}
theorem grow_set (Wk : WalksS prog w A.in1 I fp wr G n P St) (D : Addr) (dF : D ∉ fp) (xs : List Str) (len : xs.length = n) (nd : xs.Nodup) (few : n < 64) (val : ∀ i v, P i v → ∃ t, v = .str (xs.getD i Str.empty) t) :
    ∀ (k i : Nat) (s : Shared), n - i = k → i ≤ n → St i s → s.heap.SetOf (PySem.strKind prog w) D (fun z => (xs.take i).any (· == z)) i →
      (∀ s', Moved (D :: wr) G s s' → s'.heap.SetOf (PySem.strKind prog w) D (fun z => (xs.take n).any (· == z)) n → R (.ok (.ret .none)) s') → codeAny (model prog w) A (.builtin "set.update.loop" ⟨[.ref D, .ref I], []⟩) R s := by
  have dW : D ∉ wr := fun z => dF (Wk.sub _ z)
  have up : ∀ b ∈ wr, b ∈ D :: wr := fun b z => List.mem_cons_of_mem _ z
  intro k
  induction k with
  | zero =>
    intro i s hk hi st hS fin
    have ein : i = n := by omega
    subst ein
    refine codeAny_builtin PyProof.Rows.F.entry_set_update_loop ?_
    rw [Around.under_plainId PyProof.Rows.F.plain_set_update_loop _]
    show wpAny _ A.in1 (pyNext (.ref I) >>= _) _ _ s
    refine wpAny_bind (Wk.done s _ _ st fun s' mv => wpAny_pure (fin s' (mv.mono up) ?_))
    obtain ⟨o, es, ep, t, ho, more⟩ := hS
    exact ⟨o, es, ep, t, mv.heap D _ dW ho, more⟩
  | succ k ih =>
    intro i s hk hi st hS fin
    have lt : i < n := by omega
    have lx : i < xs.length := by omega
    refine codeAny_builtin PyProof.Rows.F.entry_set_update_loop ?_
    rw [Around.under_plainId PyProof.Rows.F.plain_set_update_loop _]
    show wpAny _ A.in1 (pyNext (.ref I) >>= _) _ _ s
    refine wpAny_bind (Wk.item i s _ _ lt st fun v s' pv st' mv => ?_)
    obtain ⟨t, rfl⟩ := val i v pv
    have hS' : s'.heap.SetOf (PySem.strKind prog w) D (fun z => (xs.take i).any (· == z)) i := by
      obtain ⟨o, es, ep, tb, ho, more⟩ := hS
      exact ⟨o, es, ep, tb, mv.heap D _ dW ho, more⟩
    show wpAny _ A.in1 (holding [Value.str (xs.getD i Str.empty) t] (setAdd D (.str (xs.getD i Str.empty) t)) >>= _) _ _ s'
    refine wpAny_bind (wpAny_holding ?_)
    unfold setAdd
    refine wpAny_holding (wpAny_bind ((PySem.strKind prog w).pyHash (k := xs.getD i Str.empty) (strKind_is _ _ _ _) ?_))
    refine wpAny_setAddHashed_of (knd := PySem.strKind prog w) (s := { s' with toks := s'.toks + 1 }) (strKind_is _ _ _ _) rfl hS' (by unfold scanBound; omega) fun h' sb grown => ?_
    have grown' : h'.SetOf (PySem.strKind prog w) D (fun z => (xs.take (i + 1)).any (· == z)) (i + 1) :=
      PyProof.Rows.SetOf_congr grown (fun z => (any_take lx z).symm) (by rw [nd_take nd lx]; rfl)
    refine wpAny_pure ⟨plainId_quiet PyProof.Rows.F.plain_set_update_loop _, ih (i + 1) _ (by omega) lt (Wk.frame _ s' _ _ st' (Nat.le_succ _) fun b hb o e => ?_) grown' fun s'' mv2 done => ?_⟩
    · rw [sb.2 b (fun z : b = D => dF (by rw [← z]; exact hb))]
      exact e
    · refine fin s'' (Moved.trans Wk.gtrans ((mv.mono up).then_heap (Nat.le_succ _) fun b o hb e => ?_) mv2) done
      rw [sb.2 b (fun z : b = D => hb (by rw [z]; exact List.mem_cons_self))]
      exact e
end
section
variable {prog : Program} {w : World} {A : Around} {E : Value → Shared → Prop} {s : Shared}
/-- what set() asks of its argument -/
structure Src (prog : Program) (w : World) (T TI : String) (l : Addr) (items : Array Value) (Is : Heap → Prop) (At : Addr → Nat → Heap → Prop) : Prop where
  keep : ∀ h h', Is h → (∀ b o, h.get? b = some o → h'.get? b = some o) → Is h'
  obj : ∀ h, Is h → ∃ o, h.get? l = some o ∧ o.cls = .type T
  s1 : isSubtype (.type T) (.type "set") = pure false
  s2 : isSubtype (.type T) (.type "frozenset") = pure false
  s3 : (Value.type T == Value.type "dict") = false
  iter : ∀ (A' : Around) (E : Value → Shared → Prop) (s : Shared) (Q : Value → Shared → Prop), Is s.heap → Q (.ref s.heap.objs.size) { s with heap := s.heap.push { cls := .type TI, data := .fields #[.ref l, .int 0 0] } } → wpAny (model prog w) A' (pyIter (.ref l)) Q E s
  walk : ∀ (A' : Around) (I : Addr), A'.handled = none → l ≠ I → Walks prog w A' I [I, l] [I] items.size (fun i v => items[i]? = some v) (fun i h => At I i h ∧ Is h)
  at0 : ∀ (h : Heap) (I : Addr), h.get? I = some { cls := .type TI, data := .fields #[.ref l, .int 0 0] } → At I 0 h
set_option maxHeartbeats 3200000 in
theorem set_from {T TI : String} {l : Addr} {items : Array Value} {Is : Heap → Prop} {At : Addr → Nat → Heap → Prop} {xs : List Str} {Q : Value → Shared → Prop} (S : Src prog w T TI l items Is At) (hh : A.handled = none) (is0 : Is s.heap) (ia : StrsAre items.toList xs) (nd : xs.Nodup) (few : xs.length < 64)
    (h : ∀ (h' : Heap) (tk : Nat), h'.SetOf (PySem.strKind prog w) s.heap.objs.size (fun z => (xs.take items.size).any (· == z)) items.size → (∀ b o, b < s.heap.objs.size → s.heap.get? b = some o → h'.get? b = some o) → Q (.ref s.heap.objs.size) { s with heap := h', toks := tk }) :
    wpAny (model prog w) A (call (.type "set") [.ref l]) Q E s := by
  obtain ⟨c, tl, hmro⟩ := PySem.F.called_set.mro
  have hmade := PySem.F.called_set.made
  have hsub := PySem.F.called_set.sub
  refine wpAny_call (codeAny_of_tree ?_)
  show wpAny _ _ (callAny (.type "set") _) _ _ _
  refine wpAny_pure ⟨Code.quiet_builtin _ (by decide +kernel), codeAny_builtin PySem.F.entry_type_call ?_⟩
  rw [Around.under_plain (weight_type_call_type "set" [.ref l] []) rfl]
  have k1 := PySem.F.called_set.notType
  have k2 := PySem.F.called_set.canCreate
  have k3 := PySem.F.typeCall_set_1 (.ref l)
  repeat (any_goals (first | assumption | wp_step))
  refine codeAny_mono (code_set_new_1 (.ref l) (E := E) (Q₁ := fun obj z => ∃ led : Bool, obj = .ref s.heap.objs.size ∧ z = { s with heap := s.heap.push { cls := .type "set", dict := none, data := .set #[] 0 (.fresh 0 0 led) } }) fun led => ⟨led, rfl, rfl⟩) fun r z hr => ?_
  cases r with
  | error e => exact hr
  | ok fl =>
    cases fl with
    | ret obj =>
      obtain ⟨led, rfl, rfl⟩ := hr
      generalize eN : s.heap.push { cls := .type "set", dict := none, data := .set #[] 0 (.fresh 0 0 led) } = N
      have at_ : N.get? s.heap.objs.size = some { cls := .type "set", dict := none, data := .set #[] 0 (.fresh 0 0 led) } := by rw [← eN]; exact Heap.get?_push_size _ rfl
      have zN : N.objs.size = s.heap.objs.size + 1 := by rw [← eN]; exact Heap.size_push ..
      have kN : ∀ b o, s.heap.get? b = some o → N.get? b = some o := fun b o e => by rw [← eN]; exact Heap.get?_push_of_some _ e
      have ty : Shared.TypeIs { s with heap := N } (.ref s.heap.objs.size) "set" := ⟨_, at_, rfl⟩
      have isN : Is N := S.keep _ _ is0 kN
      have hli := PySem.F.called_set.init.lookup
      have hbi := PySem.F.called_set.init.bind (.ref s.heap.objs.size)
      repeat (any_goals (first | assumption | wp_step))
      refine codeAny_mono (codeAny_call_builtin (R := wants (fun r z => r = .none ∧ ∃ h' tk, z = { s with heap := h', toks := tk } ∧ h'.SetOf (PySem.strKind prog w) s.heap.objs.size (fun y => (xs.take items.size).any (· == y)) items.size ∧
          (∀ b o, b < s.heap.objs.size → s.heap.get? b = some o → h'.get? b = some o)) E) PySem.F.called_set.init.plain PySem.F.entry_set_init (check_set_init_1 ty ?_)) fun r₂ z hr₂ => ?_
      · obtain ⟨ol, gl, cl⟩ := S.obj _ isN
        obtain ⟨ocls, odict, odata, oslots⟩ := ol
        simp only at cl
        subst cl
        have g1 := S.s1
        have g2 := S.s2
        have g3 := S.s3
        unfold Builtin.«set.__init__» noKeywords Builtin.Frozenset.updateFrom
        generalize ePI : pyIter = PI
        wp_walk
        subst ePI
        refine S.iter _ _ _ _ isN ?_
        refine wpAny_bind (wpAny_runValue ?_)
        have lS : l < s.heap.objs.size := by
          obtain ⟨o, g, _⟩ := S.obj _ is0
          exact Heap.lt_size g
        have h3 : A.in1.in1.in1.handled = none := by simp [hh]
        have lI : l ≠ N.objs.size := by rw [zN]; exact Nat.ne_of_lt (Nat.lt_succ_of_lt lS)
        have dF : s.heap.objs.size ∉ [N.objs.size, l] := by
          rw [zN]
          simp only [List.mem_cons, List.mem_singleton, List.not_mem_nil, or_false, not_or]
          exact ⟨Nat.ne_of_lt (Nat.lt_succ_self _), Nat.ne_of_gt lS⟩
        have len : xs.length = items.size := by rw [← StrsAre.len_eq ia, Array.length_toList]
        have gI : (N.push { cls := .type TI, data := .fields #[.ref l, .int 0 0] }).get? N.objs.size = some { cls := .type TI, data := .fields #[.ref l, .int 0 0] } := Heap.get?_push_size _ rfl
        have kI : ∀ b o, N.get? b = some o → (N.push { cls := .type TI, data := .fields #[.ref l, .int 0 0] }).get? b = some o := fun b o e => Heap.get?_push_of_some _ e
        refine grow_set ((S.walk _ _ h3 lI).toS) s.heap.objs.size dF xs len nd (by rw [← len]; exact few) (fun i v hv => SS.strs_at ia i v (by rw [Array.getElem?_toList]; exact hv)) (items.size - 0) 0 _ (by omega) (Nat.zero_le _)
          ⟨S.at0 _ _ gI, S.keep _ _ isN kI⟩ ?start0 ?fin0
        case start0 => exact PyProof.Rows.SetOf_congr ((PyProof.Rows.setObjOf_fresh (knd := PySem.strKind prog w) led).setOf (kI _ _ at_) (by unfold scanBound; omega)) (fun _ => rfl) rfl
        case fin0 =>
          intro s' mv hS'
          obtain ⟨h', g', d', tk', os'⟩ := s'
          have eg : g' = s.gens := mv.gens
          have ed : d' = s.drawn := mv.drawn
          have eo : os' = s.os := mv.os
          subst eg; subst ed; subst eo
          show wpAny _ _ _ _ _ _
          refine wpAny_pure ?_
          show wpAny _ _ (ret Value.none) _ _ _
          refine wpAny_pure ⟨rfl, h', tk', rfl, hS', fun b o hb e => mv.heap b o ?_ (kI _ _ (kN _ _ e))⟩
          simp only [List.mem_cons, List.mem_singleton, List.not_mem_nil, or_false, not_or]
          exact ⟨Nat.ne_of_lt hb, by show b ≠ N.objs.size; rw [zN]; exact Nat.ne_of_lt (Nat.lt_succ_of_lt hb)⟩
      · cases r₂ with
        | error e => exact hr₂
        | ok fl₂ =>
          cases fl₂ with
          | ret r =>
            obtain ⟨rfl, h', tk, rfl, hS', hk'⟩ := hr₂
            repeat (any_goals (first | assumption | wp_step))
            exact h _ _ hS' hk'
          | _ => exact hr₂.elim
    | _ => exact hr.elim
end
end Ow

namespace Ow
open PySem PySem.Spec PyProof.Rows L2
section
variable {prog : Program} {w : World}
theorem src_list (l : Addr) (items : Array Value) : Src prog w "list" "list_iterator" l items (fun h => h.IsList l items) (fun I i h => h.IsListIter I l i) where
  keep := fun h h' z k => z.at fun o e => k l o e
  obj := fun h z => by obtain ⟨o, g, c, _⟩ := z; exact ⟨o, g, c⟩
  s1 := PySem.F.sub_list_set
  s2 := PySem.F.sub_list_frozenset
  s3 := by decide
  iter := fun A' E s Q z q => wpAny_pyIter_list z q
  walk := fun A' I hh ne => Walks.list hh I l ne items
  at0 := fun h I g => ⟨_, g, rfl, rfl⟩
theorem src_tup (l : Addr) (items : Array Value) : Src prog w "tuple" "tuple_iterator" l items (fun h => h.IsTuple l items) (fun I i h => h.IsTupleIter I l i) where
  keep := fun h h' z k => z.at fun o e => k l o e
  obj := fun h z => by obtain ⟨o, g, c, _⟩ := z; exact ⟨o, g, c⟩
  s1 := PySem.F.sub_tuple_set
  s2 := PySem.F.sub_tuple_frozenset
  s3 := by decide
  iter := fun A' E s Q z q => wpAny_pyIter_tuple z q
  walk := fun A' I hh ne => Walks.tuple hh I l ne items
  at0 := fun h I g => ⟨_, g, rfl, rfl⟩
end
section
variable {X : Cx}
def tLenSetT (K : PySem.W.Frag) (ta : TE) : TE := fun σ H Q => ta σ H fun x H1 => ∃ l, ∃ xs : List Str, x = .ref l ∧ (SqL K H1 l (xs.map V.str) ∨ SqT K H1 l (xs.map V.str)) ∧ xs.Nodup ∧ xs.length < 64 ∧ Q (.int xs.length) H1
theorem pe_lenSetT {a : Expr} {ta : TE} {p p2 q pos : Pos} (hc : X.calm = true) (hg : Gl X "len") (hm : X.mg "len" = none) (hg2 : Gl X "set") (hm2 : X.mg "set" = none) (ha : PE X a ta)
    (na : starEach [a] X.env = (false, eval a X.env) :: starEach [] X.env := by rfl) : PE X (.Call (.Name "len" p) [.Call (.Name "set" p2) [a] [] q] [] pos) (tLenSetT X.K ta) := by
  refine ⟨fun pins s σ H Q I h => ?_⟩
  refine Call_ (ld_blt I hg hm boot_len (PyProof.Rows.callWith_builtin1 (PyProof.Rows.args_cons ?_ rfl) rfl rfl))
  refine Call_ (ld_blt I hg2 hm2 boot_set ?_)
  refine PyProof.Rows.callWith_type1 (PyProof.Rows.args_cons (thn (ha.run pins s σ H _ I h) fun v s1 ⟨x, H1, I1, r1, q1⟩ => PyProof.Rows.args_nil ?_) na) na rfl
  obtain ⟨l, xs, rfl, hq, nd, few, q1⟩ := q1
  cases r1
  have last : ∀ (its : List Value), Vals (xs.map V.str) its → ∀ (h' : Heap) (tk : Nat), h'.SetOf (PySem.strKind X.prog X.w) s1.heap.objs.size (fun z => (xs.take its.toArray.size).any (· == z)) its.toArray.size →
      (∀ b o, b < s1.heap.objs.size → s1.heap.get? b = some o → h'.get? b = some o) →
      wpAny (model X.prog X.w) X.A (spliced (backTo pos (starEach [] X.env))) (fun vs z => wpAny (model X.prog X.w) X.A (call (.builtin "len") (Value.ref s1.heap.objs.size :: vs)) (EP X pins σ Q) X.xe z) X.xe { s1 with heap := h', toks := tk } := fun its r h' tk hS hk => by
    refine PyProof.Rows.args_nil ?_
    have hl : its.toArray.size = xs.length := by rw [List.size_toArray, ← r.length, List.length_map]
    rw [hl] at hS
    obtain ⟨o, es, ep, t, ho, hex, hd, _, _, _, hf, hn⟩ := hS
    have I2 : Inv X pins σ H1 { s1 with heap := h', toks := tk } := I1.kept fun b o e => hk b o (Heap.lt_size e) e
    exact call_len_set ho hex hd hf (by rw [hn]; omega) ⟨.int xs.length, H1, I2.tok _, ⟨_, by rw [hn]⟩, q1⟩
  rcases hq with hq | hq
  · obtain ⟨its, r, pl, hz⟩ := I1.list hq
    exact set_from (src_list l its.toArray) (I1.ok.hd hc) pl.isList (by simpa using strsAre_of r) nd few fun h' tk hS hk => last its r h' tk hS hk
  · obtain ⟨its, r, pl, hz⟩ := I1.tuple hq
    exact set_from (src_tup l its.toArray) (I1.ok.hd hc) pl (by simpa using strsAre_of r) nd few fun h' tk hS hk => last its r h' tk hS hk
end
end Ow

/-! C(e, ..) and o.m(e, ..) where the def may raise: what it lets out depends on the slots. -/
namespace Xv
open PySem PySem.Spec PyProof.Rows L2
section
variable {X : Cx} {CX : CXT} {k : Nat} {f C : Addr} {fd : FuncData} {ps : List Str} {sp : Sp} {E : L2.St → XK} {x m : Str} {p pos apos : Pos} {e o : Expr} {es : List Expr} {ta : TE} {t : TA}
theorem run_makeS {pins : List (Addr × Obj)} {σ : L2.St} {H : Hp} {s : Shared} {Q : VK} {us : List Value} {vs : List V} (M : Mk X.K C f) (F : FnOk X.prog X.w X.K X.mg X.base CX k f fd ps sp) (hr : Room (k + 1) X.A) (hb : Binds X.K fd ps [])
    (hx : PassesAt CX X σ (E σ)) (I : Inv X pins σ H s) (r : Vals vs us)
    (h : ∀ x dx, H x = none → H dx = none → dx ≠ x → sp (.ref x :: vs) (upd (upd H dx (.own x)) x (.ins C dx [])) (fun v H2 => v = .non ∧ Q (.ref x) H2) (E σ)) :
    wpAny (model X.prog X.w) X.A (call (.ref C) us) (EP X pins σ Q) X.xe s := by
  have hq := h (s.heap.objs.size + 1) s.heap.objs.size (I.hok.fresh (Nat.le_succ _)) (I.hok.fresh (Nat.le_refl _)) (Nat.ne_of_lt (Nat.lt_succ_self _))
  have I2 := Inv.made (C := C) I
  have r2 : Vals (V.ref (s.heap.objs.size + 1) :: vs) (Value.ref (s.heap.objs.size + 1) :: us) := .cons rfl r
  have hl : (Value.ref (s.heap.objs.size + 1) :: us).length = ps.length := by
    rw [← r2.length]
    exact F.len _ _ _ _ hq
  have b := hb _ (Value.ref (s.heap.objs.size + 1) :: us) I2.kIn (by rw [List.append_nil]; exact hl)
  rw [List.append_nil] at b
  refine wpAny_call (make_map (f := f) I.kIn M.makes M.init (beq_iff_eq.mp M.fn) (codeAny_mono (F.run _ X.stack _ _ ⟨Value.ref (s.heap.objs.size + 1) :: us, []⟩ (Value.ref (s.heap.objs.size + 1) :: us) _ _ (E σ) (hr.make C us [])
    (I2.env0.make C us []) b r2 hq) fun r s' hq' => ?_))
  cases r with
  | error e => exact hx pins _ _ e s' I2 hq'
  | ok fl =>
    cases fl with
    | ret u =>
      obtain ⟨v, H', I3, rv, ev, q3⟩ := I2.after hq'
      subst ev
      exact ⟨rv, ⟨V.ref (s.heap.objs.size + 1), H', I3, rfl, q3⟩⟩
    | next => exact False.elim hq'
    | brk => exact False.elim hq'
    | cont => exact False.elim hq'
/-- C(..), its __init__ may raise -/
def tMakeS (C : Addr) (sp : Sp) (E : L2.St → XK) (t : TA) : TE := fun σ H Q => t σ H fun vs H1 => ∀ x dx, H1 x = none → H1 dx = none → dx ≠ x →
  sp (.ref x :: vs) (upd (upd H1 dx (.own x)) x (.ins C dx [])) (fun v H2 => v = .non ∧ Q (.ref x) H2) (E σ)
theorem pe_makeS (M : Mk X.K C f) (F : FnOk X.prog X.w X.K X.mg X.base CX k f fd ps sp) (hr : Room (k + 1) X.A) (hg : Gl X x) (hm : X.mg x = some (.ref C)) (hb : Binds X.K fd ps []) (hx : ∀ σ, PassesAt CX X σ (E σ))
    (ha : PA X (e :: es) t) (hdb : (x == ("__debug__" : Str)) = false := by decide) (he : starEach (e :: es) X.env = (false, eval e X.env) :: starEach es X.env := by rfl) (hpl : (backTo pos (starEach es X.env)).any (·.1) = false := by rfl) :
    PE X (.Call (.Name x p) (e :: es) [] pos) (tMakeS C sp E t) := by
  refine ⟨fun pins s σ H Q I h => ?_⟩
  refine wpAny_Call_Name_kw (ld_glob I hg hm ?_ hdb)
  refine PySem.W.callWith_K (h₀ := X.base) I.ok.mod.kin M.kp (thn (ha.run pos pins s σ H _ I h) fun us s1 ⟨vs, H1, I1, r, q⟩ => ⟨I1.kIn, ?_⟩) he hpl
  exact run_makeS M F hr hb (hx σ) I1 r q
/-- o.m(..), m may raise -/
def tMethE (C : Addr) (m : Str) (sp : Sp) (E : L2.St → XK) (ta : TE) (t : TA) : TE := fun σ H Q => ta σ H fun x H1 => ∃ a dx fs, x = .ref a ∧ H1 a = some (.ins C dx fs) ∧ fs.lookup m = none ∧
  t σ H1 fun vs H2 => sp (x :: vs) H2 Q (E σ)
theorem pe_methE {pl : Sem Bool} (he : PE X o ta) (c : Cls X.K C) (hm : Meth X.K C m f) (F : FnOk X.prog X.w X.K X.mg X.base CX k f fd ps sp) (hr : Room k X.A) (hb : Binds X.K fd ps []) (hx : ∀ σ, PassesAt CX X σ (E σ)) (ha : PA X (e :: es) t)
    (hst : starEach (e :: es) X.env = (false, eval e X.env) :: starEach es X.env := by rfl) (hpl : (backTo pos (starEach es X.env)).any (·.1) = false := by rfl)
    (ht : eval (.Call (.Attribute o m apos) (e :: es) [] pos) X.env = (do
      let ov ← eval o X.env
      standAt apos.atName
      let (f, first) ← holding [ov] (getMethod ov m pl)
      callWith pos f first (backTo pos (starEach (e :: es) X.env)) (backToKw pos (keywordEach [] X.env))) := by rfl) :
    PE X (.Call (.Attribute o m apos) (e :: es) [] pos) (tMethE C m sp E ta t) := by
  refine ⟨fun pins s σ H Q I h => ?_⟩
  refine PySem.W.methodCall_KW (pl := pl) (thn (he.run pins s σ H _ I h) fun u s1 ⟨x, H1, I1, rx, a, dx, fs, ex, ea, l, q⟩ => ?_) ht
  subst ex
  obtain rfl : u = Value.ref a := rx
  refine getmeth_ok I1 ea c hm l ?_
  refine PySem.W.callWith_K (first := [.ref a]) (h₀ := X.base) I.ok.mod.kin hm.kp (thn (ha.run pos pins s1 σ H1 _ I1 q) fun us s2 ⟨vs, H2, I2, r, q2⟩ => ⟨I2.kIn, ?_⟩) hst hpl
  exact run_fnS (us := .ref a :: us) (vs := .ref a :: vs) F hr hb (hx σ) I2 (.cons rfl r) q2
end
end Xv

/-! len(set(xs)), xs a list or a tuple of unlike texts -/
namespace Ow
open PySem PySem.Spec PyProof.Rows L2
/-- how many unlike ones stand ahead of place i -/
def cn (xs : List Str) : Nat → Nat
  | 0 => 0
  | i + 1 => if (xs.take i).any (· == xs.getD i Str.empty) = true then cn xs i else cn xs i + 1
theorem cn_le (xs : List Str) : ∀ i, cn xs i ≤ i
  | 0 => Nat.le_refl _
  | i + 1 => by
    have := cn_le xs i
    unfold cn
    split <;> omega
section
variable {prog : Program} {w : World} {A : Around} {R : Result → Shared → Prop} {I : Addr} {fp wr : List Addr} {G : Array GenState → Array GenState → Prop} {n : Nat} {P : Nat → Value → Prop} {St : Nat → Shared → Prop}
theorem grow_setD (Wk : WalksS prog w A.in1 I fp wr G n P St) (D : Addr) (dF : D ∉ fp) (xs : List Str) (len : xs.length = n) (few : n < 64) (val : ∀ i v, P i v → ∃ t, v = .str (xs.getD i Str.empty) t) :
    ∀ (k i : Nat) (s : Shared), n - i = k → i ≤ n → St i s → s.heap.SetOf (PySem.strKind prog w) D (fun z => (xs.take i).any (· == z)) (cn xs i) →
      (∀ s', Moved (D :: wr) G s s' → s'.heap.SetOf (PySem.strKind prog w) D (fun z => (xs.take n).any (· == z)) (cn xs n) → R (.ok (.ret .none)) s') → codeAny (model prog w) A (.builtin "set.update.loop" ⟨[.ref D, .ref I], []⟩) R s := by
  have dW : D ∉ wr := fun z => dF (Wk.sub _ z)
  have up : ∀ b ∈ wr, b ∈ D :: wr := fun b z => List.mem_cons_of_mem _ z
  intro k
  induction k with
  | zero =>
    intro i s hk hi st hS fin
    have ein : i = n := by omega
    subst ein
    refine codeAny_builtin PyProof.Rows.F.entry_set_update_loop ?_
    rw [Around.under_plainId PyProof.Rows.F.plain_set_update_loop _]
    show wpAny _ A.in1 (pyNext (.ref I) >>= _) _ _ s
    refine wpAny_bind (Wk.done s _ _ st fun s' mv => wpAny_pure (fin s' (mv.mono up) ?_))
    obtain ⟨o, es, ep, t, ho, more⟩ := hS
    exact ⟨o, es, ep, t, mv.heap D _ dW ho, more⟩
  | succ k ih =>
    intro i s hk hi st hS fin
    have lt : i < n := by omega
    have lx : i < xs.length := by omega
    refine codeAny_builtin PyProof.Rows.F.entry_set_update_loop ?_
    rw [Around.under_plainId PyProof.Rows.F.plain_set_update_loop _]
    show wpAny _ A.in1 (pyNext (.ref I) >>= _) _ _ s
    refine wpAny_bind (Wk.item i s _ _ lt st fun v s' pv st' mv => ?_)
    obtain ⟨t, rfl⟩ := val i v pv
    have hS' : s'.heap.SetOf (PySem.strKind prog w) D (fun z => (xs.take i).any (· == z)) (cn xs i) := by
      obtain ⟨o, es, ep, tb, ho, more⟩ := hS
      exact ⟨o, es, ep, tb, mv.heap D _ dW ho, more⟩
    show wpAny _ A.in1 (holding [Value.str (xs.getD i Str.empty) t] (setAdd D (.str (xs.getD i Str.empty) t)) >>= _) _ _ s'
    refine wpAny_bind (wpAny_holding ?_)
    unfold setAdd
    refine wpAny_holding (wpAny_bind ((PySem.strKind prog w).pyHash (k := xs.getD i Str.empty) (strKind_is _ _ _ _) ?_))
    refine wpAny_setAddHashed_of (knd := PySem.strKind prog w) (s := { s' with toks := s'.toks + 1 }) (strKind_is _ _ _ _) rfl hS' (by have := cn_le xs i; unfold scanBound; omega) fun h' sb grown => ?_
    have grown' : h'.SetOf (PySem.strKind prog w) D (fun z => (xs.take (i + 1)).any (· == z)) (cn xs (i + 1)) :=
      PyProof.Rows.SetOf_congr grown (fun z => (any_take lx z).symm) (by first | rfl | (unfold cn; split <;> simp_all))
    refine wpAny_pure ⟨plainId_quiet PyProof.Rows.F.plain_set_update_loop _, ih (i + 1) _ (by omega) lt (Wk.frame _ s' _ _ st' (Nat.le_succ _) fun b hb o e => ?_) grown' fun s'' mv2 done => ?_⟩
    · rw [sb.2 b (fun z : b = D => dF (by rw [← z]; exact hb))]
      exact e
    · refine fin s'' (Moved.trans Wk.gtrans ((mv.mono up).then_heap (Nat.le_succ _) fun b o hb e => ?_) mv2) done
      rw [sb.2 b (fun z : b = D => hb (by rw [z]; exact List.mem_cons_self))]
      exact e
end
section
variable {prog : Program} {w : World} {A : Around} {E : Value → Shared → Prop} {s : Shared}
set_option maxHeartbeats 3200000 in
theorem set_fromD {T TI : String} {l : Addr} {items : Array Value} {Is : Heap → Prop} {At : Addr → Nat → Heap → Prop} {xs : List Str} {Q : Value → Shared → Prop} (S : Src prog w T TI l items Is At) (hh : A.handled = none) (is0 : Is s.heap) (ia : StrsAre items.toList xs) (few : xs.length < 64)
    (h : ∀ (h' : Heap) (tk : Nat), h'.SetOf (PySem.strKind prog w) s.heap.objs.size (fun z => (xs.take items.size).any (· == z)) (cn xs items.size) → (∀ b o, b < s.heap.objs.size → s.heap.get? b = some o → h'.get? b = some o) → Q (.ref s.heap.objs.size) { s with heap := h', toks := tk }) :
    wpAny (model prog w) A (call (.type "set") [.ref l]) Q E s := by
  obtain ⟨c, tl, hmro⟩ := PySem.F.called_set.mro
  have hmade := PySem.F.called_set.made
  have hsub := PySem.F.called_set.sub
  refine wpAny_call (codeAny_of_tree ?_)
  show wpAny _ _ (callAny (.type "set") _) _ _ _
  refine wpAny_pure ⟨Code.quiet_builtin _ (by decide +kernel), codeAny_builtin PySem.F.entry_type_call ?_⟩
  rw [Around.under_plain (weight_type_call_type "set" [.ref l] []) rfl]
  have k1 := PySem.F.called_set.notType
  have k2 := PySem.F.called_set.canCreate
  have k3 := PySem.F.typeCall_set_1 (.ref l)
  repeat (any_goals (first | assumption | wp_step))
  refine codeAny_mono (code_set_new_1 (.ref l) (E := E) (Q₁ := fun obj z => ∃ led : Bool, obj = .ref s.heap.objs.size ∧ z = { s with heap := s.heap.push { cls := .type "set", dict := none, data := .set #[] 0 (.fresh 0 0 led) } }) fun led => ⟨led, rfl, rfl⟩) fun r z hr => ?_
  cases r with
  | error e => exact hr
  | ok fl =>
    cases fl with
    | ret obj =>
      obtain ⟨led, rfl, rfl⟩ := hr
      generalize eN : s.heap.push { cls := .type "set", dict := none, data := .set #[] 0 (.fresh 0 0 led) } = N
      have at_ : N.get? s.heap.objs.size = some { cls := .type "set", dict := none, data := .set #[] 0 (.fresh 0 0 led) } := by rw [← eN]; exact Heap.get?_push_size _ rfl
      have zN : N.objs.size = s.heap.objs.size + 1 := by rw [← eN]; exact Heap.size_push ..
      have kN : ∀ b o, s.heap.get? b = some o → N.get? b = some o := fun b o e => by rw [← eN]; exact Heap.get?_push_of_some _ e
      have ty : Shared.TypeIs { s with heap := N } (.ref s.heap.objs.size) "set" := ⟨_, at_, rfl⟩
      have isN : Is N := S.keep _ _ is0 kN
      have hli := PySem.F.called_set.init.lookup
      have hbi := PySem.F.called_set.init.bind (.ref s.heap.objs.size)
      repeat (any_goals (first | assumption | wp_step))
      refine codeAny_mono (codeAny_call_builtin (R := wants (fun r z => r = .none ∧ ∃ h' tk, z = { s with heap := h', toks := tk } ∧ h'.SetOf (PySem.strKind prog w) s.heap.objs.size (fun y => (xs.take items.size).any (· == y)) (cn xs items.size) ∧
          (∀ b o, b < s.heap.objs.size → s.heap.get? b = some o → h'.get? b = some o)) E) PySem.F.called_set.init.plain PySem.F.entry_set_init (check_set_init_1 ty ?_)) fun r₂ z hr₂ => ?_
      · obtain ⟨ol, gl, cl⟩ := S.obj _ isN
        obtain ⟨ocls, odict, odata, oslots⟩ := ol
        simp only at cl
        subst cl
        have g1 := S.s1
        have g2 := S.s2
        have g3 := S.s3
        unfold Builtin.«set.__init__» noKeywords Builtin.Frozenset.updateFrom
        generalize ePI : pyIter = PI
        wp_walk
        subst ePI
        refine S.iter _ _ _ _ isN ?_
        refine wpAny_bind (wpAny_runValue ?_)
        have lS : l < s.heap.objs.size := by
          obtain ⟨o, g, _⟩ := S.obj _ is0
          exact Heap.lt_size g
        have h3 : A.in1.in1.in1.handled = none := by simp [hh]
        have lI : l ≠ N.objs.size := by rw [zN]; exact Nat.ne_of_lt (Nat.lt_succ_of_lt lS)
        have dF : s.heap.objs.size ∉ [N.objs.size, l] := by
          rw [zN]
          simp only [List.mem_cons, List.mem_singleton, List.not_mem_nil, or_false, not_or]
          exact ⟨Nat.ne_of_lt (Nat.lt_succ_self _), Nat.ne_of_gt lS⟩
        have len : xs.length = items.size := by rw [← StrsAre.len_eq ia, Array.length_toList]
        have gI : (N.push { cls := .type TI, data := .fields #[.ref l, .int 0 0] }).get? N.objs.size = some { cls := .type TI, data := .fields #[.ref l, .int 0 0] } := Heap.get?_push_size _ rfl
        have kI : ∀ b o, N.get? b = some o → (N.push { cls := .type TI, data := .fields #[.ref l, .int 0 0] }).get? b = some o := fun b o e => Heap.get?_push_of_some _ e
        refine grow_setD ((S.walk _ _ h3 lI).toS) s.heap.objs.size dF xs len (by rw [← len]; exact few) (fun i v hv => SS.strs_at ia i v (by rw [Array.getElem?_toList]; exact hv)) (items.size - 0) 0 _ (by omega) (Nat.zero_le _)
          ⟨S.at0 _ _ gI, S.keep _ _ isN kI⟩ ?start0 ?fin0
        case start0 => exact PyProof.Rows.SetOf_congr ((PyProof.Rows.setObjOf_fresh (knd := PySem.strKind prog w) led).setOf (kI _ _ at_) (by unfold scanBound; omega)) (fun _ => rfl) rfl
        case fin0 =>
          intro s' mv hS'
          obtain ⟨h', g', d', tk', os'⟩ := s'
          have eg : g' = s.gens := mv.gens
          have ed : d' = s.drawn := mv.drawn
          have eo : os' = s.os := mv.os
          subst eg; subst ed; subst eo
          show wpAny _ _ _ _ _ _
          refine wpAny_pure ?_
          show wpAny _ _ (ret Value.none) _ _ _
          refine wpAny_pure ⟨rfl, h', tk', rfl, hS', fun b o hb e => mv.heap b o ?_ (kI _ _ (kN _ _ e))⟩
          simp only [List.mem_cons, List.mem_singleton, List.not_mem_nil, or_false, not_or]
          exact ⟨Nat.ne_of_lt hb, by show b ≠ N.objs.size; rw [zN]; exact Nat.ne_of_lt (Nat.lt_succ_of_lt hb)⟩
      · cases r₂ with
        | error e => exact hr₂
        | ok fl₂ =>
          cases fl₂ with
          | ret r =>
            obtain ⟨rfl, h', tk, rfl, hS', hk'⟩ := hr₂
            repeat (any_goals (first | assumption | wp_step))
            exact h _ _ hS' hk'
          | _ => exact hr₂.elim
    | _ => exact hr.elim
end
end Ow

namespace Ow
open PySem PySem.Spec PyProof.Rows L2
section
variable {X : Cx}
def tLenSetD (K : PySem.W.Frag) (ta : TE) : TE := fun σ H Q => ta σ H fun x H1 => ∃ l, ∃ xs : List Str, x = .ref l ∧ (SqL K H1 l (xs.map V.str) ∨ SqT K H1 l (xs.map V.str)) ∧ xs.length < 64 ∧ Q (.int (cn xs xs.length)) H1
theorem pe_lenSetD {a : Expr} {ta : TE} {p p2 q pos : Pos} (hc : X.calm = true) (hg : Gl X "len") (hm : X.mg "len" = none) (hg2 : Gl X "set") (hm2 : X.mg "set" = none) (ha : PE X a ta)
    (na : starEach [a] X.env = (false, eval a X.env) :: starEach [] X.env := by rfl) : PE X (.Call (.Name "len" p) [.Call (.Name "set" p2) [a] [] q] [] pos) (tLenSetD X.K ta) := by
  refine ⟨fun pins s σ H Q I h => ?_⟩
  refine Call_ (ld_blt I hg hm boot_len (PyProof.Rows.callWith_builtin1 (PyProof.Rows.args_cons ?_ rfl) rfl rfl))
  refine Call_ (ld_blt I hg2 hm2 boot_set ?_)
  refine PyProof.Rows.callWith_type1 (PyProof.Rows.args_cons (thn (ha.run pins s σ H _ I h) fun v s1 ⟨x, H1, I1, r1, q1⟩ => PyProof.Rows.args_nil ?_) na) na rfl
  obtain ⟨l, xs, rfl, hq, few, q1⟩ := q1
  cases r1
  have last : ∀ (its : List Value), Vals (xs.map V.str) its → ∀ (h' : Heap) (tk : Nat), h'.SetOf (PySem.strKind X.prog X.w) s1.heap.objs.size (fun z => (xs.take its.toArray.size).any (· == z)) (cn xs its.toArray.size) →
      (∀ b o, b < s1.heap.objs.size → s1.heap.get? b = some o → h'.get? b = some o) →
      wpAny (model X.prog X.w) X.A (spliced (backTo pos (starEach [] X.env))) (fun vs z => wpAny (model X.prog X.w) X.A (call (.builtin "len") (Value.ref s1.heap.objs.size :: vs)) (EP X pins σ Q) X.xe z) X.xe { s1 with heap := h', toks := tk } := fun its r h' tk hS hk => by
    refine PyProof.Rows.args_nil ?_
    have hl : its.toArray.size = xs.length := by rw [List.size_toArray, ← r.length, List.length_map]
    rw [hl] at hS
    obtain ⟨o, es, ep, t, ho, hex, hd, _, _, _, hf, hn⟩ := hS
    have I2 : Inv X pins σ H1 { s1 with heap := h', toks := tk } := I1.kept fun b o e => hk b o (Heap.lt_size e) e
    have := cn_le xs xs.length
    exact call_len_set ho hex hd hf (by rw [hn]; omega) ⟨.int (cn xs xs.length), H1, I2.tok _, ⟨_, by rw [hn]⟩, q1⟩
  rcases hq with hq | hq
  · obtain ⟨its, r, pl, hz⟩ := I1.list hq
    exact set_fromD (src_list l its.toArray) (I1.ok.hd hc) pl.isList (by simpa using strsAre_of r) few fun h' tk hS hk => last its r h' tk hS hk
  · obtain ⟨its, r, pl, hz⟩ := I1.tuple hq
    exact set_fromD (src_tup l its.toArray) (I1.ok.hd hc) pl (by simpa using strsAre_of r) few fun h' tk hS hk => last its r h' tk hS hk
end
end Ow

/-! what walks lists and tuples alike -/
namespace Ow
open PySem PySem.Spec PyProof.Rows L2
def SqA (K : PySem.W.Frag) (H : Hp) (a : Addr) (xs : List V) : Prop := SqL K H a xs ∨ SqT K H a xs
theorem sqt_same {K : PySem.W.Frag} {H H' : Hp} {a : Addr} {xs : List V} (s : Same H H') (h : SqT K H a xs) : SqT K H' a xs :=
  h.elim (fun h => .inl (h.elim (fun h => .inl (s _ _ h)) fun ⟨o, h⟩ => .inr ⟨o, s _ _ h⟩)) fun h => .inr h
theorem SqA.same {K : PySem.W.Frag} {H H' : Hp} {a : Addr} {xs : List V} (s : Same H H') (h : SqA K H a xs) : SqA K H' a xs := h.elim (fun h => .inl (s.seq h)) fun h => .inr (sqt_same s h)
theorem walk_enumT {K : PySem.W.Frag} {a : Addr} {xs : List V} : Walk (IteT K a) xs.length (fun H => SqT K H a xs) (YPair (fun i => some (.int (i : Nat))) (fun i => xs[i]?)) := by
  refine ⟨fun i _ hi q => ⟨xs, xs[i], q, by simp [hi]⟩, fun _ q => ⟨xs, q, rfl⟩, fun i H v H' _ q y => ?_⟩
  obtain ⟨T, x, h1, h2, h3, h4⟩ := y
  exact ⟨T, .int (i : Nat), x, h1, h2, h3, rfl, h4 xs q⟩
/-- for x in a list or a tuple: the walker is one that gives xs[i] while the heap only grows -/
def iSeqA (K : PySem.W.Frag) (tl : TE) : TI := fun σ H R => tl σ H fun x H1 => ∃ a xs, x = .ref a ∧ SqA K H1 a xs ∧ ∀ (J : It) (G : Hp → Prop), Walk J xs.length G (YAt xs) → (∀ H', Same H1 H' → G H') → R J H1
theorem pi_seqA {X : Cx} {tg l : Expr} {tl : TE} (hl : PE X l tl) : PI X tg l (iSeqA X.K tl) := by
  refine ⟨fun pins s σ H R I h => ?_⟩
  refine thn (hl.run pins s σ H _ I h) fun v s1 ⟨x, H1, I1, r1, a, xs, e, hA, q⟩ => ?_
  subst e
  cases r1
  rcases hA with hq | hq
  · obtain ⟨its, rv, p, hz⟩ := I1.list hq
    refine wpAny_pyIter_list p.isList ?_
    refine ⟨s1.heap.objs.size, [s1.heap.objs.size], _, _, H1, rfl, I1.kept (t' := s1.toks) fun b o e => Heap.get?_push_of_some _ e, turn_list a _, ⟨_, Heap.get?_push_size _ rfl, rfl, rfl⟩, fun b hb => ?_, q _ _ walk_list fun H' z => z.seq hq⟩
    have e : b = s1.heap.objs.size := by simpa using hb
    subst e
    exact I1.fpOk (Nat.le_refl _) (I1.hok.fresh (Nat.le_refl _))
  · obtain ⟨its, rv, p, hz⟩ := I1.tuple hq
    refine wpAny_pyIter_tuple (show s1.heap.IsTuple a its.toArray from p) ?_
    refine ⟨s1.heap.objs.size, [s1.heap.objs.size], _, _, H1, rfl, I1.kept (t' := s1.toks) fun b o e => Heap.get?_push_of_some _ e, turn_tuple a _, ⟨_, Heap.get?_push_size _ rfl, rfl, rfl⟩, fun b hb => ?_, q _ _ walk_tup fun H' z => sqt_same z hq⟩
    have e : b = s1.heap.objs.size := by simpa using hb
    subst e
    exact I1.fpOk (Nat.le_refl _) (I1.hok.fresh (Nat.le_refl _))
/-- for i, x in enumerate(a list or a tuple) -/
def iEnumA (K : PySem.W.Frag) (ta : TA) : TI := fun σ H R => ta σ H fun vs H1 => ∃ a xs, vs = [.ref a] ∧ SqA K H1 a xs ∧ ∀ (J : It) (G : Hp → Prop), Walk J xs.length G (YPair (fun i => some (.int (i : Nat))) (fun i => xs[i]?)) → (∀ H', Same H1 H' → G H') → R J H1
theorem pi_enumA {X : Cx} {e : Expr} {ta : TA} {p pos tpos : Pos} {elts : List Expr} {kk : Nat} (hg : Gl X "enumerate") (hm : X.mg "enumerate" = none) (ha : PA X [e] ta) (hs : starEach [e] X.env = [(false, eval e X.env)] := by rfl) :
    PI X (.Tuple elts kk tpos) (.Call (.Name "enumerate" p) [e] [] pos) (iEnumA X.K ta) := by
  refine ⟨fun pins s σ H R I h => ?_⟩
  refine Call_ (ld_blt I hg hm boot_enumerate (PyProof.Rows.callWith_type1 (thn (ha.run pos pins s σ H _ I h) fun us s1 ⟨vs, H1, I1, r1, q1⟩ => ?_) hs rfl))
  obtain ⟨a, xs, ex, hA, q⟩ := q1
  subst ex
  cases r1 with
  | cons r rr =>
    cases rr
    cases r
    have fpo : ∀ b, b ∈ [s1.heap.objs.size + 1, s1.heap.objs.size] → s1.heap.objs.size ≤ b := fun b hb => by
      have e' : b = s1.heap.objs.size + 1 ∨ b = s1.heap.objs.size := by simpa using hb
      omega
    rcases hA with hq | hq
    · obtain ⟨its, rv, p', hz⟩ := I1.list hq
      refine call_enumerate_list p'.isList fun h' he hit hsz hk => wpAny_pyIter_enum he ?_
      have I2 : Inv X pins σ H1 { s1 with heap := h' } := I1.kept (t' := s1.toks) hk
      exact ⟨s1.heap.objs.size + 1, [s1.heap.objs.size + 1, s1.heap.objs.size], _, _, H1, rfl, I2, turn_enum a (s1.heap.objs.size + 1) s1.heap.objs.size, ⟨⟨.none, he⟩, hit, Nat.succ_ne_self _⟩, fun b hb => I1.fpOk (fpo b hb) (I1.hok.fresh (fpo b hb)), q _ _ walk_enum fun H' z => z.seq hq⟩
    · obtain ⟨its, rv, p', hz⟩ := I1.tuple hq
      have p' : s1.heap.IsTuple a its.toArray := p'
      have al : a < s1.heap.objs.size := by obtain ⟨o, q, _⟩ := p'; exact Heap.lt_size q
      refine enum_tup p' fun h' he hit hsz hk => wpAny_pyIter_enum he ?_
      have I2 : Inv X pins σ H1 { s1 with heap := h' } := I1.kept (t' := s1.toks) hk
      exact ⟨s1.heap.objs.size + 1, [s1.heap.objs.size + 1, s1.heap.objs.size], _, _, H1, rfl, I2, turn_enumT a (s1.heap.objs.size + 1) s1.heap.objs.size, ⟨⟨.none, he⟩, hit, Nat.succ_ne_self _, Nat.ne_of_lt al, Nat.ne_of_gt (Nat.lt_succ_of_lt al)⟩, fun b hb => I1.fpOk (fpo b hb) (I1.hok.fresh (fpo b hb)), q _ _ walk_enumT fun H' z => sqt_same z hq⟩
end Ow

/-! xs[::-1] of a list, of a tuple -/
namespace Ow
open PySem PySem.Spec PyProof.Rows L2 HT
section
variable {prog : Program} {w : World} {A : Around} {E : Value → Shared → Prop} {s : Shared}
theorem adj_rev (n : Nat) : Builtin.Slice.sliceAdjust none none (-1) (n : Int) = ((n : Int) - 1, -1) := by
  unfold Builtin.Slice.sliceAdjust
  simp
theorem plc_rev (n : Nat) : Builtin.Slice.slicePlaces ((n : Int) - 1) (-1) (-1) = n := by
  unfold Builtin.Slice.slicePlaces
  by_cases h : n = 0
  · subst h
    simp
  · have g : ((n : Int) - 1) > -1 := by omega
    simp
    omega
theorem appl_rev {sl : Addr} {tk : Tok} {n : Nat} {Q : Int × Int × Nat → Shared → Prop} (hs : s.heap.IsSliceOf sl .none .none (.int (-1) tk)) (q : Q ((n : Int) - 1, -1, n) s) :
    wpAny (model prog w) A (Builtin.Slice.sliceApplied (.ref sl) (pure (n : Int))) Q E s := by
  obtain ⟨ob, e1, e2, e3⟩ := id hs
  unfold Builtin.Slice.sliceApplied Builtin.Slice.sliceFields
  refine wpAny_bind (wpAny_bind (wpAny_field e1 e3 (x := .none) rfl (wpAny_bind (wpAny_field e1 e3 (x := .none) rfl (wpAny_bind (wpAny_field e1 e3 (x := .int (-1) tk) rfl (wpAny_pure ?_)))))))
  refine wpAny_bind (slicePart_int ?_)
  show wpAny _ _ (if ((-1 : Int) == 0) = true then _ else _) _ _ s
  rw [if_neg (by decide)]
  refine wpAny_bind (slicePart_none (wpAny_bind (slicePart_none (wpAny_bind (wpAny_pure ?_)))))
  show wpAny _ _ (match Builtin.Slice.sliceAdjust none none (-1) (n : Int) with | (l, h) => pure (l, (-1 : Int), Builtin.Slice.slicePlaces l h (-1))) _ _ s
  rw [adj_rev]
  show wpAny _ _ (pure ((n : Int) - 1, (-1 : Int), Builtin.Slice.slicePlaces ((n : Int) - 1) (-1) (-1))) _ _ s
  rw [plc_rev]
  exact wpAny_pure q
theorem pick_rev (xs : Array Value) : ((List.range xs.size).filterMap fun (m : Nat) => xs[((xs.size : Int) - 1 + (m : Int) * -1).toNat]?).toArray = xs.toList.reverse.toArray := by
  refine congrArg List.toArray ?_
  have e : ∀ n, n ≤ xs.size → (List.range n).filterMap (fun (m : Nat) => xs[((xs.size : Int) - 1 + (m : Int) * -1).toNat]?) = xs.toList.reverse.take n := by
    intro n
    induction n with
    | zero => intro _; rfl
    | succ n ih =>
      intro hn
      have j : ((xs.size : Int) - 1 + (n : Int) * -1).toNat = xs.size - 1 - n := by omega
      have l2 : xs.size - 1 - n < xs.size := by omega
      have r : xs.toList.reverse[n]? = some xs[xs.size - 1 - n] := by
        rw [List.getElem?_reverse (by simp; omega)]
        simp [Array.getElem?_eq_getElem l2]
      have q : xs[((xs.size : Int) - 1 + (n : Int) * -1).toNat]? = some xs[xs.size - 1 - n] := by
        rw [j]
        exact Array.getElem?_eq_getElem l2
      rw [List.range_succ, List.filterMap_append, ih (by omega), List.take_add_one, r]
      simp only [List.filterMap_cons, q, List.filterMap_nil]
      rfl
  rw [e xs.size (Nat.le_refl _)]
  exact List.take_of_length_le (by simp)
theorem item_rev {t sl : Addr} {items : Array Value} {tk : Tok} {Q : Value → Shared → Prop} (ht : IsTup s.heap t items) (hs : s.heap.IsSliceOf sl .none .none (.int (-1) tk))
    (q : Q (.ref s.heap.objs.size) { s with heap := s.heap.push { cls := .type "tuple", data := .seq items.toList.reverse.toArray } }) (hz : items.size ≤ sizeLine) : wpAny (model prog w) A (getItem (.ref t) (.ref sl)) Q E s := by
  have zz : sizeOk (.seq items.toList.reverse.toArray) := by
    show items.toList.reverse.toArray.size ≤ sizeLine
    simpa using hz
  obtain ⟨ob, e1, e2, e3⟩ := id hs
  have ty : s.TypeIs (.ref sl) "slice" := ⟨ob, e1, e2⟩
  unfold getItem
  try with_reducible refine wpAny_holding ?_
  first | refine wpAny_bind (wpAny_pure ?_) | skip
  refine wpAny_bind (wpAny_sequenceKey ht.typeIs (by decide) ?_)
  refine wpAny_bind (wpAny_callSpecial?_slot (name := Str.ofString "__getitem__") ht.typeIs PyProof.Rows.slot_tuple_getitem (wpAny_call_entry PyProof.Rows.slot_tuple_getitem ht.typeIs entry_tuple_getitem ?_ (args_tuple_getitem _ _)))
  show wpAny _ _ (Builtin.Tuple.tupleItemsOf (.ref t) >>= _) _ _ s
  refine wpAny_bind (tupleItemsOf_ ht (wpAny_bind (wpAny_typeOf ty ?_)))
  rw [if_pos (by decide)]
  refine wpAny_bind (appl_rev hs ?_)
  have no : ¬ ((((items.size : Int) - 1) == 0 && (-1 : Int) == 1 && items.size == items.size) = true) := by simp
  show wpAny _ _ (if (((items.size : Int) - 1) == 0 && (-1 : Int) == 1 && items.size == items.size) = true then _ else _) _ _ s
  rw [if_neg no, pick_rev]
  first
    | exact wpAny_bind (m := Builtin.Tuple.tupleExact _) (wpAny_newObj_type (wpAny_pure ⟨_, rfl, wpAny_pure q⟩) zz)
    | exact wpAny_bind (m := Builtin.Tuple.tupleExact _) (wpAny_newObj_type (wpAny_bind (wpAny_pure (wpAny_pure ⟨_, rfl, wpAny_pure q⟩))) zz)
    | exact wpAny_bind (wpAny_bind (m := Builtin.Tuple.tupleExact _) (wpAny_newObj_type (wpAny_pure (wpAny_pure ⟨_, rfl, wpAny_pure q⟩)) zz))
end
/-- the items the other way round -/
def rRev (K : PySem.W.Frag) : V → Hp → VK → Prop := fun x H Q => ∃ a xs, x = .ref a ∧ ((SqL K H a xs ∧ ∀ p, H p = none → Q (.ref p) (upd H p (.lst xs.reverse))) ∨ (SqT K H a xs ∧ ∀ p, H p = none → Q (.ref p) (upd H p (.tup xs.reverse))))
def tRev (K : PySem.W.Frag) (te ts : TE) : TE := fun σ H Q => te σ H fun x H1 => ts σ H1 fun i H2 => i = .int (-1) ∧ rRev K x H2 Q
section
variable {X : Cx} {e st : Expr} {te ts : TE} {pos p2 : Pos}
theorem pe_rev (he : PE X e te) (hst : PE X st ts) : PE X (.Subscript e (.Slice none none (some st) p2) pos) (tRev X.K te ts) := by
  refine ⟨fun pins s σ H Q I h => ?_⟩
  refine Subscript_ (thn (he.run pins s σ H _ I h) fun v s1 ⟨x, H1, I1, rx, q1⟩ => ?_)
  refine wpAny_Slice ?_
  simp only [evalPart_none, evalPart_some]
  refine wpAny_pure (wpAny_pure ?_)
  refine thn (hst.run pins s1 σ H1 _ I1 q1) fun vs s2 ⟨i, H2, I2, ri, ei, a, xs, ex, q2⟩ => ?_
  subst ei ex
  obtain ⟨tk, rfl⟩ := ri
  obtain rfl : v = Value.ref a := rx
  have I3 : Inv X pins σ H2 { s2 with heap := s2.heap.push { cls := .type "slice", data := .fields #[.none, .none, .int (-1) tk] } } := I2.kept (t' := s2.toks) fun b ob q => Heap.get?_push_of_some _ q
  have hsl : (s2.heap.push { cls := .type "slice", data := .fields #[.none, .none, .int (-1) tk] }).IsSliceOf s2.heap.objs.size .none .none (.int (-1) tk) := Heap.IsSliceOf.new ..
  show wpAny (model X.prog X.w) X.A (subscriptTail e (.Slice none none (some st) p2) (.ref a) (.ref s2.heap.objs.size)) (EP X pins σ Q) X.xe { s2 with heap := s2.heap.push { cls := .type "slice", data := .fields #[.none, .none, .int (-1) tk] } }
  rcases q2 with ⟨hx, q⟩ | ⟨hx, q⟩
  · obtain ⟨its, rv, pl, hz⟩ := I3.list hx
    refine tail_any pl.isList.typeIs slot_list_getitem.lookup (wpAny_getItem_list_slice (hsz := by rw [List.size_toArray, ← rv.length]; exact hz) pl.isList hsl .none .none (.int (-1) tk) (by decide) ?_) (by with_unfolding_all rfl)
    rw [PySem.W.krv_pick]
    refine ⟨.ref _, _, I3.laid (t' := s2.toks) (o := .lst xs.reverse) (fun b ob q => Heap.get?_push_of_some _ q) (Nat.le_refl _) ?_, rfl, q _ (I3.hok.fresh (Nat.le_refl _))⟩
    exact ⟨by rw [List.length_reverse]; exact hz, _, _, rv.reverse, Heap.get?_push_size _ rfl⟩
  · obtain ⟨its, rv, ht, hz⟩ := I3.tuple hx
    refine tail_any ht.typeIs PyProof.Rows.slot_tuple_getitem.lookup (item_rev ht hsl ?_ (by rw [List.size_toArray, ← rv.length]; exact hz)) (by with_unfolding_all rfl)
    refine ⟨.ref _, _, I3.laid (t' := s2.toks) (o := .tup xs.reverse) (fun b ob q => Heap.get?_push_of_some _ q) (Nat.le_refl _) ?_, rfl, q _ (I3.hok.fresh (Nat.le_refl _))⟩
    exact ⟨by rw [List.length_reverse]; exact hz, _, rv.reverse, IsTup.new _ _⟩
end
end Ow

/-! values of any kind: in a tuple of texts, their kind, their text; several except clauses with a name -/
namespace PySem.SeqAt
open AutoSeq1 (wpAny_loadPart')
open MeetsSeq
theorem dict_eq_declines_str (l : Addr) (es : Array DictEntry) (n : Nat) (dd : Option Addr) (sl : Array (Option Value)) (b : Str) (u : Tok) :
    Meets (Builtin.«dict.__eq__» ⟨[.ref l, .str b u], []⟩) (fun _ R s => s.heap.get? l = some { cls := .type "dict", dict := dd, data := .dict es n, slots := sl } ∧ R (.ok (.ret .notImplemented)) s) :=
  .of_wp fun prog w A R s h => by obtain ⟨hp, g, d, tk, os⟩ := s; obtain ⟨hl, h⟩ := h; have f1 := F.sub_str_dict; wp_walk using wpAny_loadPart' hl, wpAny_load hl; exact ⟨_, rfl, h⟩
theorem str_eq_declines_dict (b : Str) (u : Tok) (l : Addr) (c : Value) (es : Array DictEntry) (n : Nat) (dd : Option Addr) (sl : Array (Option Value)) :
    Meets (Builtin.«str.__eq__» ⟨[.str b u, .ref l], []⟩) (fun _ R s => s.heap.get? l = some { cls := c, dict := dd, data := .dict es n, slots := sl } ∧ R (.ok (.ret .notImplemented)) s) :=
  .of_wp fun prog w A R s h => by obtain ⟨hp, g, d, tk, os⟩ := s; obtain ⟨hl, h⟩ := h; wp_walk using wpAny_loadPart' hl, wpAny_load hl; exact ⟨_, rfl, h⟩
theorem RcAt.str_dict {A : Around} {s : Shared} {l : Addr} {o : Obj} {es : Array DictEntry} {n : Nat} (b : Str) (u : Tok) (ho : s.heap.get? l = some o) (hc : o.cls = .type "dict") (hd : o.data = .dict es n) (hu : A.units < cLine) : RcAt A s (.str b u) (.ref l) false := fun prog w E Q h => by
  obtain ⟨cls, dd, data, sl⟩ := o
  simp only at hc hd
  subst hc hd
  exact rc_eq_decline_or (k := false) (typeIs_str s b u) ⟨_, ho, rfl⟩ (by decide) F.sub_dict_str F.slot_str_eq F.slot_dict_eq_refl
    (fun _ hq => call_meets F.slot_str_eq (typeIs_str s b u) F.entry_str_eq (F.args_str_eq_2 _ _) (str_eq_declines_dict b u l (.type "dict") es n dd sl) ⟨ho, hq⟩)
    (fun _ hq => call_meets F.slot_dict_eq_refl ⟨_, ho, rfl⟩ F.entry_dict_eq (F.args_dict_eq_2 _ _) (dict_eq_declines_str l es n dd sl b u) ⟨ho, hq⟩)
    (fun _ hq => wpAny_of_eq (rfl : isSame (.str b u) (.ref l) = pure false) hq) (.inr hu) h
theorem EqAt.str_dict {A : Around} {s : Shared} {l : Addr} {o : Obj} {es : Array DictEntry} {n : Nat} (b : Str) (u : Tok) (ho : s.heap.get? l = some o) (hc : o.cls = .type "dict") (hd : o.data = .dict es n) (hu : A.units < cLine) : EqAt A s (.str b u) (.ref l) false := fun prog w E Q h => by
  unfold eqBool
  refine wpAny_holding ?_
  refine wpAny_ite_split (fun hab => absurd (eq_of_beq hab) nofun) (fun _ => ?_)
  exact wpAny_bind (RcAt.str_dict b u ho hc hd hu prog w E _ (wpAny_truthy_bool h))
end PySem.SeqAt
namespace Xv
open PySem PySem.Spec PyProof.Rows L2
/-- a value of any kind -/
inductive Any (K : PySem.W.Frag) (H : Hp) : V → PyData → Prop
  | non : Any K H .non .none
  | bl (b : Bool) : Any K H (.bl b) (.bool b)
  | int (i : Int) (h : i.natAbs.log2 < 1920) : Any K H (.int i) (.int i)
  | str (x : Str) : Any K H (.str x) (.str x)
  | lst {a : Addr} (xs : List Str) (h : SqL K H a (xs.map V.str)) : Any K H (.ref a) (.list (xs.map PyData.str))
  | tup {a : Addr} (xs : List Str) (h : SqT K H a (xs.map V.str)) : Any K H (.ref a) (.tuple (xs.map PyData.str))
  | dic {a : Addr} (e : H a = some (.dK [])) : Any K H (.ref a) (.dict [])
theorem dpa_str {K : PySem.W.Frag} {H : Hp} : ∀ xs : List Str, DpAll K H (xs.map V.str) (xs.map PyData.str)
  | [] => .nil
  | x :: xs => .cons (.str x) (dpa_str xs)
theorem Any.dp {K : PySem.W.Frag} {H : Hp} {v : V} {d : PyData} (h : Any K H v d) : Dp K H v d ∨ ∃ a, v = .ref a ∧ d = .dict [] ∧ H a = some (.dK []) := by
  cases h with
  | non => exact .inl .non
  | bl b => exact .inl (.bl b)
  | int i h => exact .inl (.int i)
  | str x => exact .inl (.str x)
  | lst xs h => exact .inl (.lst h (dpa_str xs))
  | tup xs h => exact .inl (.tup h (dpa_str xs))
  | dic e => exact .inr ⟨_, rfl, rfl, e⟩
section
variable {X : Cx} {pins : List (Addr × Obj)} {σ : L2.St} {H : Hp} {s : Shared}
theorem dk_nil (I : Inv X pins σ H s) {a : Addr} (e : H a = some (.dK [])) : a ≠ sysModules ∧ ∃ o es n, s.heap.get? a = some o ∧ o.cls = .type "dict" ∧ o.data = .dict es n ∧ es.toList = [] := by
  obtain ⟨_, hd, vs, rel, o, es, ep, h1, h2, h3, _, h5, _⟩ := dk_rd I.hok (.inl e)
  refine ⟨beq_eq_false_iff_ne.mp hd, o, es, ep, h1, h2.1, h3, ?_⟩
  cases rel
  generalize hes : es.toList = l at h5
  cases h5
  rfl
theorem no_dicts : ∀ xs : List Str, PyData.hasDictAll (xs.map PyData.str) = false
  | [] => by simp [PyData.hasDictAll]
  | x :: xs => by simp [PyData.hasDictAll, PyData.hasDict, no_dicts xs]
theorem show_strs : ∀ xs : List Str, PyData.showableAll (xs.map PyData.str) = true
  | [] => by simp [PyData.showableAll]
  | x :: xs => by simp [PyData.showableAll, PyData.showable, show_strs xs]
theorem deep_strs : ∀ xs : List Str, PyData.depthAll (xs.map PyData.str) = 0
  | [] => by simp [PyData.depthAll]
  | x :: xs => by simp [PyData.depthAll, PyData.depth, deep_strs xs]
theorem Any.show {K : PySem.W.Frag} {v : V} {d : PyData} (h : Any K H v d) : d.showable = true ∧ d.depth ≤ 1 := by
  cases h with
  | non => exact ⟨by simp [PyData.showable], by simp [PyData.depth]⟩
  | bl b => exact ⟨by simp [PyData.showable], by simp [PyData.depth]⟩
  | int i h => exact ⟨by simpa [PyData.showable] using h, by simp [PyData.depth]⟩
  | str x => exact ⟨by simp [PyData.showable], by simp [PyData.depth]⟩
  | lst xs h => exact ⟨by simp [PyData.showable, show_strs], by simp [PyData.depth, deep_strs]⟩
  | tup xs h => exact ⟨by simp [PyData.showable, show_strs], by simp [PyData.depth, deep_strs]⟩
  | dic e => exact ⟨by simp [PyData.showable, PyData.showableKv], by simp [PyData.depth, PyData.depthKv]⟩
theorem Any.reads (I : Inv X pins σ H s) {v : V} {d : PyData} {u : Value} (h : Any X.K H v d) (r : RelV v u) : ∃ as, Reads s.heap u d as ∧ (d.hasDict = true → sysModules ∉ as) := by
  have go : Dp X.K H v d → d.hasDict = false → ∃ as, Reads s.heap u d as ∧ (d.hasDict = true → sysModules ∉ as) := fun g n => by
    obtain ⟨as, q⟩ := Dp.reads I d v u g r
    exact ⟨as, q, fun z => absurd (n.symm.trans z) (by simp)⟩
  cases h with
  | non => exact go .non (by simp [PyData.hasDict])
  | bl b => exact go (.bl b) (by simp [PyData.hasDict])
  | int i h => exact go (.int i) (by simp [PyData.hasDict])
  | str x => exact go (.str x) (by simp [PyData.hasDict])
  | lst xs h => exact go (.lst h (dpa_str xs)) (by simp [PyData.hasDict, no_dicts])
  | tup xs h => exact go (.tup h (dpa_str xs)) (by simp [PyData.hasDict, no_dicts])
  | @dic a e =>
    obtain rfl : u = Value.ref a := r
    obtain ⟨n, o, es, ep, h1, h2, h3, h4⟩ := dk_nil I e
    refine ⟨[a], Reads.dict (as := []) (bs := []) h1 h2 h3 (by rw [h4]; exact .nil) (by rw [h4]; exact .nil), fun _ z => n (List.mem_singleton.mp z).symm⟩
end
theorem Any.same {K : PySem.W.Frag} {H H' : Hp} {v : V} {d : PyData} (s : ∀ b o, H b = some o → H' b = some o) (h : Any K H v d) : Any K H' v d := by
  cases h with
  | non => exact .non
  | bl b => exact .bl b
  | int i h => exact .int i h
  | str x => exact .str x
  | lst xs h => exact .lst xs (h.elim (fun h => .inl (h.elim (fun h => .inl (s _ _ h)) fun ⟨o, h⟩ => .inr ⟨o, s _ _ h⟩)) fun h => .inr h)
  | tup xs h => exact .tup xs (h.elim (fun h => .inl (h.elim (fun h => .inl (s _ _ h)) fun ⟨o, h⟩ => .inr ⟨o, s _ _ h⟩)) fun h => .inr h)
  | dic e => exact .dic (s _ _ e)
/-! ### in a tuple of texts -/
def isTx (v : V) (xs : List Str) : Bool := xs.any fun z => decide (v = .str z)
def rInAny (K : PySem.W.Frag) : R2 := fun x y H Q => ∃ (d : PyData) (a : Addr) (xs : List Str), y = .ref a ∧ SqT K H a (xs.map V.str) ∧ Any K H x d ∧ Q (.bl (isTx x xs)) H
theorem eq_any {X : Cx} {pins : List (Addr × Obj)} {σ : L2.St} {H : Hp} {s : Shared} (I : Inv X pins σ H s) {A : Around} {v : V} {d : PyData} {u : Value} (z : Str) (t : Tok) (h : Any X.K H v d) (r : RelV v u) (hu : A.units < cLine) : SeqAt.EqAt A s (.str z t) u (decide (v = .str z)) := by
  cases h with
  | non => cases r; rw [decide_eq_false nofun]; exact .str_none z t
  | bl b => cases r; rw [decide_eq_false nofun]; exact .str_bool z t b
  | int i h => obtain ⟨k, rfl⟩ := r; rw [decide_eq_false nofun]; exact .str_int z t i k
  | str x =>
    obtain ⟨k, rfl⟩ := r
    have e := SeqAt.EqAt.str_str (A := A) (s := s) z t x k
    have : decide ((V.str x) = V.str z) = (z == x) := by
      by_cases q : z = x
      · subst q; simp
      · rw [decide_eq_false (fun w => q (V.str.inj w).symm), beq_eq_false_iff_ne.mpr q]
    rw [this]
    exact e
  | @lst a xs h =>
    obtain rfl : u = Value.ref a := r
    obtain ⟨its, _, ⟨o, n, h1, h2, _, h3⟩, _⟩ := I.list h
    rw [decide_eq_false nofun]
    exact .str_list z t ⟨o, h1, h2, n, h3⟩ hu
  | @tup a xs h =>
    obtain rfl : u = Value.ref a := r
    obtain ⟨its, _, ⟨o, h1, h2, n, h3⟩, _⟩ := I.tuple h
    rw [decide_eq_false nofun]
    exact .str_tuple z t ⟨o, h1, h2, n, h3⟩ hu
  | @dic a e =>
    obtain rfl : u = Value.ref a := r
    obtain ⟨_, o, es, ep, h1, h2, h3, _⟩ := dk_nil I e
    rw [decide_eq_false nofun]
    exact .str_dict z t h1 h2 h3 hu
def txE (v : V) : Value → Bool
  | .str z _ => decide (v = .str z)
  | _ => false
theorem any_tx (v : V) : ∀ {xs : List Str} {its : List Value}, Vals (xs.map V.str) its → its.any (txE v) = isTx v xs ∧ ∀ y ∈ its, ∃ z t, y = .str z t
  | [], _, r => by cases r; exact ⟨rfl, fun _ h => nomatch h⟩
  | x :: xs, _, .cons r rs => by
    obtain ⟨t, rfl⟩ := r
    obtain ⟨a, b⟩ := any_tx v rs
    refine ⟨?_, fun y hy => ?_⟩
    · show (txE v (.str x t) || List.any _ (txE v)) = (decide (v = .str x) || isTx v xs)
      rw [a]
      rfl
    · rcases List.mem_cons.mp hy with h | h
      · exact ⟨x, t, h⟩
      · exact b y h
theorem op_inAny {X : Cx} (hu : X.A.units + 1 < cLine) : OpR X (compareOp .In) (rInAny X.K) := by
  intro pins s σ H x y v u Q I rx ry ⟨d, a, xs, e, ht, hx, q⟩
  subst e
  obtain rfl : u = Value.ref a := ry
  obtain ⟨its, rv, ⟨o, h1, h2, n, h3⟩, _⟩ := I.tuple ht
  obtain ⟨e1, e2⟩ := any_tx x rv
  refine SeqAt.in_tupleAt (txE x) (items := its.toArray) ⟨o, h1, h2, n, h3⟩ (fun y hy => ?_) ?_
  · obtain ⟨z, t, rfl⟩ := e2 y (by simpa using hy)
    exact eq_any I z t hx rx hu
  · rw [List.any_toArray, e1]
    exact ⟨.bl _, H, I, rfl, q⟩
/-! ### its text -/
def rReprA (K : PySem.W.Frag) : List V → Hp → VK → Prop := fun xs H Q => ∃ (x : V) (d : PyData), xs = [x] ∧ Any K H x d ∧ d.shown.length ≤ sizeLine ∧ Q (.str d.shown) H
theorem call_reprA {X : Cx} (hg : X.A.guards = some []) (hu : X.A.units + 66 < cLine) : CallR X (.builtin "repr") (rReprA X.K) := by
  intro pins s σ H xs us Q I r ⟨x, d, e, hd, h4, q⟩
  subst e
  obtain ⟨u1, rfl, r1⟩ := vals1 r
  obtain ⟨hs, hp⟩ := hd.show
  have big : ∀ a, x = .ref a → wpAny (model X.prog X.w) X.A (call (.builtin "repr") [u1]) (EP X pins σ Q) X.xe s := fun a ea => by
    subst ea
    obtain ⟨as, rd, hn⟩ := hd.reads I r1
    obtain rfl : u1 = Value.ref a := r1
    exact repr_of_reads' rd hs hn hg (by omega) (fun _ _ z => z) (fun h' u tk hk => ⟨.str d.shown, H, I.kept (t' := tk) hk, ⟨u, rfl⟩, q⟩) h4
  cases hd with
  | non =>
    cases r1
    refine PySem.P.repr_of_none ⟨.str (PyData.shown .none), H, I.tok _, ⟨s.toks, ?_⟩, q⟩
    first | done | simp [PyData.shown]
  | bl b =>
    cases r1
    refine PySem.P.repr_of_bool ⟨.str (PyData.shown (.bool b)), H, I.tok _, ⟨s.toks, ?_⟩, q⟩
    first | done | simp [PyData.shown]
  | int i h =>
    obtain ⟨t, rfl⟩ := r1
    refine PySem.P.repr_of_int h ⟨.str (PyData.shown (.int i)), H, I.tok _, ⟨s.toks, ?_⟩, q⟩
    first | done | simp [PyData.shown]
  | str x =>
    obtain ⟨t, rfl⟩ := r1
    refine PySem.P.repr_of_str ⟨.str (PyData.shown (.str x)), H, I.tok _, ⟨s.toks, ?_⟩, q⟩ (by simpa [PyData.shown] using h4)
    first | done | simp [PyData.shown]
  | lst xs h => exact big _ rfl
  | tup xs h => exact big _ rfl
  | dic e => exact big _ rfl
/-! ### its kind -/
theorem sql_ty {K : PySem.W.Frag} {H : Hp} {a : Addr} {xs : List V} (h : SqL K H a xs) : TyX K H (.ref a) (.type "list") := by
  rcases h with (h | ⟨o, h⟩) | ⟨o, its, n, h, c, _⟩
  · exact .base (.lst h)
  · exact .base (.frz h)
  · exact .kList h c
theorem sqt_tyX {K : PySem.W.Frag} {H : Hp} {a : Addr} {xs : List V} (h : SqT K H a xs) : TyX K H (.ref a) (.type "tuple") := by
  rcases h with (h | ⟨o, h⟩) | ⟨o, its, n, h, c, _⟩
  · exact .base (.tup h)
  · exact .fTuple h
  · exact .kTuple h c
theorem Any.ty {K : PySem.W.Frag} {H : Hp} {x : V} {d : PyData} (h : Any K H x d) : ∃ (T : String) (b : Bool), TyX K H x (.type T) ∧ kitB T "str" = some b ∧ ((b = true ∧ ∃ z, x = .str z) ∨ (b = false ∧ ∀ z, x ≠ .str z)) := by
  cases h with
  | non => exact ⟨"NoneType", false, .base .non, by decide +kernel, .inr ⟨rfl, nofun⟩⟩
  | bl b => exact ⟨"bool", false, .base (.bl b), by decide +kernel, .inr ⟨rfl, nofun⟩⟩
  | int i h => exact ⟨"int", false, .base (.int i), by decide +kernel, .inr ⟨rfl, nofun⟩⟩
  | str z => exact ⟨"str", true, .base (.str z), by decide +kernel, .inl ⟨rfl, z, rfl⟩⟩
  | lst xs h => exact ⟨"list", false, sql_ty h, by decide +kernel, .inr ⟨rfl, nofun⟩⟩
  | tup xs h => exact ⟨"tuple", false, sqt_tyX h, by decide +kernel, .inr ⟨rfl, nofun⟩⟩
  | dic e => exact ⟨"dict", false, .base (.dK e), by decide +kernel, .inr ⟨rfl, nofun⟩⟩
end Xv

/-! several except clauses, each with the same name; == with what is no instance -/
namespace Xv
open PySem PySem.Spec PyProof.Rows L2
/-- what the clauses wish of an exception of the body; slot i is the name's -/
def wManyA (K : PySem.W.Frag) (i : Nat) (Wout : WX) (D : Ends) : List (Value × (Addr → Value → Option Addr → TS)) → WX
  | [] => Wout
  | (c, ts) :: r => fun cls d σ H => ∃ b, PySem.W.exmOne K cls c = some b ∧ (b = true → ∀ a, H a = none → ts a cls d { nx := fun σ' H' => D.nx (σ'.set i none) H', rt := D.rt, bk := fun σ' H' => D.bk (σ'.set i none) H', ct := fun σ' H' => D.ct (σ'.set i none) H' } (σ.set i (some (.ref a))) H) ∧
    (b = false → wManyA K i Wout D r cls d σ H)
inductive HdsOkA (X : Cx) (n : Str) : List ExceptHandler → List (Value × (Addr → Value → Option Addr → TS)) → Prop
  | nil : HdsOkA X n [] []
  | cons {x : Str} {c : Value} {ts : Addr → Value → Option Addr → TS} {b₀ : Stmt} {suite : List Stmt} {np pos' : Pos} {hds : List ExceptHandler} {l : List (Value × (Addr → Value → Option Addr → TS))} (hc : Names X x c)
      (hsu : ∀ (a : Addr) (oe : Obj) (cls : Value) (d : Option Addr) (pn : List (Addr × Obj)), Zc cls d oe → (∃ vs, oe.data = .fields vs) → PSs (X.suite a ((a, oe) :: pn)) (b₀ :: suite) (ts a cls d)) (r : HdsOkA X n hds l) :
      HdsOkA X n (.ExceptHandler (some (.Name x np)) (some n) (b₀ :: suite) pos' :: hds) ((c, ts) :: l)
section
variable {X : Cx} {n : Str} {i : Nat} {body : List Stmt} {h₀ : ExceptHandler} {hds : List ExceptHandler} {l : List (Value × (Addr → Value → Option Addr → TS))} {pos : Pos} {tb : WX → TS} {Wout : WX}
theorem ps_try_manyA (hs : X.stack = X.env :: X.outer) (hf : X.env.frame = some X.env.locals) (hN : X.N.Nodup) (hi : X.N[i]? = some n) (hln : X.env.kindOf n = some .local) (tk : Takes X Wout)
    (hb : ∀ (W : WX) (pn : List (Addr × Obj)) (xe : Value → Shared → Prop), Takes (X.tr pn xe) W → PassesOwn (model X.prog X.w) X.A X.env xe → PSs (X.tr pn xe) body (tb W))
    (hh : HdsOkA X n (h₀ :: hds) l) : PS X (.Try body (h₀ :: hds) [] [] pos) (fun D σ H => tb (wManyA X.K i Wout D l) D σ H) := by
  refine ⟨fun pins s σ H D I h => ?_⟩
  have ok := I.ok
  have hfr : X.A.frames = some (X.env :: X.outer) := by rw [ok.frames, hs]
  have hloc : Loc X.env.scope n := .inl hln
  refine wpAny_Try_except ?_
  refine wpAny_mono ((hb (wManyA X.K i Wout D l) (X.pn ++ pins) (fun e s₁ => wpAny (model X.prog X.w) X.A (noteFrame e X.env) (fun _ s₂ => wpAny (model X.prog X.w) X.A (setFlight e none) (fun _ s₃ =>
    wpAny (model X.prog X.w) X.A (handleBy e X.env (h₀ :: hds)) (SP X pins D) X.xe s₃) X.xe s₂) X.xe s₁) (fun u s' xx => ?_) PassesOwn.looking).run [] s σ H D (I.toTry _) h) (fun f s1 hsp => ?_) (fun e s1 he => he)
  · obtain ⟨a, B, sI, pins', σ', H', cls, d, rfl, J', nb, up, sky, na, os, ag, w⟩ := xx
    have J : Inv X pins σ' H' sI := J'.ofTry ok
    have sky' : Sky B (X.env :: X.outer) a (Zc cls d) X.env.locals s'.heap := by rw [← hs]; exact sky
    show wpAny (model X.prog X.w) X.A (noteFrame (.ref a) X.env) _ _ _
    refine Sky.land Zc.steady hfr hf sky' fun h3 fl3 up3 => ?_
    have J3 : Inv X pins σ' H' { s' with heap := h3 } := J.landed nb fl3.1 (up.trans up3) os ag
    obtain ⟨oe3, vs3, he3, hz3, hd3⟩ := fl3.there
    have notFr : ∀ {h : Heap} {o : Obj} {vs : Array Value}, h.FunFrames B (X.env :: X.outer) → h.get? a = some o → o.data = .fields vs → a ∉ frs (X.env :: X.outer) := fun {h o vs} ff e dd hm => by
      obtain ⟨_, o', e', hnf⟩ := ff.mem hm
      rw [e] at e'; cases e'
      exact hnf _ dd
    have nfr := notFr fl3.2.2.1 he3 hd3
    have nL : a ≠ X.env.locals := fun z => nfr (List.mem_filterMap.mpr ⟨X.env, List.mem_cons_self, by rw [hf, z]⟩)
    have nF : a ∉ X.fs := fun hm => by
      obtain ⟨e, he, q⟩ := List.mem_filterMap.mp hm
      exact nfr (List.mem_filterMap.mpr ⟨e, List.mem_cons_of_mem _ he, q⟩)
    have S3 := J3.suite he3 hd3 na nL nF
    have go : ∀ {hds' : List ExceptHandler} {l' : List (Value × (Addr → Value → Option Addr → TS))}, HdsOkA X n hds' l' → wManyA X.K i Wout D l' cls d σ' H' →
        wpAny (model X.prog X.w) X.A (handleBy (.ref a) X.env hds') (SP X pins D) X.xe { s' with heap := h3 } := by
      intro hds' l' hk
      induction hk with
      | nil =>
        intro w
        refine wpAny_handleBy_nil ?_
        obtain ⟨k1, k2, k3, oe, vs, T, oT, ts', he, hz, hd, h1, hr⟩ := id fl3
        unfold PySem.passOn
        refine wpAny_bind (wpAny_field he hd h1 ?_)
        rw [if_neg (show ¬ ((Value.ref T == Value.none) = true) from by simp)]
        have fin : wpAny (model X.prog X.w) X.A (setFlight (.ref a) X.env.frame) (fun _ s4 => wpAny (model X.prog X.w) X.A (throw (.ref a) : Sem Flow) (SP X pins D) X.xe s4) X.xe { s' with heap := h3 } := by
          rw [hf]
          refine HandSPX.setFlight_upZ fl3 fun h4 hh4 up4 => wpAny_throw (tk _ _ ?_)
          exact ⟨a, B, sI, pins, σ', H', cls, d, rfl, J, nb, (up.trans up3).trans up4, .inr (.inr (by rw [hs]; exact hh4)), na, os, ag, w⟩
        first
          | exact wpAny_bind (wpAny_pure (wpAny_bind fin))
          | exact wpAny_bind fin
      | @cons x c ts b₀ suite np pos' hds2 l2 hc hsu r ih =>
        intro w
        obtain ⟨b, hb1, hyes, hno⟩ := w
        refine wpAny_handleBy_cons (codeAny_handlers_test ?_) (by intro q; cases q)
        have LT : PySem.W.Looks (model X.prog X.w) h3 (typeOf (.ref a)) cls := fun A Q E s k q => wpAny_typeOf_ref (k _ _ he3) (by rw [hz3.1]; exact q)
        have LM := PySem.W.exm_one (M := model X.prog X.w) (J3.kIn) LT hb1
        have test : ∀ {Q : Value → Shared → Prop} {E : Value → Shared → Prop}, Q c { s' with heap := h3 } → wpAny (model X.prog X.w) (X.A.mark (some (.ref a))) (eval (.Name x np) X.env) Q E { s' with heap := h3 } := fun {Q E} q => by
          obtain ⟨hg, hdbg, hm | ⟨hm, hv, hnn⟩⟩ := hc
          · exact ld_glob (X := X.suite a ((a, oe3) :: (X.pn ++ pins))) S3 hg hm q hdbg
          · exact ld_blt (X := X.suite a ((a, oe3) :: (X.pn ++ pins))) S3 hg hm hv q hnn hdbg
        refine test (LM.here ?_)
        cases b with
        | true =>
          refine codeAny_handlers_suite_as ?_
          refine HandSPX.lands_againZ fl3 fun h4 fl4 up4 => ?_
          have J4 : Inv X pins σ' H' { s' with heap := h4 } := J.landed nb fl4.1 ((up.trans up3).trans up4) os ag
          obtain ⟨oe4, vs4, he4, hz4, hd4⟩ := fl4.there
          have S4 := J4.suite he4 hd4 na nL nF
          refine store_ok (X := X.suite a ((a, oe4) :: (X.pn ++ pins))) (v := .ref a) S4 hN hi hloc rfl (fun s5 S5 => ?_) (.inr hln)
          refine wpAny_mono ((hsu a oe4 cls d (X.pn ++ pins) hz4 ⟨_, hd4⟩).run [] s5 _ H' _ S5 (hyes rfl a na)) (fun f s6 hsp => ?_) (fun _ _ z => False.elim z)
          have end_ : ∀ {σ6 : L2.St} {H6 : Hp} {Q : Shared → Prop}, Inv (X.suite a ((a, oe4) :: (X.pn ++ pins))) [] σ6 H6 s6 → (∀ s7, Inv X pins (σ6.set i none) H6 s7 → Q s7) →
              wpAny (model X.prog X.w) X.A (do bindName X.env n .none; unbindBehindTheSuite X.env n pos') (fun _ s7 => Q s7) X.xe s6 := fun {σ6 H6 Q} S6 hq => gone_ok (S6.unsuite ok) hN hi hln hq
          cases f with
          | next =>
            obtain ⟨σ6, H6, S6, q6⟩ := hsp
            exact end_ S6 fun s7 J7 => ⟨_, _, J7, q6⟩
          | brk =>
            obtain ⟨σ6, H6, S6, q6⟩ := hsp
            exact end_ S6 fun s7 J7 => ⟨_, _, J7, q6⟩
          | cont =>
            obtain ⟨σ6, H6, S6, q6⟩ := hsp
            exact end_ S6 fun s7 J7 => ⟨_, _, J7, q6⟩
          | ret u =>
            obtain ⟨v6, σ6, H6, S6, r6, q6⟩ := hsp
            exact end_ S6 fun s7 J7 => ⟨_, _, _, J7, r6, q6⟩
        | false =>
          show wpAny _ X.A (handleBy (.ref a) X.env hds2) _ _ _
          exact ih (hno rfl)
    exact go hh w
  · cases f with
    | next =>
      obtain ⟨σ', H', J', q⟩ := hsp
      exact wpAny_execs_nil ⟨σ', H', J'.ofTry ok, q⟩
    | brk =>
      obtain ⟨σ', H', J', q⟩ := hsp
      exact ⟨σ', H', J'.ofTry ok, q⟩
    | cont =>
      obtain ⟨σ', H', J', q⟩ := hsp
      exact ⟨σ', H', J'.ofTry ok, q⟩
    | ret u =>
      obtain ⟨v, σ', H', J', r, q⟩ := hsp
      exact ⟨v, σ', H', J'.ofTry ok, r, q⟩
end
/-! ### an instance == a list, == a number -/
inductive Oth (K : PySem.W.Frag) (H : Hp) : V → Value → Prop
  | lst {a : Addr} {xs : List V} (h : SqL K H a xs) : Oth K H (.ref a) (.type "list")
  | int (i : Int) : Oth K H (.int i) (.type "int")
def rOwnT (C : Addr) (sp : Sp) (K : PySem.W.Frag) : R2 := fun x y H Q => ∃ a dx fs t, x = .ref a ∧ H a = some (.ins C dx fs) ∧ ((∃ b dy gs, y = .ref b ∧ H b = some (.ins C dy gs) ∧ t = .ref C) ∨ Oth K H y t) ∧ PySem.W.notFirst K C t = true ∧ sp [.ref a, y] H Q E0
theorem op_own_eqT {X : Cx} {n : Nat} {C f : Addr} {fd : FuncData} {ps : List Str} {sp : Sp} (O : Ow.OwnFn X n C "__eq__" f fd ps sp) : OpR X (compareOp .Eq) (rOwnT C sp X.K) := by
  intro pins s σ H x y v u Q I rx ry hq
  obtain ⟨a, dx, fs, t, rfl, ha, ht, hn, h⟩ := hq
  cases rx
  obtain ⟨mA, J, _⟩ := ins_get I.hok ha
  obtain ⟨od, J, _⟩ := J.look
  obtain ⟨m, F⟩ := I.fr
  have LT : PySem.W.Looks (model X.prog X.w) s.heap (typeOf u) t := by
    rcases ht with ⟨b, dy, gs, rfl, hb, rfl⟩ | ht
    · cases ry
      obtain ⟨mB, J', _⟩ := ins_get I.hok hb
      obtain ⟨od', J', _⟩ := J'.look
      exact J'.type
    · cases ht with
      | @lst b xs hh =>
        obtain rfl : u = Value.ref b := ry
        obtain ⟨its, _, ⟨o, n, h1, h2, _, h3⟩, _⟩ := I.list hh
        exact fun A Q E s k q => wpAny_typeOf_ref (k _ _ h1) (by rw [h2]; exact q)
      | int i =>
        obtain ⟨k, rfl⟩ := ry
        exact PySem.W.Looks.of_pure rfl
  show wpAny _ _ (richCompare .Eq (.ref a) u) _ _ _
  exact PySem.W.cmp_K (tb := t) O.rm.units0 F I.ok.mod.kin J LT hn O.at_ O.fn (wpAny_mono (O.run (vs := [.ref a, y]) I (.cons rfl (.cons ry .nil)) h) (fun _ _ z => Ow.backs z) fun _ _ z => z)
end Xv

/-! nested values of any kind, empty dicts among them -/
namespace Xv
open PySem PySem.Spec PyProof.Rows L2
mutual
/-- what stands in a value -/
inductive Va (K : PySem.W.Frag) (H : Hp) : V → PyData → Prop
  | non : Va K H .non .none
  | bl (b : Bool) : Va K H (.bl b) (.bool b)
  | int (i : Int) : Va K H (.int i) (.int i)
  | str (x : Str) : Va K H (.str x) (.str x)
  | lst {a : Addr} {xs : List V} {ds : List PyData} (h : SqL K H a xs) (g : VaAll K H xs ds) : Va K H (.ref a) (.list ds)
  | tup {a : Addr} {xs : List V} {ds : List PyData} (h : SqT K H a xs) (g : VaAll K H xs ds) : Va K H (.ref a) (.tuple ds)
  | dic {a : Addr} (e : H a = some (.dK [])) : Va K H (.ref a) (.dict [])
inductive VaAll (K : PySem.W.Frag) (H : Hp) : List V → List PyData → Prop
  | nil : VaAll K H [] []
  | cons {v : V} {vs : List V} {d : PyData} {ds : List PyData} (h : Va K H v d) (g : VaAll K H vs ds) : VaAll K H (v :: vs) (d :: ds)
end
mutual
theorem Va.mono {K : PySem.W.Frag} {H H' : Hp} (s : Same H H') : ∀ {v : V} {d : PyData}, Va K H v d → Va K H' v d
  | _, _, .non => .non
  | _, _, .bl b => .bl b
  | _, _, .int i => .int i
  | _, _, .str x => .str x
  | _, _, .lst h g => .lst (s.seq h) (g.mono s)
  | _, _, .tup h g => .tup (h.elim (fun h => .inl (h.elim (fun h => .inl (s _ _ h)) fun ⟨o, h⟩ => .inr ⟨o, s _ _ h⟩)) fun h => .inr h) (g.mono s)
  | _, _, .dic e => .dic (s _ _ e)
theorem VaAll.mono {K : PySem.W.Frag} {H H' : Hp} (s : Same H H') : ∀ {vs : List V} {ds : List PyData}, VaAll K H vs ds → VaAll K H' vs ds
  | _, _, .nil => .nil
  | _, _, .cons h g => .cons (h.mono s) (g.mono s)
end
theorem VaAll.len {K : PySem.W.Frag} {H : Hp} : ∀ {vs : List V} {ds : List PyData}, VaAll K H vs ds → vs.length = ds.length
  | _, _, .nil => rfl
  | _, _, .cons _ g => congrArg Nat.succ g.len
theorem VaAll.at_ {K : PySem.W.Frag} {H : Hp} : ∀ {vs : List V} {ds : List PyData}, VaAll K H vs ds → ∀ {i : Nat} {v : V}, vs[i]? = some v → ∃ d, ds[i]? = some d ∧ Va K H v d
  | _, _, .nil, i, v, e => by cases e
  | _, _, .cons h g, 0, v, e => ⟨_, rfl, (Option.some.inj e) ▸ h⟩
  | _, _, .cons h g, i + 1, v, e => g.at_ (i := i) e
theorem VaAll.app {K : PySem.W.Frag} {H : Hp} : ∀ {vs ws : List V} {ds es : List PyData}, VaAll K H vs ds → VaAll K H ws es → VaAll K H (vs ++ ws) (ds ++ es)
  | _, _, _, _, .nil, g => g
  | _, _, _, _, .cons h r, g => .cons h (r.app g)
theorem VaAll.take {K : PySem.W.Frag} {H : Hp} : ∀ {vs : List V} {ds : List PyData}, VaAll K H vs ds → ∀ n : Nat, VaAll K H (vs.take n) (ds.take n)
  | _, _, .nil, n => by rw [List.take_nil, List.take_nil]; exact .nil
  | _, _, .cons h g, 0 => .nil
  | _, _, .cons h g, n + 1 => .cons h (g.take n)
theorem VaAll.drop {K : PySem.W.Frag} {H : Hp} : ∀ {vs : List V} {ds : List PyData}, VaAll K H vs ds → ∀ n : Nat, VaAll K H (vs.drop n) (ds.drop n)
  | _, _, .nil, n => by rw [List.drop_nil, List.drop_nil]; exact .nil
  | _, _, .cons h g, 0 => .cons h g
  | _, _, .cons h g, n + 1 => g.drop n
theorem VaAll.strs {K : PySem.W.Frag} {H : Hp} : ∀ xs : List Str, VaAll K H (xs.map V.str) (xs.map PyData.str)
  | [] => .nil
  | x :: xs => .cons (.str x) (VaAll.strs xs)
section
variable {X : Cx} {pins : List (Addr × Obj)} {σ : L2.St} {H : Hp} {s : Shared}
theorem rp_scalar (I : Inv X pins σ H s) {v : V} {d : PyData} {u : Value} (h : Dp X.K H v d) (r : RelV v u) (nd : d.hasDict = false) (hs : d.showable = true) (hz : d.shown.length ≤ sizeLine) :
    (∃ as, Reads s.heap u d as) ∧ ∃ bs, ReadAtMost s.heap d.depth bs ∧ ReprK X.prog X.w bs s.heap d.depth u d.shown := by
  obtain ⟨as, q⟩ := Dp.reads I d v u h r
  exact ⟨⟨as, q⟩, ReprK.of_reads q hs (fun z => absurd (nd.symm.trans z) (by simp)) hz⟩
mutual
theorem Va.rp (I : Inv X pins σ H s) {v : V} {d : PyData} (h : Va X.K H v d) {u : Value} (r : RelV v u) (hs : d.showable = true) (hz : d.shown.length ≤ sizeLine) :
    (∃ as, Reads s.heap u d as) ∧ ∃ bs, ReadAtMost s.heap d.depth bs ∧ ReprK X.prog X.w bs s.heap d.depth u d.shown := by
  match h with
  | .non => exact rp_scalar I .non r (by simp [PyData.hasDict]) hs hz
  | .bl b => exact rp_scalar I (.bl b) r (by simp [PyData.hasDict]) hs hz
  | .int i => exact rp_scalar I (.int i) r (by simp [PyData.hasDict]) hs hz
  | .str x => exact rp_scalar I (.str x) r (by simp [PyData.hasDict]) hs hz
  | .dic (a := a) e =>
    obtain rfl : u = Value.ref a := r
    obtain ⟨n, o, es, ep, h1, h2, h3, h4⟩ := dk_nil I e
    have q : Reads s.heap (.ref a) (.dict []) [a] := Reads.dict (as := []) (bs := []) h1 h2 h3 (by rw [h4]; exact .nil) (by rw [h4]; exact .nil)
    exact ⟨⟨_, q⟩, ReprK.of_reads q hs (fun _ z => n (List.mem_singleton.mp z).symm) hz⟩
  | .lst (a := a) (xs := xs) (ds := ds) hl g =>
    obtain rfl : u = Value.ref a := r
    obtain ⟨its, rv, ⟨o, n, h1, h2, hn, h3⟩, _⟩ := I.list hl
    have hz2 : (listText (PyData.shownAll ds)).length ≤ sizeLine := by simpa only [PyData.shown] using hz
    have hs2 : PyData.showableAll ds = true := by simpa only [PyData.showable] using hs
    obtain ⟨⟨as, ra⟩, bs, hb, hk⟩ := VaAll.rp I g rv hs2 fun t ht => Nat.le_trans (listText_mem_le ht) hz2
    have rd : Reads s.heap (.ref a) (.list ds) _ := Reads.list h1 h2 h3 (show ReadsAll s.heap its.toArray.toList ds as by simpa using ra)
    have far : a ∉ bs := not_mem_of_deeper rd (by simp only [PyData.depth]; omega) hb
    refine ⟨⟨_, rd⟩, a :: bs, ReadAtMost.cons rd (by simp only [PyData.depth]; omega) hb, ?_⟩
    simp only [PyData.depth, PyData.shown]
    cases its with
    | nil =>
      cases ra
      rw [show PyData.shownAll [] = [] by simp [PyData.shownAll], listText_nil]
      exact ReprK.listEmpty h1 h2 h3
    | cons y l =>
      have z := ReprK.list h1 h2 h3 far (by rw [hk.length_eq]; simp) (fun i y' e => hk.item i y' (by simpa using e))
      exact z
  | .tup (a := a) (xs := xs) (ds := ds) hl g =>
    obtain rfl : u = Value.ref a := r
    obtain ⟨its, rv, ⟨o, h1, h2, n, h3⟩, _⟩ := I.tuple hl
    have hz2 : (tupleText (PyData.shownAll ds)).length ≤ sizeLine := by simpa only [PyData.shown] using hz
    have hs2 : PyData.showableAll ds = true := by simpa only [PyData.showable] using hs
    obtain ⟨⟨as, ra⟩, bs, hb, hk⟩ := VaAll.rp I g rv hs2 fun t ht => Nat.le_trans (tupleText_mem_le ht) hz2
    have rd : Reads s.heap (.ref a) (.tuple ds) _ := Reads.tuple h1 h2 h3 (show ReadsAll s.heap its.toArray.toList ds as by simpa using ra)
    have far : a ∉ bs := not_mem_of_deeper rd (by simp only [PyData.depth]; omega) hb
    refine ⟨⟨_, rd⟩, a :: bs, ReadAtMost.cons rd (by simp only [PyData.depth]; omega) hb, ?_⟩
    simp only [PyData.depth, PyData.shown]
    exact ReprK.tuple h1 h2 h3 far (by simpa using hk)
theorem VaAll.rp (I : Inv X pins σ H s) {vs : List V} {ds : List PyData} (h : VaAll X.K H vs ds) {us : List Value} (r : Vals vs us) (hs : PyData.showableAll ds = true) (hz : ∀ t ∈ PyData.shownAll ds, t.length ≤ sizeLine) :
    (∃ as, ReadsAll s.heap us ds as) ∧ ∃ bs, ReadAtMost s.heap (PyData.depthAll ds) bs ∧ ReprAllK X.prog X.w bs s.heap (PyData.depthAll ds) us (PyData.shownAll ds) := by
  match h with
  | .nil =>
    cases r
    exact ⟨⟨_, .nil⟩, [], fun b hb => absurd hb List.not_mem_nil, by rw [show PyData.shownAll [] = [] by simp [PyData.shownAll]]; exact .nil⟩
  | .cons (d := d) (ds := ds) h1 h2 =>
    cases r with
    | cons r1 r2 =>
    rw [PyData.showableAll, Bool.and_eq_true] at hs
    rw [PyData.shownAll] at hz
    obtain ⟨⟨as1, q1⟩, b1, m1, k1⟩ := Va.rp I h1 r1 hs.1 (hz _ List.mem_cons_self)
    obtain ⟨⟨as2, q2⟩, b2, m2, k2⟩ := VaAll.rp I h2 r2 hs.2 fun t ht => hz t (List.mem_cons_of_mem _ ht)
    refine ⟨⟨_, .cons q1 q2⟩, b1 ++ b2, ?_, ?_⟩
    · rw [PyData.depthAll]
      exact (m1.mono (Nat.le_max_left _ _)).append (m2.mono (Nat.le_max_right _ _))
    · rw [PyData.depthAll, PyData.shownAll]
      exact .cons ((k1.more fun b hb => List.mem_append_left _ hb).level_le (Nat.le_max_left _ _)) (k2.more_le (fun b hb => List.mem_append_right _ hb) (Nat.le_max_right _ _))
end
end
/-! ### its text -/
def rReprV (K : PySem.W.Frag) : List V → Hp → VK → Prop := fun xs H Q => ∃ (x : V) (d : PyData), xs = [x] ∧ Va K H x d ∧ d.showable = true ∧ d.depth ≤ 60 ∧ d.shown.length ≤ sizeLine ∧ Q (.str d.shown) H
theorem call_reprV {X : Cx} (hg : X.A.guards = some []) (hu : X.A.units + 66 < cLine) : CallR X (.builtin "repr") (rReprV X.K) := by
  intro pins s σ H xs us Q I r ⟨x, d, e, hd, hs, hp, h4, q⟩
  subst e
  obtain ⟨u1, rfl, r1⟩ := vals1 r
  have fin : ∀ (h' : Heap) (u : Tok) (tk : Tok), (∀ b o, s.heap.get? b = some o → h'.get? b = some o) → EP X pins σ Q (.str d.shown u) { s with heap := h', toks := tk } := fun h' u tk hk => ⟨.str d.shown, H, I.kept (t' := tk) hk, ⟨u, rfl⟩, q⟩
  have fin0 : ∀ t : Str, t = d.shown → EP X pins σ Q (.str t s.toks) { s with toks := s.toks + 1 } := fun t e => ⟨.str d.shown, H, I.tok _, ⟨s.toks, by rw [e]⟩, q⟩
  match hd with
  | .non => cases r1; exact PySem.P.repr_of_none (fin0 _ (by simp [PyData.shown]))
  | .bl b => cases r1; exact PySem.P.repr_of_bool (fin0 _ (by simp [PyData.shown]))
  | .int i => obtain ⟨t, rfl⟩ := r1; exact PySem.P.repr_of_int (by simpa [PyData.showable] using hs) (fin0 _ (by simp [PyData.shown]))
  | .str x => obtain ⟨t, rfl⟩ := r1; exact PySem.P.repr_of_str (fin0 _ (by simp [PyData.shown])) (by simpa [PyData.shown] using h4)
  | .dic (a := a) e =>
    obtain rfl : u1 = Value.ref a := r1
    obtain ⟨n, o, es, ep, h1, h2, h3, h5⟩ := dk_nil I e
    have rd : Reads s.heap (.ref a) (.dict []) [a] := Reads.dict (as := []) (bs := []) h1 h2 h3 (by rw [h5]; exact .nil) (by rw [h5]; exact .nil)
    exact repr_of_reads' rd hs (fun _ z => n (List.mem_singleton.mp z).symm) hg (by omega) (fun _ _ z => z) fin h4
  | .lst (a := a) (ds := ds) hl g =>
    obtain rfl : u1 = Value.ref a := r1
    obtain ⟨its, rv, ⟨o, n, h1, h2, hn, h3⟩, _⟩ := I.list hl
    have hz2 : (listText (PyData.shownAll ds)).length ≤ sizeLine := by simpa only [PyData.shown] using h4
    have hs2 : PyData.showableAll ds = true := by simpa only [PyData.showable] using hs
    obtain ⟨⟨as, ra⟩, bs, hb, hk⟩ := g.rp I rv hs2 fun t ht => Nat.le_trans (listText_mem_le ht) hz2
    have rd : Reads s.heap (.ref a) (.list ds) _ := Reads.list h1 h2 h3 (show ReadsAll s.heap its.toArray.toList ds as by simpa using ra)
    have far : a ∉ bs := not_mem_of_deeper rd (by simp only [PyData.depth]; omega) hb
    simp only [PyData.depth] at hp
    simp only [PyData.shown] at fin
    refine call_repr_slot (by omega) ⟨o, h1, h2⟩ PySem.F.slot_list_repr.toG ?_
    cases its with
    | nil =>
      cases ra
      rw [show PyData.shownAll [] = [] by simp [PyData.shownAll], listText_nil] at fin
      exact call_list_repr_empty ⟨o, h1, h2⟩ h1 h3 ⟨_, _, rfl, fin s.heap _ _ fun _ _ e => e⟩
    | cons y l =>
      exact call_list_reprK h1 h2 h3 far (by rw [hk.length_eq]; simp) (fun i y' e => hk.item i y' (by simpa using e)) hg (fun b _ => Clear.nil b) (by show X.A.units + 1 + (PyData.depthAll ds + 1) < cLine; omega) (fun _ _ z => z) (fun h' u tk hk => ⟨_, _, rfl, fin h' u tk hk⟩) hz2
  | .tup (a := a) (ds := ds) hl g =>
    obtain rfl : u1 = Value.ref a := r1
    obtain ⟨its, rv, ⟨o, h1, h2, n, h3⟩, _⟩ := I.tuple hl
    have hz2 : (tupleText (PyData.shownAll ds)).length ≤ sizeLine := by simpa only [PyData.shown] using h4
    have hs2 : PyData.showableAll ds = true := by simpa only [PyData.showable] using hs
    obtain ⟨⟨as, ra⟩, bs, hb, hk⟩ := g.rp I rv hs2 fun t ht => Nat.le_trans (tupleText_mem_le ht) hz2
    have rd : Reads s.heap (.ref a) (.tuple ds) _ := Reads.tuple h1 h2 h3 (show ReadsAll s.heap its.toArray.toList ds as by simpa using ra)
    have far : a ∉ bs := not_mem_of_deeper rd (by simp only [PyData.depth]; omega) hb
    simp only [PyData.depth] at hp
    simp only [PyData.shown] at fin
    refine call_repr_slot (by omega) ⟨o, h1, h2⟩ PySem.F.slot_tuple_repr ?_
    exact call_tuple_reprK h1 h2 h3 far (by simpa using hk) hg (fun b _ => Clear.nil b) (by show X.A.units + 1 + (PyData.depthAll ds + 1) < cLine; omega) (fun _ _ z => z) (fun h' u tk hk => ⟨_, _, rfl, fin h' u tk hk⟩) hz2
end Xv

/-! nested values: in a row of texts, their kind -/
namespace Xv
open PySem PySem.Spec PyProof.Rows L2
theorem eq_anyV {X : Cx} {pins : List (Addr × Obj)} {σ : L2.St} {H : Hp} {s : Shared} (I : Inv X pins σ H s) {A : Around} {v : V} {d : PyData} {u : Value} (z : Str) (t : Tok) (h : Va X.K H v d) (r : RelV v u) (hu : A.units < cLine) : SeqAt.EqAt A s (.str z t) u (decide (v = .str z)) := by
  cases h with
  | non => cases r; rw [decide_eq_false nofun]; exact .str_none z t
  | bl b => cases r; rw [decide_eq_false nofun]; exact .str_bool z t b
  | int i => obtain ⟨k, rfl⟩ := r; rw [decide_eq_false nofun]; exact .str_int z t i k
  | str x => exact eq_any I z t (Any.str x) r hu
  | @lst a xs ds h g =>
    obtain rfl : u = Value.ref a := r
    obtain ⟨its, _, ⟨o, n, h1, h2, _, h3⟩, _⟩ := I.list h
    rw [decide_eq_false nofun]
    exact .str_list z t ⟨o, h1, h2, n, h3⟩ hu
  | @tup a xs ds h g =>
    obtain rfl : u = Value.ref a := r
    obtain ⟨its, _, ⟨o, h1, h2, n, h3⟩, _⟩ := I.tuple h
    rw [decide_eq_false nofun]
    exact .str_tuple z t ⟨o, h1, h2, n, h3⟩ hu
  | dic e => exact eq_any I z t (Any.dic e) r hu
def rInV (K : PySem.W.Frag) (neg : Bool) : R2 := fun x y H Q => ∃ (d : PyData) (a : Addr) (xs : List Str), y = .ref a ∧ (SqL K H a (xs.map V.str) ∨ SqT K H a (xs.map V.str)) ∧ Va K H x d ∧ Q (.bl (if neg then !isTx x xs else isTx x xs)) H
theorem op_inV {X : Cx} (hu : X.A.units + 1 < cLine) : OpR X (compareOp .In) (rInV X.K false) := by
  intro pins s σ H x y v u Q I rx ry ⟨d, a, xs, e, hq, hx, q⟩
  subst e
  obtain rfl : u = Value.ref a := ry
  rcases hq with ht | ht
  · obtain ⟨its, rv, pl, _⟩ := I.list ht
    obtain ⟨e1, e2⟩ := any_tx x rv
    refine SeqAt.in_listAt (txE x) (items := its.toArray) pl.isList (fun y hy => ?_) ?_
    · obtain ⟨z, t, rfl⟩ := e2 y (by simpa using hy)
      exact eq_anyV I z t hx rx hu
    · rw [List.any_toArray, e1]
      exact ⟨.bl _, H, I, rfl, q⟩
  · obtain ⟨its, rv, pl, _⟩ := I.tuple ht
    obtain ⟨e1, e2⟩ := any_tx x rv
    refine SeqAt.in_tupleAt (txE x) (items := its.toArray) pl (fun y hy => ?_) ?_
    · obtain ⟨z, t, rfl⟩ := e2 y (by simpa using hy)
      exact eq_anyV I z t hx rx hu
    · rw [List.any_toArray, e1]
      exact ⟨.bl _, H, I, rfl, q⟩
theorem op_notInV {X : Cx} (hu : X.A.units + 1 < cLine) : OpR X (compareOp .NotIn) (rInV X.K true) := by
  intro pins s σ H x y v u Q I rx ry ⟨d, a, xs, e, hq, hx, q⟩
  subst e
  obtain rfl : u = Value.ref a := ry
  rcases hq with ht | ht
  · obtain ⟨its, rv, pl, _⟩ := I.list ht
    obtain ⟨e1, e2⟩ := any_tx x rv
    refine SeqAt.notIn_listAt (txE x) (items := its.toArray) pl.isList (fun y hy => ?_) ?_
    · obtain ⟨z, t, rfl⟩ := e2 y (by simpa using hy)
      exact eq_anyV I z t hx rx hu
    · rw [List.any_toArray, e1]
      exact ⟨.bl _, H, I, rfl, q⟩
  · obtain ⟨its, rv, pl, _⟩ := I.tuple ht
    obtain ⟨e1, e2⟩ := any_tx x rv
    refine SeqAt.notIn_tupleAt (txE x) (items := its.toArray) pl (fun y hy => ?_) ?_
    · obtain ⟨z, t, rfl⟩ := e2 y (by simpa using hy)
      exact eq_anyV I z t hx rx hu
    · rw [List.any_toArray, e1]
      exact ⟨.bl _, H, I, rfl, q⟩
/-! ### its kind -/
def kdStr : PyData → Bool
  | .str _ => true
  | _ => false
def kdTup : PyData → Bool
  | .tuple _ => true
  | _ => false
theorem Va.ty {K : PySem.W.Frag} {H : Hp} {x : V} {d : PyData} (h : Va K H x d) : ∃ T : String, TyX K H x (.type T) ∧ kitB T "str" = some (kdStr d) ∧ kitB T "tuple" = some (kdTup d) := by
  cases h with
  | non => exact ⟨"NoneType", .base .non, by decide +kernel, by decide +kernel⟩
  | bl b => exact ⟨"bool", .base (.bl b), (by decide +kernel : kitB "bool" "str" = some false), (by decide +kernel : kitB "bool" "tuple" = some false)⟩
  | int i => exact ⟨"int", .base (.int i), (by decide +kernel : kitB "int" "str" = some false), (by decide +kernel : kitB "int" "tuple" = some false)⟩
  | str z => exact ⟨"str", .base (.str z), (by decide +kernel : kitB "str" "str" = some true), (by decide +kernel : kitB "str" "tuple" = some false)⟩
  | lst h g => exact ⟨"list", sql_ty h, (by decide +kernel : kitB "list" "str" = some false), (by decide +kernel : kitB "list" "tuple" = some false)⟩
  | tup h g => exact ⟨"tuple", sqt_tyX h, (by decide +kernel : kitB "tuple" "str" = some false), (by decide +kernel : kitB "tuple" "tuple" = some true)⟩
  | dic e => exact ⟨"dict", .base (.dK e), (by decide +kernel : kitB "dict" "str" = some false), (by decide +kernel : kitB "dict" "tuple" = some false)⟩
theorem Va.strD {K : PySem.W.Frag} {H : Hp} {x : V} {d : PyData} (h : Va K H x d) : (∃ z, x = .str z ∧ d = .str z) ∨ (kdStr d = false ∧ ∀ z, x ≠ .str z) := by
  cases h with
  | str z => exact .inl ⟨z, rfl, rfl⟩
  | _ => exact .inr ⟨rfl, nofun⟩
theorem Va.tupD {K : PySem.W.Frag} {H : Hp} {x : V} {d : PyData} (h : Va K H x d) : (∃ a xs ds, x = .ref a ∧ d = .tuple ds ∧ SqT K H a xs ∧ VaAll K H xs ds) ∨ kdTup d = false := by
  cases h with
  | tup h g => exact .inl ⟨_, _, _, rfl, rfl, h, g⟩
  | _ => exact .inr rfl
/-- a tuple of any values against the empty tuple -/
def rEqN (K : PySem.W.Frag) : R2 := fun x y H Q => ∃ (a b : Addr) (xs : List V), x = .ref a ∧ y = .ref b ∧ SqT K H a xs ∧ SqT K H b [] ∧ Q (.bl xs.isEmpty) H
theorem op_eqN {X : Cx} (hu : X.A.units < cLine) : OpR X (compareOp .Eq) (rEqN X.K) := by
  intro pins s σ H x y v u Q I rx ry ⟨a, b, xs, e1, e2, h1, h2, q⟩
  subst e1 e2
  obtain rfl : v = Value.ref a := rx
  obtain rfl : u = Value.ref b := ry
  obtain ⟨its, rv, pl, _⟩ := I.tuple h1
  obtain ⟨jts, rw2, pl2, _⟩ := I.tuple h2
  cases rw2
  refine SeqAt.eq_tupleAt (items := its.toArray) (items2 := #[]) (e := fun _ => true) pl pl2 hu (fun j h1 h2 => absurd h2 (Nat.not_lt_zero j)) ?_
  refine ⟨.bl _, H, I, rfl, ?_⟩
  rw [show ((List.range (min its.toArray.size (#[] : Array Value).size)).all (fun _ => true) && its.toArray.size == (#[] : Array Value).size) = xs.isEmpty by
    cases rv <;> simp]
  exact q
/-! ### d.update(e) -/
def rDUpd : V → List V → Hp → VK → Prop := fun x vs H Q => ∃ (a b : Addr) (kvs more : List (Key × V)), x = .ref a ∧ vs = [.ref b] ∧ a ≠ b ∧ H a = some (.dK kvs) ∧ H b = some (.dK more) ∧ kvs.length + more.length ≤ 1000 ∧ Q .non (upd H a (.dK (mergeK kvs more)))
theorem mt_update {X : Cx} : MtR X "dict.update" rDUpd := by
  intro pins s σ H x vs v us Q I rx rv ⟨a, b, kvs, more, e1, e2, ne, h1, h2, hn, q⟩
  subst e1 e2
  obtain rfl : v = Value.ref a := rx
  obtain ⟨u, rfl, r1⟩ := vals1 rv
  obtain rfl : u = Value.ref b := r1
  obtain ⟨z1, hd1, vs1, rel1, dd1⟩ := dk_of I.hok h1
  obtain ⟨z2, hd2, vs2, rel2, dd2⟩ := dk_of I.hok h2
  have hz : vs1.length + vs2.length ≤ sizeLine := by
    rw [← rel1.length, ← rel2.length, sizeLine_eq]
    omega
  refine call_meetsIn PySem.F.slot_dict_update dd1.typeIs PySem.F.entry_dict_update (PySem.F.args_dict_update_2 _ _) (meets_dict_update (mixKind X.prog X.w) a b ne hd2) ⟨vs1, vs2, dd1, dd2, hz, fun h' dd' _ hs => ?_⟩
  have he : ∃ q, h'.get? a = some q := let ⟨q, _, _, hq, _⟩ := dd'; ⟨q, hq⟩
  have hl : (mergeK kvs more).length ≤ sizeLine := by
    have := length_mergeK more kvs
    rw [sizeLine_eq]
    omega
  exact ⟨.non, _, d_write (t' := s.toks) I (by rw [h1]; exact True.intro) hs he (dk_new hl hd1 (KV.merge rel2 rel1) dd'), rfl, q⟩
end Xv

/-! a list of any values against the empty list -/
namespace Xv
open PySem PySem.Spec PyProof.Rows L2
def rNeNL (K : PySem.W.Frag) : R2 := fun x y H Q => ∃ (a b : Addr) (xs : List V), x = .ref a ∧ y = .ref b ∧ SqL K H a xs ∧ SqL K H b [] ∧ Q (.bl (!xs.isEmpty)) H
theorem op_neNL {X : Cx} (hu : X.A.units < cLine) : OpR X (compareOp .NotEq) (rNeNL X.K) := by
  intro pins s σ H x y v u Q I rx ry ⟨a, b, xs, e1, e2, h1, h2, q⟩
  subst e1 e2
  obtain rfl : v = Value.ref a := rx
  obtain rfl : u = Value.ref b := ry
  obtain ⟨its, rv, pl, _⟩ := I.list h1
  obtain ⟨jts, rw2, pl2, _⟩ := I.list h2
  cases rw2
  cases rv with
  | nil =>
    refine SeqAt.RcNeAt.lists (items := #[]) (items2 := #[]) (e := fun _ => true) pl.isList pl2.isList rfl hu (fun j h1 h2 => absurd h2 (Nat.not_lt_zero j)) X.prog X.w _ _ ?_
    exact ⟨.bl _, H, I, rfl, q⟩
  | cons r rs =>
    refine SeqAt.RcNeAt.lists_lengths pl.isList pl2.isList (by simp) hu X.prog X.w _ _ ?_
    exact ⟨.bl _, H, I, rfl, q⟩
/-- a tuple of any values is not the empty tuple -/
def rNeNT (K : PySem.W.Frag) : R2 := fun x y H Q => ∃ (a b : Addr) (xs : List V), x = .ref a ∧ y = .ref b ∧ SqT K H a xs ∧ SqT K H b [] ∧ Q (.bl (!xs.isEmpty)) H
theorem op_neNT {X : Cx} (hu : X.A.units < cLine) : OpR X (compareOp .NotEq) (rNeNT X.K) := by
  intro pins s σ H x y v u Q I rx ry ⟨a, b, xs, e1, e2, h1, h2, q⟩
  subst e1 e2
  obtain rfl : v = Value.ref a := rx
  obtain rfl : u = Value.ref b := ry
  obtain ⟨its, rv, pl, _⟩ := I.tuple h1
  obtain ⟨jts, rw2, pl2, _⟩ := I.tuple h2
  cases rw2
  refine SeqAt.RcNeAt.tuples (items := its.toArray) (items2 := #[]) (e := fun _ => true) pl pl2 hu (fun j h1 h2 => absurd h2 (Nat.not_lt_zero j)) X.prog X.w _ _ ?_
  refine ⟨.bl _, H, I, rfl, ?_⟩
  rw [show (!((List.range (min its.toArray.size (#[] : Array Value).size)).all (fun _ => true) && its.toArray.size == (#[] : Array Value).size)) = !xs.isEmpty by
    cases rv <;> simp]
  exact q
end Xv

namespace K43
open PySem PySem.Spec PyProof.Rows L2
abbrev sSrc : Stmt := sLawSource
abbrev sPick : Stmt := sLawPick
abbrev FnP (K : PySem.W.Frag) (x : Str) (st : Stmt) (f : Addr) (fd : FuncData) : Prop := FunD K x x (defArgs st) (defBody st) (defScope st) [] [] f fd
/-! an if whose test is known not to hold -/
def tIfN (tc : TT) (u : TS) : TS := fun D σ H => tc σ H fun k H1 => k = false ∧ u D σ H1
theorem ps_ifN {X : Cx} {c : Expr} {a b : List Stmt} {tc : TT} {u : TS} {pos : Pos} (hc : PT X c tc) (hb : PSs X b u) : PS X (.If c a b pos) (tIfN tc u) := by
  refine ⟨fun pins s σ H D I h => ?_⟩
  refine wpAny_If (thn (hc.run pins s σ H _ I h) fun d s1 ⟨H1, I1, e, q1⟩ => ?_)
  subst e
  exact hb.run pins s1 σ H1 D I1 q1
/-- the source's pairs -/
def skv (c : Addr) (l m t : Int) : List (Key × V) := [(.inr "cells", .ref c), (.inr "left", .int l), (.inr "mixed", .int m), (.inr "turn", .int t)]
theorem skv_cells (c : Addr) (l m t : Int) : valV (skv c l m t) (.inr "cells") = some (.ref c) := by rfl
theorem skv_left (c : Addr) (l m t : Int) : valV (skv c l m t) (.inr "left") = some (.int l) := by rfl
theorem skv_mixed (c : Addr) (l m t : Int) : valV (skv c l m t) (.inr "mixed") = some (.int m) := by rfl
theorem skv_turn (c : Addr) (l m t : Int) : valV (skv c l m t) (.inr "turn") = some (.int t) := by rfl
theorem put_left (c : Addr) (l m t y : Int) : putK (skv c l m t) (.inr "left") (.int y) = skv c y m t := by rfl
theorem put_turn (c : Addr) (l m t y : Int) : putK (skv c l m t) (.inr "turn") (.int y) = skv c l m y := by rfl
theorem skv_merge (c : Addr) (l m t : Int) : mergeK [] (skv c l m t) = skv c l m t := by rfl

theorem dg_cells {H : Hp} {d c : Addr} {l m t : Int} (h : H d = some (.dK (skv c l m t))) : DGet H d (.str "cells") (some (.ref c)) := by
  have z : DGet H d (kV (.inr "cells")) (valV (skv c l m t) (.inr "cells")) := DGet.k h
  rw [skv_cells] at z
  exact z
theorem dg_left {H : Hp} {d c : Addr} {l m t : Int} (h : H d = some (.dK (skv c l m t))) : DGet H d (.str "left") (some (.int l)) := by
  have z : DGet H d (kV (.inr "left")) (valV (skv c l m t) (.inr "left")) := DGet.k h
  rw [skv_left] at z
  exact z
theorem dg_mixed {H : Hp} {d c : Addr} {l m t : Int} (h : H d = some (.dK (skv c l m t))) : DGet H d (.str "mixed") (some (.int m)) := by
  have z : DGet H d (kV (.inr "mixed")) (valV (skv c l m t) (.inr "mixed")) := DGet.k h
  rw [skv_mixed] at z
  exact z
theorem dg_turn {H : Hp} {d c : Addr} {l m t : Int} (h : H d = some (.dK (skv c l m t))) : DGet H d (.str "turn") (some (.int t)) := by
  have z : DGet H d (kV (.inr "turn")) (valV (skv c l m t) (.inr "turn")) := DGet.k h
  rw [skv_turn] at z
  exact z
theorem dp_left {H : Hp} {d c : Addr} {l m t y : Int} (h : H d = some (.dK (skv c l m t))) : DPut H d (.str "left") (.int y) (upd H d (.dK (skv c y m t))) := by
  have z : DPut H d (kV (.inr "left")) (.int y) (upd H d (.dK (putK (skv c l m t) (.inr "left") (.int y)))) := DPut.k h (by show 4 < sizeLine; decide)
  rw [put_left] at z
  exact z
theorem dp_turn {H : Hp} {d c : Addr} {l m t y : Int} (h : H d = some (.dK (skv c l m t))) : DPut H d (.str "turn") (.int y) (upd H d (.dK (skv c l m y))) := by
  have z : DPut H d (kV (.inr "turn")) (.int y) (upd H d (.dK (putK (skv c l m t) (.inr "turn") (.int y)))) := DPut.k h (by show 4 < sizeLine; decide)
  rw [put_turn] at z
  exact z
theorem scS : FnScope ["_law_script", "_law_mixed", "_law_cell", "_law_cells", "_law_k"] ["_law_script"] (defScope sSrc) := ⟨rfl, rfl, rfl, by decide +kernel, rfl, by decide +kernel, by decide +kernel⟩
theorem scP : FnScope ["_law_source_here", "_law_many", "_law_cells", "_law_left", "_law_turn", "_law_mixed"] ["_law_source_here", "_law_many"] (defScope sPick) := ⟨rfl, rfl, rfl, by decide +kernel, rfl, by decide +kernel, by decide +kernel⟩
/-- the source at d, its cells at c -/
def SrcAt (H : Hp) (d c : Addr) : Prop := ∃ (xs : List Int) (l m t : Int), H c = some (.lst (xs.map V.int)) ∧ xs.length ≤ 63 ∧ H d = some (.dK (skv c l m t))
def spSrc (K : PySem.W.Frag) : Sp := fun vs H Q _ => ∃ (a : Addr) (ns : List Int), vs = [.ref a] ∧ SqL K H a (ns.map V.int) ∧ ns.length ≤ 63 ∧
  ∀ (d c : Addr) (H' : Hp), Same H H' → H d = none → H c = none → SrcAt H' d c → Q (.ref d) H'
def spPick : Sp := fun vs H Q _ => ∃ (d c : Addr) (n : Int), vs = [.ref d, .int n] ∧ SrcAt H d c ∧ 1 ≤ n ∧ n ≤ 1000 ∧
  ∀ (r : Int) (H' : Hp), 0 ≤ r → r < n → SrcAt H' d c → (∀ b, b ≠ d → b ≠ c → H' b = H b) → Q (.int r) H'
/-- the built-in names that the text reads -/
structure Bl (mg : Str → Option Value) : Prop where
  abs : mg "abs" = none
  int : mg "int" = none
  len : mg "len" = none
  range : mg "range" = none
  str : mg "str" = none
theorem Fx.bl {w : World} {K : PySem.W.Frag} {mg : Str → Option Value} (Y : Fx w K mg) : Bl mg := ⟨Y.bAbs, Y.bInt, Y.bLen, Y.bRange, Y.bStr⟩
section
variable {P : Program} {w : World} {K : PySem.W.Frag} {mg : Str → Option Value} {base : Heap}
theorem nosl {i : Expr} (h : ∀ ov iv, subscripted i false ov iv = operate [ov, iv] (getItem ov iv) := by intro _ _; rfl) : NoSl i := h
theorem okD {x qual : Str} {params : Arguments} {body : List Stmt} {scope : Scope} {dvs : List V} {kws : List (Str × V)} {f : Addr} {fd : FuncData} {N ps : List Str} {k : Nat} {sp : Sp} (F : FunD K x qual params body scope dvs kws f fd) (S : FnScope N ps scope) (len : ∀ vs H Q E, sp vs H Q E → vs.length = ps.length)
    (hb : ∀ (cdv : Value) (A : Around) (outer : List Env) (s : Shared) (H : Hp) (vs : List V) (Q : VK) (E : XK), Room k (A.deeper (envOfC qual scope s.heap.objs.size f cdv)) → sp vs H Q E →
      ∃ t, PSs (cxOf CX0 P w K mg base N qual scope f cdv A outer s H E).nox body t ∧ t { nx := fun _ H' => Q .non H', rt := Q } (start N vs) H) : FnOk P w K mg base CX0 (k + 1) f fd ps sp :=
  F.ok S len fun cdv A outer s H vs Q E hr h => let ⟨t, h1, h2⟩ := hb cdv A outer s H vs Q E hr h; ⟨t, h1.nox, h2⟩
theorem ok_pick {f : Addr} {fd : FuncData} (F : FnP K "_law_pick" sPick f fd) (B : Bl mg) : FnOk P w K mg base CX0 1 f fd ["_law_source_here", "_law_many"] spPick := by
  refine okD F scP (fun vs H Q E h => ?_) (fun cdv A outer s H vs Q E hr h => ?_)
  · obtain ⟨d, c, n, rfl, _⟩ := h
    rfl
  · have hu := hu_of hr
    have nd := scP.nd
    have TL : ∃ tl, PSs (cxOf CX0 P w K mg base ["_law_source_here", "_law_many", "_law_cells", "_law_left", "_law_turn", "_law_mixed"] "_law_pick" (defScope sPick) f cdv A outer s H E).nox ((defBody sPick).drop 3) tl ∧
        (∀ (Q : VK) (d c : Addr) (n l' m t : Int) (H' : Hp), 1 ≤ n → n ≤ 1000 → H' d = some (.dK (skv c l' m t)) →
          (∀ (r y t' : Int), 0 ≤ r → r < n → Q (.int r) (upd H' d (.dK (skv c y m t')))) → tl { nx := fun _ H' => Q .non H', rt := Q } [some (.ref d), some (.int n), some (.ref c), none, none, none] H') := by
      refine ⟨_, pss_cons (ps_set (i := 3) nd rfl (Or.inl rfl) (pe_dget hu (pv 0) pe_str nosl))
      (pss_cons (ps_if (pt_cmpR op_gt (pv 3) pe_int (nomark _))
        (pss_cons (ps_dput hu (pv 0) pe_str (pe_op op_fdiv (pv 3) (pv 1)) rfl)
          (pss_one (ps_ret (pe_op op_mod (pe_callTy call_int1 (by rfl) B.int boot_int (pa_cons (pv 3) pa_nil)) (pv 1))))) pss_nil)
      (pss_cons (ps_dput hu (pv 0) pe_str (pe_op op_add (pe_dget hu (pv 0) pe_str nosl) pe_int) rfl)
      (pss_cons (ps_set (i := 4) nd rfl (Or.inl rfl) (pe_dget hu (pv 0) pe_str nosl))
      (pss_cons (ps_set (i := 5) nd rfl (Or.inl rfl) (pe_op op_mod (pe_callTy call_int1 (by rfl) B.int boot_int (pa_cons (pe_op op_add (pe_dget hu (pv 0) pe_str nosl) (pe_op op_mul (pv 4) pe_int)) pa_nil)) pe_int))
      (pss_cons (ps_set (i := 5) nd rfl (Or.inl rfl) (pe_op op_mod (pe_callTy call_int1 (by rfl) B.int boot_int (pa_cons (pe_op op_add (pe_op op_mul (pv 5) (pv 5)) (pe_op op_mul (pv 4) pe_int)) pa_nil)) pe_int))
      (pss_cons (ps_ifN (pt_cmpR op_gt (pv 1) (pe_op op_pow pe_int pe_int) (nomark _)) pss_nil)
      (pss_one (ps_ret (pe_op op_mod (pe_callTy call_int1 (by rfl) B.int boot_int (pa_cons (pe_op op_fdiv (pv 5) pe_int) pa_nil)) (pv 1)))))))))), ?_⟩
      intro Q d c n l' m t H' h1 h2 hd' k
      refine ⟨_, rfl, d, .int l', rfl, dg_left hd', ?_⟩
      refine ⟨_, rfl, _, _, rfl, rfl, _, rfl, ite2 (fun c2 => ?_) (fun _ => ?_)⟩
      · refine ⟨_, rfl, _, rfl, _, _, rfl, rfl, ⟨by omega, by omega⟩, _, rfl, d, _, rfl, dp_left hd', ?_⟩
        exact ⟨_, rfl, .inl ⟨_, rfl, _, rfl, _, _, rfl, rfl, (by omega), k _ _ _ (Int.emod_nonneg _ (by omega)) (Int.emod_lt_of_pos _ (by omega))⟩⟩
      · refine ⟨_, rfl, d, .int t, rfl, dg_turn hd', _, _, rfl, rfl, _, rfl, d, _, rfl, dp_turn hd', ?_⟩
        refine ⟨_, rfl, d, .int (t + 1), rfl, dg_turn upd_same, ?_⟩
        refine ⟨_, rfl, d, .int m, rfl, dg_mixed upd_same, _, rfl, _, _, rfl, rfl, .inr ⟨by decide, by decide⟩, _, _, rfl, rfl, .inl ⟨_, rfl, _, _, rfl, rfl, (show (0 : Int) < 998244353 by decide), ?_⟩⟩
        have b1 := Int.emod_nonneg (m + (t + 1) * 104729) (show (998244353 : Int) ≠ 0 by decide)
        have b2 := Int.emod_lt_of_pos (m + (t + 1) * 104729) (show (0 : Int) < 998244353 by decide)
        refine ⟨_, rfl, _, rfl, _, _, rfl, rfl, .inl ⟨by omega, by omega⟩, _, rfl, _, _, rfl, rfl, .inr ⟨by decide, by decide⟩, _, _, rfl, rfl, .inl ⟨_, rfl, _, _, rfl, rfl, (show (0 : Int) < 2147483647 by decide), ?_⟩⟩
        refine ⟨_, rfl, _, _, rfl, rfl, (by unfold CPow; decide), _, _, rfl, rfl, _, rfl, decide_eq_false (by show ¬ (n > (10:Int) ^ (7:Int).toNat); rw [show (10:Int) ^ (7:Int).toNat = 10000000 from by decide]; omega), ?_⟩
        refine ⟨_, rfl, _, _, rfl, rfl, ⟨by decide, by decide⟩, .inl ⟨_, rfl, _, rfl, _, _, rfl, rfl, (by omega), ?_⟩⟩
        exact k _ _ _ (Int.emod_nonneg _ (by omega)) (Int.emod_lt_of_pos _ (by omega))
    obtain ⟨tl, htl, rtl⟩ := TL
    refine ⟨_, pss_cons (ps_if (pt_cmpR op_lt (pv 1) pe_int (nomark _)) (pss_one (ps_ret pe_int)) pss_nil)
      (pss_cons (ps_set (i := 2) nd rfl (Or.inl rfl) (pe_dget hu (pv 0) pe_str nosl))
      (pss_cons (ps_while PassesOwn.never (pw_and (pt_cmpR op_lt (pe_dget hu (pv 0) pe_str nosl) pe_int (nomark _)) (pw_and1 (pt_cmpR op_gt (pe_callB call_len_seq (by rfl) B.len PySem.boot_len (pa_cons (pv 2) pa_nil)) pe_int (nomark _)))).pt
        (pss_one (ps_dput hu (pv 0) pe_str (pe_bm0 PySem.F.plainAttrs_list PySem.F.slot_list_pop PySem.F.type_list_pop mt_pop (pv 2)) rfl))) htl)), ?_⟩
    obtain ⟨d, c, n, rfl, ⟨xs, l, m, t, hc, hx, hd⟩, h1, h2, k⟩ := h
    have ncd : c ≠ d := ne_of hc hd (by intro z; cases z)
    have tail : ∀ (ys : List Int) (l' : Int) (H' : Hp), H' c = some (.lst (ys.map V.int)) → ys.length ≤ 63 → H' d = some (.dK (skv c l' m t)) → (∀ b, b ≠ d → b ≠ c → H' b = H b) →
        tl { nx := fun _ H' => Q .non H', rt := Q } [some (.ref d), some (.int n), some (.ref c), none, none, none] H' := fun ys l' H' hc' hy hd' keep =>
      rtl Q d c n l' m t H' h1 h2 hd' fun r y t' r0 r1 => k r _ r0 r1 ⟨ys, _, m, _, (by rw [upd_ne ncd]; exact hc'), hy, upd_same⟩ (fun b hb hb2 => by rw [upd_ne hb]; exact keep b hb hb2)
    refine ⟨_, rfl, _, _, rfl, rfl, _, rfl, ite2 (fun _ => k 0 H (Int.le_refl 0) (by omega) ⟨xs, l, m, t, hc, hx, hd⟩ fun _ _ _ => rfl) (fun _ => ?_)⟩
    refine ⟨_, rfl, d, .ref c, rfl, dg_cells hd, ?_⟩
    refine while_by (fun σ H' => ∃ (ys : List Int) (l' : Int), σ = [some (.ref d), some (.int n), some (.ref c), none, none, none] ∧ H' c = some (.lst (ys.map V.int)) ∧ ys.length ≤ 63 ∧ H' d = some (.dK (skv c l' m t)) ∧ ∀ b, b ≠ d → b ≠ c → H' b = H b)
      (fun _ H' => match H' c with | some (.lst zs) => zs.length | _ => 0) ⟨xs, l, rfl, hc, hx, hd, fun _ _ _ => rfl⟩ ?_ ?_
    · rintro σ H' ⟨ys, l', rfl, hc', hy, hd', keep⟩
      refine ⟨_, rfl, d, .int l', rfl, dg_left hd', _, _, rfl, rfl, _, rfl, ite2 (fun _ => ⟨_, rfl, c, ys.map V.int, rfl, .inl (SqL.of hc'), _, _, rfl, rfl, _, rfl, ?w1⟩) (fun _ => iteF ?w2)⟩
      case w1 =>
        refine ite2 (fun c1 => ?_) (fun _ => ?w3)
        · have hl : 0 < ys.length := by
            have e := of_decide_eq_true c1
            rw [List.length_map] at e
            omega
          obtain ⟨y, ey⟩ : ∃ y, ys[ys.length - 1]? = some y := ⟨ys[ys.length - 1], by rw [List.getElem?_eq_getElem (by omega)]⟩
          refine ⟨_, rfl, .inl ⟨rfl, _, SqL.of hc'⟩, c, ys.map V.int, .int y, rfl, rfl, hc', (by rw [List.length_map, List.getElem?_map, ey]; rfl), ?_⟩
          have hd2 : upd H' c (.lst (ys.map V.int).dropLast) d = some (.dK (skv c l' m t)) := by rw [upd_ne ncd.symm]; exact hd'
          refine ⟨_, rfl, d, _, rfl, dp_left hd2, ⟨ys.dropLast, y, rfl, ?_, ?_, upd_same, ?_⟩, ?_⟩
          · rw [upd_ne ncd, upd_same, List.map_dropLast]
          · rw [List.length_dropLast]; omega
          · intro b hb hb2
            rw [upd_ne hb, upd_ne hb2]
            exact keep b hb hb2
          · show (match upd (upd H' c (.lst (ys.map V.int).dropLast)) d _ c with | some (.lst zs) => zs.length | _ => 0) < (match H' c with | some (.lst zs) => zs.length | _ => 0)
            rw [upd_ne ncd, upd_same, hc']
            show (ys.map V.int).dropLast.length < (ys.map V.int).length
            rw [List.length_dropLast, List.length_map]
            omega
        case w3 => exact tail ys l' H' hc' hy hd' keep
      case w2 => exact tail ys l' H' hc' hy hd' keep
    · rintro σ H' Q1 Q2 hq ⟨v, e1, a, u, e2, g, i, j, e3, e4, z⟩
      obtain ⟨b, e5, z⟩ := z
      refine ⟨v, e1, a, u, e2, g, i, j, e3, e4, b, e5, ?_⟩
      cases b with
      | false => exact hq _ _ z
      | true =>
        obtain ⟨v, e1, p, ys, e2, hs, i, j, e3, e4, b, e5, z⟩ := z
        exact ⟨v, e1, p, ys, e2, hs, i, j, e3, e4, b, e5, hq _ _ z⟩

/-- len of a list or a tuple, whatever the block -/
def rLn (K : PySem.W.Frag) : List V → Hp → VK → Prop := fun us G R => ∃ (q : Addr) (zs : List V), us = [.ref q] ∧ (SqL K G q zs ∨ SqT K G q zs) ∧ R (.int zs.length) G
abbrev NSrc : List Str := ["_law_script", "_law_mixed", "_law_cell", "_law_cells", "_law_k"]
/-- the cells, none below nought -/
def ab (ns : List Int) : List Int := ns.map fun i => if i < 0 then -i else i
theorem sq_keep {H H' : Hp} {D a : Addr} {xs : List V} (hD : H D = none) (q : ∀ b, b ≠ D → H' b = H b) (h : SqL K H a xs) : SqL K H' a xs :=
  Same.seq (fun b o e => (q b (ne_of_none e hD)).trans e) h
theorem map_abs (ns : List Int) : (ns.map fun i => V.int (if i < 0 then -i else i)) = (ns.map fun i => if i < 0 then -i else i).map V.int := by rw [List.map_map]; rfl
theorem int_at {ns : List Int} {i : Nat} {y : V} (hi : (ns.map V.int)[i]? = some y) : ∃ z, ns[i]? = some z ∧ y = V.int z := by
  rw [List.getElem?_map] at hi
  cases e : ns[i]? with
  | none => rw [e] at hi; cases hi
  | some z => rw [e] at hi; exact ⟨z, rfl, (Option.some.inj hi).symm⟩
theorem ok_src {f : Addr} {fd : FuncData} (F : FnP K "_law_source" sSrc f fd) (B : Bl mg) : FnOk P w K mg base CX0 1 f fd ["_law_script"] (spSrc K) := by
  refine okD F scS (fun vs H Q E h => ?_) (fun cdv A outer s H vs Q E hr h => ?_)
  · obtain ⟨a, ns, rfl, _⟩ := h
    rfl
  · have hu := hu_of hr
    have nd := scS.nd
    refine ⟨_, pss_cons (ps_set (i := 1) nd rfl (Or.inl rfl) pe_int)
      (pss_cons (ps_for PassesOwn.never rfl (pi_list (pv 0)) (pg_name (i := 2) nd rfl (Or.inl rfl))
        (pss_one (ps_set (i := 1) nd rfl (Or.inl rfl) (pe_op op_mod (pe_callTy call_int1 (by rfl) B.int boot_int (pa_cons (pe_op op_add (pe_op op_add (pe_op op_mul (pv 1) pe_int) (pe_op op_mul (pv 2) pe_int)) pe_int) pa_nil)) pe_int))))
      (pss_cons (ps_set (i := 3) nd rfl (Or.inr rfl) (pe_lc (own := [("_law_cell", 2)]) (g := gName 2) (tt := tYes) rfl nd (pi_list (pv 0)) (blkOk_by (N := NSrc) (sc := defScope sSrc) (by decide +kernel)) (fun _ _ _ _ _ => pg_name (i := 2) nd rfl (Or.inl rfl)) (fun _ _ _ _ _ => pts_nil)
        (fun _ _ _ _ _ => pe_callB call_abs (by rfl) B.abs (by decide +kernel) (pa_cons (pv 2) pa_nil))))
      (pss_one (ps_ret (pe_disp (pps_cons pe_str (pe_lc (own := [("_law_k", 4)]) (g := gName 4) (tt := tYes) rfl nd (pi_range1 (by rfl) B.range (pa_cons (pe_callB call_len_seq (by rfl) B.len PySem.boot_len (pa_cons (pv 3) pa_nil)) pa_nil)) (blkOk_by (N := NSrc) (sc := defScope sSrc) (by decide +kernel)) (fun _ _ _ _ _ => pg_name (i := 4) nd rfl (Or.inl rfl)) (fun _ _ _ _ _ => pts_nil)
          (fun _ _ _ _ _ => pe_ix (r := rIxL K) ix_list (pv 3) (pe_op op_sub (pe_op op_sub (pe_callB (r := rLn K) call_len_seq (by rfl) B.len PySem.boot_len (pa_cons (pv 3) pa_nil)) pe_int) (pv 4)) (fun _ _ => rfl)))
        (pps_cons pe_str pe_int (pps_cons pe_str (pv 1) (pps_cons pe_str pe_int pps_nil)))) rfl rfl (by simp) (by decide)))))), ?_⟩
    obtain ⟨a, ns, rfl, hS, hl, k⟩ := h
    refine ⟨_, rfl, a, rfl, ⟨_, hS⟩, for_list (K := K) (a := a) (xs := ns.map V.int) (fun i σ H2 => ∃ (z : Int) (v : Option V), σ = [some (.ref a), some (.int z), v, none, none] ∧ 0 ≤ z ∧ z < 2147483629 ∧ H2 = H)
      ⟨11, none, rfl, by decide, by decide, rfl⟩ (fun i σ H2 _ ⟨_, _, _, _, _, e⟩ => by rw [e]; exact hS) ?_ ?_⟩
    · rintro i y σ H2 hi ⟨z, v, rfl, z0, z1, rfl⟩
      obtain ⟨x, _, rfl⟩ := int_at hi
      refine ⟨_, rfl, _, _, rfl, rfl, .inr ⟨by decide, by decide⟩, _, rfl, _, _, rfl, rfl, .inr ⟨by decide, by decide⟩, _, _, rfl, rfl, _, _, rfl, rfl, .inl ⟨_, rfl, _, _, rfl, rfl, (show (0 : Int) < 2147483629 by decide), ?_⟩⟩
      exact ⟨_, _, rfl, Int.emod_nonneg _ (by decide), Int.emod_lt_of_pos _ (by decide), rfl⟩
    · rintro σ H2 ⟨z, v, rfl, z0, z1, rfl⟩
      refine ⟨_, rfl, a, rfl, ⟨_, hS⟩, fun D hD => ?_⟩
      refine lc_list (xs := ns.map V.int) (fun i H' => H' D = some (.lst ((ab (ns.take i)).map V.int)) ∧ ∀ b, b ≠ D → H' b = H2 b) ⟨upd_same, fun b hb => upd_ne hb⟩ (fun i H' _ ⟨e, q⟩ => sq_keep hD q hS) ?_ ?_
      · rintro i y H' hi ⟨e, q⟩
        obtain ⟨x, hx, rfl⟩ := int_at hi
        refine ⟨rfl, _, rfl, _, rfl, _, e, ?_, ?_, fun b hb => ?_⟩
        · unfold ab
          rw [List.length_map, List.length_map, List.length_take]
          exact small1000 (by omega)
        · rw [upd_same]
          unfold ab
          rw [List.take_add_one, hx]
          simp
        · rw [upd_ne hb]; exact q b hb
      · rintro H' ⟨e, q⟩
        rw [List.length_map, List.take_length] at e
        intro p hp
        have npD : p ≠ D := (ne_of_none e hp).symm
        have la : (ab ns).length = ns.length := by unfold ab; rw [List.length_map]
        have lm : ((ab ns).map V.int).length = ns.length := by rw [List.length_map, la]
        have eD : upd H' p (.dK []) D = some (.lst ((ab ns).map V.int)) := by rw [upd_ne npD.symm]; exact e
        refine ⟨_, rfl, D, _, rfl, .inl (SqL.of eD), _, rfl, (by rw [lm]; omega), (by rw [lm]; omega), fun C hC => ?_⟩
        rw [lm]
        have nCp : C ≠ p := (ne_of_none upd_same hC).symm
        have nCD : C ≠ D := (ne_of_none eD hC).symm
        refine lc_range (lo := 0) (n := ns.length) (fun i H3 => (∃ ys : List Int, H3 C = some (.lst (ys.map V.int)) ∧ ys.length = i) ∧ ∀ b, b ≠ C → H3 b = upd H' p (.dK []) b) ⟨⟨[], upd_same, rfl⟩, fun b hb => upd_ne hb⟩ ?_ ?_
        · rintro i H3 hi ⟨⟨ys, e3, ly⟩, q3⟩
          obtain ⟨y, ey⟩ : ∃ y, (ab ns)[ns.length - 1 - i]? = some y := ⟨(ab ns)[ns.length - 1 - i], by rw [List.getElem?_eq_getElem (by omega)]⟩
          have e3D : H3 D = some (.lst ((ab ns).map V.int)) := by rw [q3 D nCD.symm]; exact eD
          refine ⟨rfl, _, rfl, _, rfl, D, _, rfl, .inl (SqL.of e3D), _, _, rfl, rfl, _, rfl, _, _, rfl, rfl, D, _, _, .int y, rfl, rfl, SqL.of e3D, ?_, _, e3, ?_, ⟨ys ++ [y], ?_, ?_⟩, fun b hb => ?_⟩
          · exact at_of (j := ns.length - 1 - i) (by rw [lm]; omega) (by rw [List.getElem?_map, ey]; rfl)
          · rw [List.length_map]; exact small1000 (by omega)
          · rw [upd_same]; simp
          · rw [List.length_append, ly]; rfl
          · rw [upd_ne hb]; exact q3 b hb
        · rintro H3 ⟨⟨ys, e3, ly⟩, q3⟩
          refine ⟨_, rfl, ?_⟩
          refine ⟨by rw [q3 p nCp.symm, upd_same], skv C 1 z 0, rfl, (show 4 ≤ 15 by decide), ?_⟩
          rw [skv_merge]
          refine k p C _ (fun b o eb => ?_) ?_ ?_ ⟨ys, 1, z, 0, ?_, by omega, upd_same⟩
          · have hb : b ≠ D := ne_of_none eb hD
            have eb2 : H' b = some o := (q b hb).trans eb
            have hbp : b ≠ p := ne_of_none eb2 hp
            have hbC : b ≠ C := ne_of_none (show upd H' p (.dK []) b = some o by rw [upd_ne hbp]; exact eb2) hC
            rw [upd_ne hbp, q3 b hbC, upd_ne hbp]
            exact eb2
          · rw [← q p npD]; exact hp
          · rw [← q C nCD]
            rw [upd_ne nCp] at hC
            exact hC
          · rw [upd_ne nCp]; exact e3
end
end K43

namespace K43
open PySem PySem.Spec PyProof.Rows L2 Ow
abbrev LT : Str := "abcdefghijklmnopqrstuvwxyz"
abbrev SG : Str := "abcdefghijklmnopqrstuvwxyz0123456789"
/-! ### words -/
/-- a word of the text -/
structure Wd (x : Str) : Prop where
  lo : 1 ≤ x.length
  hi : x.length ≤ 12
  h : ∀ c, x.cps[0]? = some c → c ∈ LT.cps.toList
  s : ∀ (i c : Nat), x.cps[i]? = some c → c ∈ SG.cps.toList
  z : x ≠ ("zzz" : Str)
/-- a list of unlike words -/
structure NL (xs : List Str) : Prop where
  nd : xs.Nodup
  w : ∀ x ∈ xs, Wd x
  n : xs.length ≤ 16
theorem scW : FnScope ["value", "sign"] ["value"] (defScope sIsWord) := ⟨rfl, rfl, rfl, by decide +kernel, rfl, by decide +kernel, by decide +kernel⟩
def spWord : Sp := fun vs H Q _ => ∃ x : Str, vs = [.str x] ∧ Wd x ∧ ∀ H', Same H H' → Q (.bl true) H'
section
variable {P : Program} {w : World} {K : PySem.W.Frag} {mg : Str → Option Value} {base : Heap} {f : Addr} {fd : FuncData}
theorem ok_word (F : FnP K "is_word" sIsWord f fd) (Y : Fx w K mg) : FnOk P w K mg base CX0 1 f fd ["value"] spWord := by
  refine okD F scW (fun vs H Q E h => ?_) (fun cdv A outer s H vs Q E hr h => ?_)
  · obtain ⟨x, rfl, _⟩ := h
    rfl
  · have hu := hu_of hr
    have nd := scW.nd
    have B := Y.bl
    obtain ⟨tl, el⟩ := Y.sLETTERS
    obtain ⟨ts, es⟩ := Y.sSIGNS
    refine ⟨_, pss_cons (ps_ifN (pw_or (pt_not (pt_val (pe_callB call_isi (by rfl) Y.bIsinstance boot_isinstance (pa_cons (pv 0) (pa_cons (pe_bltn (v := .ty "str") (u := .type "str") (by rfl) Y.bStr (by decide +kernel) rfl) pa_nil))))) (pw_or1 (pt_not (pt_chain op_le op_le pe_int (pe_callB call_len_str (by rfl) B.len PySem.boot_len (pa_cons (pv 0) pa_nil)) pe_int)))).pt pss_nil)
      (pss_one (ps_ret (pe_and (pe_cmpR op_in_sign (pe_ix ix_str (pv 0) pe_int (fun _ _ => rfl)) (pe_glob (v := .str LT) (by rfl) el ⟨_, rfl⟩) (by rfl)) (pe_one (pe_callB (cr_all rfl) (by rfl) Y.bAll (by decide +kernel) (pa_cons
        (pe_lc (own := [("sign", 1)]) (g := gName 1) (tt := tYes) rfl nd (pi_str (pv 0)) (blkOk_by (N := ["value", "sign"]) (sc := defScope sIsWord) (by decide +kernel)) (fun _ _ _ _ _ => pg_name (i := 1) nd rfl (Or.inl rfl)) (fun _ _ _ _ _ => pts_nil)
          (fun _ _ _ _ _ => pe_cmpR op_in_sign (pv 1) (pe_glob (v := .str SG) (by rfl) es ⟨_, rfl⟩) (by rfl))) pa_nil)))))), ?_⟩
    obtain ⟨x, rfl, hx, k⟩ := h
    have lz : x.length ≤ sizeLine := Nat.le_trans hx.hi (by decide)
    obtain ⟨c, ec⟩ : ∃ c, x.cps[0]? = some c := ⟨x.cps[0]'(show 0 < x.cps.size from hx.lo), Array.getElem?_eq_getElem _⟩
    have l1 : (1 : Int) ≤ (x.length : Int) := by have z := hx.lo; omega
    have l2 : (x.length : Int) ≤ 12 := by have z := hx.hi; omega
    refine ⟨_, rfl, _, _, _, _, true, rfl, .ty _, .base (.str x), (of_decide_eq_true Y.x0), true, rfl, iteF ⟨_, rfl, x, rfl, lz, _, _, rfl, rfl, _, rfl, ite2 (fun _ => ⟨_, _, rfl, rfl, _, rfl, ?_, ?_⟩) (fun n => absurd (decide_eq_true l1) n)⟩⟩
    · rw [decide_eq_true l2]; rfl
    refine ⟨_, rfl, x, 0, c, rfl, rfl, lz, ?_, c, LT, rfl, rfl, _, rfl, ite2 (fun _ => ?_) (fun n => absurd (decide_eq_true (hx.h c ec)) n)⟩
    · exact (show atI x.cps.toList ((0 : Nat) : Int) = some c from atI_nat (by rw [Array.getElem?_toList]; exact ec))
    refine ⟨_, rfl, x, rfl, fun D hD => ?_⟩
    refine lc_it walk_str (fun i H' => H' D = some (.lst ((List.replicate i true).map V.bl)) ∧ Same H H') ⟨upd_same, fun b o e => (upd_ne (ne_of_none e hD)).trans e⟩ (fun _ _ _ _ => trivial) ?_ ?_
    · rintro i v G G' hi ⟨e, q⟩ ⟨rfl, z, ez, rfl⟩
      refine ⟨rfl, _, rfl, z, SG, rfl, rfl, _, e, ?_, ?_, fun b o eb => (upd_ne (ne_of_none eb hD)).trans (q b o eb)⟩
      · rw [List.length_map, List.length_replicate]
        exact Nat.lt_of_lt_of_le hi (Nat.le_trans hx.hi (by decide))
      · rw [upd_same, decide_eq_true (hx.s i z ez), List.replicate_succ', List.map_append]
        rfl
    · rintro G ⟨e, q⟩
      refine ⟨D, List.replicate x.cps.size true, rfl, SqL.of e, ?_⟩
      rw [show (List.replicate x.cps.size true).all id = true by simp]
      exact k G q
end
end K43

namespace K43
open PySem PySem.Spec PyProof.Rows L2 Ow
/-! ### what is a word, of any text -/
def inC (S : Str) (c : Nat) : Bool := decide (c ∈ S.cps.toList)
def isW (x : Str) : Bool := decide (1 ≤ x.length) && (decide (x.length ≤ 12) && ((match x.cps[0]? with
  | some c => inC LT c
  | none => false) && x.cps.toList.all (inC SG)))
def spIW : Sp := fun vs H Q _ => ∃ x : Str, vs = [.str x] ∧ x.length ≤ 900 ∧ ∀ H', Same H H' → Q (.bl (isW x)) H'
section
variable {P : Program} {w : World} {K : PySem.W.Frag} {mg : Str → Option Value} {base : Heap} {f : Addr} {fd : FuncData}
theorem ok_iw (F : FnP K "is_word" sIsWord f fd) (Y : Fx w K mg) : FnOk P w K mg base CX0 1 f fd ["value"] spIW := by
  refine okD F scW (fun vs H Q E h => ?_) (fun cdv A outer s H vs Q E hr h => ?_)
  · obtain ⟨x, rfl, _⟩ := h
    rfl
  · have hu := hu_of hr
    have nd := scW.nd
    have B := Y.bl
    obtain ⟨tl, el⟩ := Y.sLETTERS
    obtain ⟨ts, es⟩ := Y.sSIGNS
    refine ⟨_, pss_cons (ps_if (pw_or (pt_not (pt_val (pe_callB call_isi (by rfl) Y.bIsinstance boot_isinstance (pa_cons (pv 0) (pa_cons (pe_bltn (v := .ty "str") (u := .type "str") (by rfl) Y.bStr (by decide +kernel) rfl) pa_nil))))) (pw_or1 (pt_not (pt_chain op_le op_le pe_int (pe_callB call_len_str (by rfl) B.len PySem.boot_len (pa_cons (pv 0) pa_nil)) pe_int)))).pt (pss_one (ps_ret pe_bl)) pss_nil)
      (pss_one (ps_ret (pe_and (pe_cmpR op_in_sign (pe_ix ix_str (pv 0) pe_int (fun _ _ => rfl)) (pe_glob (v := .str LT) (by rfl) el ⟨_, rfl⟩) (by rfl)) (pe_one (pe_callB (cr_all rfl) (by rfl) Y.bAll (by decide +kernel) (pa_cons
        (pe_lc (own := [("sign", 1)]) (g := gName 1) (tt := tYes) rfl nd (pi_str (pv 0)) (blkOk_by (N := ["value", "sign"]) (sc := defScope sIsWord) (by decide +kernel)) (fun _ _ _ _ _ => pg_name (i := 1) nd rfl (Or.inl rfl)) (fun _ _ _ _ _ => pts_nil)
          (fun _ _ _ _ _ => pe_cmpR op_in_sign (pv 1) (pe_glob (v := .str SG) (by rfl) es ⟨_, rfl⟩) (by rfl))) pa_nil)))))), ?_⟩
    obtain ⟨x, rfl, hx, k⟩ := h
    have lz : x.length ≤ sizeLine := Nat.le_of_lt (small1000 (by omega))
    refine ⟨_, rfl, _, _, _, _, true, rfl, .ty _, .base (.str x), (of_decide_eq_true Y.x0), true, rfl, iteF ⟨_, rfl, x, rfl, lz, _, _, rfl, rfl, _, rfl, ite2 (fun h1 => ?_) (fun n => ?_)⟩⟩
    · refine ⟨_, _, rfl, rfl, _, rfl, ite2 (fun h2 => ?_) (fun h2 => ?_)⟩
      · have z : isW x = false := by
          have e : decide ((x.length : Int) ≤ 12) = false := by simpa using h2
          have e2 : ¬ (x.length ≤ 12) := by
            have := of_decide_eq_false e
            omega
          unfold isW
          rw [decide_eq_false e2, Bool.false_and, Bool.and_false]
        rw [z] at k
        exact k _ (Same.refl _)
      · have l1 : 1 ≤ x.length := by
          have := of_decide_eq_true h1
          omega
        have l2 : x.length ≤ 12 := by
          have e : decide ((x.length : Int) ≤ 12) = true := by simpa using h2
          have := of_decide_eq_true e
          omega
        obtain ⟨c, ec⟩ : ∃ c, x.cps[0]? = some c := ⟨x.cps[0]'(show 0 < x.cps.size from l1), Array.getElem?_eq_getElem _⟩
        have ew : isW x = (inC LT c && x.cps.toList.all (inC SG)) := by
          unfold isW
          rw [decide_eq_true l1, decide_eq_true l2, ec]
          rfl
        rw [ew] at k
        refine ⟨_, rfl, x, 0, c, rfl, rfl, lz, (show atI x.cps.toList ((0 : Nat) : Int) = some c from atI_nat (by rw [Array.getElem?_toList]; exact ec)), c, LT, rfl, rfl, _, rfl, ite2 (fun h3 => ?_) (fun h3 => ?_)⟩
        · rw [show inC LT c = true from h3, Bool.true_and] at k
          refine ⟨_, rfl, x, rfl, fun D hD => ?_⟩
          refine lc_it walk_str (fun i H' => H' D = some (.lst (((x.cps.toList.take i).map (inC SG)).map V.bl)) ∧ Same H H') ⟨upd_same, fun b o e => (upd_ne (ne_of_none e hD)).trans e⟩ (fun _ _ _ _ => trivial) ?_ ?_
          · rintro i v G G' hi ⟨e, q⟩ ⟨rfl, z, ez, rfl⟩
            have ez2 : x.cps.toList[i]? = some z := by rw [Array.getElem?_toList]; exact ez
            refine ⟨rfl, _, rfl, z, SG, rfl, rfl, _, e, ?_, ?_, fun b o eb => (upd_ne (ne_of_none eb hD)).trans (q b o eb)⟩
            · rw [List.length_map, List.length_map, List.length_take]
              have : i < x.length := hi
              exact small1000 (by omega)
            · rw [upd_same, List.take_add_one, ez2, List.map_append, List.map_append]
              rfl
          · rintro G ⟨e, q⟩
            have lx : x.cps.size = x.cps.toList.length := by rw [Array.length_toList]
            refine ⟨D, _, rfl, SqL.of e, ?_⟩
            rw [lx, List.take_length, List.all_map]
            exact k G q
        · rw [show inC LT c = false from Bool.eq_false_iff.mpr h3, Bool.false_and] at k
          exact k _ (Same.refl _)
    · refine ⟨_, rfl, ite2 (fun h2 => ?_) (fun h2 => ?_)⟩
      · have z : isW x = false := by
          have e2 : ¬ (1 ≤ x.length) := by
            intro q
            exact n (decide_eq_true (show (1 : Int) ≤ (x.length : Int) by omega))
          unfold isW
          rw [decide_eq_false e2, Bool.false_and]
        rw [z] at k
        exact k _ (Same.refl _)
      · exfalso
        have e := Bool.eq_false_iff.mpr n
        exact h2 rfl
end
end K43

namespace K43
open PySem PySem.Spec PyProof.Rows L2 Ow
theorem scCN : FnScope ["lists", "names", "name"] ["lists"] (defScope sCheckNames) := ⟨rfl, rfl, rfl, by decide +kernel, rfl, by decide +kernel, by decide +kernel⟩
/-- at y stands a list or tuple of unlike words -/
def Nms (K : PySem.W.Frag) (H : Hp) (y : V) (xs : List Str) : Prop := ∃ a, y = .ref a ∧ SqA K H a (xs.map V.str) ∧ NL xs
theorem Nms.same {K : PySem.W.Frag} {H H' : Hp} {y : V} {xs : List Str} (s : Same H H') (h : Nms K H y xs) : Nms K H' y xs := by
  obtain ⟨a, e, q, n⟩ := h
  exact ⟨a, e, q.same s, n⟩
def spCheck (K : PySem.W.Frag) : Sp := fun vs H Q _ => ∃ (l : Addr) (y z : V) (xs ys : List Str), vs = [.ref l] ∧ SqL K H l [y, z] ∧ Nms K H y xs ∧ Nms K H z ys ∧ ∀ H', Same H H' → Q .non H'
theorem str_at {xs : List Str} {i : Nat} {y : V} (h : (xs.map V.str)[i]? = some y) : ∃ z, xs[i]? = some z ∧ y = .str z := by
  rw [List.getElem?_map] at h
  cases e : xs[i]? with
  | none => rw [e] at h; cases h
  | some z => rw [e] at h; exact ⟨z, rfl, (Option.some.inj h).symm⟩
section
variable {P : Program} {w : World} {K : PySem.W.Frag} {mg : Str → Option Value} {base : Heap} {f : Addr} {fd : FuncData}
theorem ok_check (F : FnP K "check_names" sCheckNames f fd) (Y : Fx w K mg) : FnOk P w K mg base CX0 2 f fd ["lists"] (spCheck K) := by
  obtain ⟨dW, FW⟩ := Y.dIsWord
  have bW := FunD.bindsN (ps := ["value"]) FW fun _ _ _ _ _ _ us hl => match us, hl with | [_], _ => rfl
  have GW : FnOk P w K mg base CX0 1 _ dW ["value"] spWord := ok_word FW Y
  refine okD F scCN (fun vs H Q E h => ?_) (fun cdv A outer s H vs Q E hr h => ?_)
  · obtain ⟨l, y, z, xs, ys, rfl, _⟩ := h
    rfl
  · have hu := hu_of hr
    have nd := scCN.nd
    have B := Y.bl
    refine ⟨_, pss_cons (ps_for PassesOwn.never rfl (pi_list (pv 0)) (pg_name (i := 1) nd rfl (Or.inl rfl)) (pss_one (ps_for PassesOwn.never rfl (pi_seqA (pv 1)) (pg_name (i := 2) nd rfl (Or.inl rfl))
        (pss_one (ps_ifN (pt_not (pt_val (pe_call GW hr rfl Y.gIsWord FW.kp bW .nil pass0 (pa_cons (pv 2) pa_nil)))) pss_nil)))))
      (pss_one (ps_for PassesOwn.never rfl (pi_list (pv 0)) (pg_name (i := 1) nd rfl (Or.inl rfl))
        (pss_one (ps_ifN (pt_cmpR op_lt (pe_lenSetT rfl (by rfl) B.len (by rfl) Y.bSet (pv 1)) (pe_callB call_len_seq (by rfl) B.len PySem.boot_len (pa_cons (pv 1) pa_nil)) (nomark _)) pss_nil)))), ?_⟩
    obtain ⟨l, y, z, xs, ys, rfl, hl, hy, hz, k⟩ := h
    have it : ∀ (i : Nat) (v : V) (G : Hp), ([y, z] : List V)[i]? = some v → Same H G → ∃ zs, Nms K G v zs := fun i v G hi sm => by
      match i, hi with
      | 0, hi => cases hi; exact ⟨xs, hy.same sm⟩
      | 1, hi => cases hi; exact ⟨ys, hz.same sm⟩
      | (i + 2), hi => cases hi
    refine ⟨_, rfl, l, rfl, ⟨_, hl⟩, for_list (K := K) (a := l) (xs := [y, z]) (fun i σ G => (∃ v1 v2, σ = [some (.ref l), v1, v2]) ∧ Same H G) ⟨⟨_, _, rfl⟩, Same.refl _⟩ (fun i σ G _ q => q.2.seq hl) ?_ ?_⟩
    · rintro i v σ G hi ⟨⟨v1, v2, rfl⟩, sm⟩
      obtain ⟨zs, a, rfl, hA, hn⟩ := it i v G hi sm
      refine ⟨_, rfl, a, zs.map V.str, rfl, hA, fun J GG wk gk => for_it wk (fun j σ G' => (∃ v2, σ = [some (.ref l), some (.ref a), v2]) ∧ Same G G') ⟨⟨_, rfl⟩, Same.refl _⟩ (fun j σ G' _ q => gk _ q.2) ?_ ?_⟩
      · rintro j v σ G' G'' hj ⟨⟨v2, rfl⟩, s2⟩ ⟨rfl, ev⟩
        obtain ⟨x, ex, rfl⟩ := str_at ev
        exact ⟨_, rfl, x, rfl, hn.w x (List.mem_of_getElem? ex), fun G3 s3 => ⟨true, rfl, rfl, ⟨_, rfl⟩, s2.trans s3⟩⟩
      · rintro σ G' ⟨⟨v2, rfl⟩, s2⟩
        exact ⟨⟨_, _, rfl⟩, sm.trans s2⟩
    · rintro σ G ⟨⟨v1, v2, rfl⟩, sm⟩
      refine ⟨_, rfl, l, rfl, ⟨_, sm.seq hl⟩, for_list (K := K) (a := l) (xs := [y, z]) (fun i σ G => (∃ v1 v2, σ = [some (.ref l), v1, v2]) ∧ Same H G) ⟨⟨_, _, rfl⟩, sm⟩ (fun i σ G _ q => q.2.seq hl) ?_ ?_⟩
      · rintro i v σ G hi ⟨⟨v1, v2, rfl⟩, sm⟩
        obtain ⟨zs, a, rfl, hA, hn⟩ := it i v G hi sm
        refine ⟨_, rfl, a, zs, rfl, hA, hn.nd, Nat.lt_of_le_of_lt hn.n (by decide), _, rfl, a, zs.map V.str, rfl, hA, _, _, rfl, rfl, _, rfl, ?_, ⟨_, _, rfl⟩, sm⟩
        rw [List.length_map]
        exact decide_eq_false (Int.lt_irrefl _)
      · rintro σ G ⟨⟨v1, v2, rfl⟩, sm⟩
        exact k G sm
end
end K43

namespace K43
open PySem PySem.Spec PyProof.Rows L2 Ow
/-! ### what stays, and small helps -/
theorem same_upd {H : Hp} {a : Addr} {o : HO} (h : H a = none) : Same H (upd H a o) := fun _ _ e => (upd_ne (ne_of_none e h)).trans e
theorem same_put {H G : Hp} {D : Addr} {o : HO} (hD : H D = none) (s : Same H G) : Same H (upd G D o) := fun b _ e => (upd_ne (ne_of_none e hD)).trans (s b _ e)
theorem szl {n : Nat} (h : n ≤ 1000) : n ≤ sizeLine := Nat.le_of_lt (small1000 h)
def Keep (x : Addr) (H H' : Hp) : Prop := ∀ b o, b ≠ x → H b = some o → H' b = some o
theorem Keep.refl {x : Addr} {H : Hp} : Keep x H H := fun _ _ _ e => e
theorem Keep.trans {x : Addr} {H1 H2 H3 : Hp} (h : Keep x H1 H2) (g : Keep x H2 H3) : Keep x H1 H3 := fun b o n e => g b o n (h b o n e)
theorem Keep.of {x : Addr} {H H' : Hp} (s : Same H H') : Keep x H H' := fun b o _ e => s b o e
theorem Keep.put {x : Addr} {H : Hp} {o : HO} : Keep x H (upd H x o) := fun b u n e => (upd_ne n).trans e
/-- a dict comprehension over a walk -/
theorem dc_it {J : It} {n : Nat} {G : Hp → Prop} {Y : Nat → Hp → V → Hp → Prop} (w : Walk J n G Y) {g : TG} {tt : TT} {tk tv : TE} {vs : List Nat} {σ : L2.St} {H1 : Hp} {D : Addr} {Qd : Hp → Prop} (Pv : Nat → Hp → Prop) (h0 : Pv 0 (upd H1 D (.dK []))) (hG : ∀ i H, i ≤ n → Pv i H → G H)
    (hs : ∀ i x H H', i < n → Pv i H → Y i H x H' → g x (wipe σ vs) H' fun σ2 H2 => wipe σ2 vs = wipe σ vs ∧ tt σ2 H2 fun b H3 =>
      if b = true then tk σ2 H3 fun y H4 => tv σ2 H4 fun z H5 => ∃ kvs k, y = kV k ∧ H5 D = some (.dK kvs) ∧ kvs.length < sizeLine ∧ Pv (i + 1) (upd H5 D (.dK (putK kvs k z))) else Pv (i + 1) H3) (hd : ∀ H, Pv n H → Qd H) :
    ∃ W : Nat → Nat → Hp → Prop, (∃ m, W 0 m (upd H1 D (.dK []))) ∧ ∀ i m H, W i m H →
      (J.stop i H ∧ Qd H) ∨ (J.go i H ∧ ∃ Nx : Hp → Prop, (∀ H', Nx H' → ∃ m', m' < m ∧ W (i + 1) m' H') ∧ ∀ x H', J.yld i H x H' → g x (wipe σ vs) H' fun σ2 H2 => wipe σ2 vs = wipe σ vs ∧ tt σ2 H2 fun b H3 =>
        if b = true then tk σ2 H3 fun y H4 => tv σ2 H4 fun z H5 => ∃ kvs k, y = kV k ∧ H5 D = some (.dK kvs) ∧ kvs.length < sizeLine ∧ Nx (upd H5 D (.dK (putK kvs k z))) else Nx H3) := by
  refine ⟨fun i m H => m = n - i ∧ i ≤ n ∧ Pv i H, ⟨n, rfl, Nat.zero_le _, h0⟩, ?_⟩
  rintro i m H ⟨rfl, le, p⟩
  have q := hG i H le p
  by_cases lt : i < n
  · exact .inr ⟨w.goes i H lt q, Pv (i + 1), fun H' p' => ⟨n - (i + 1), by omega, rfl, lt, p'⟩, fun x H' y => hs i x H H' lt p (w.yields i H x H' lt q y)⟩
  · have e : i = n := by omega
    subst e
    exact .inl ⟨w.stops H q, hd H p⟩
/-- at l stands a list of tuples of these -/
def TupsAt (K : PySem.W.Frag) (H : Hp) (l : Addr) (vss : List (List V)) : Prop := ∃ as : List Addr, SqL K H l (as.map V.ref) ∧ as.length = vss.length ∧ ∀ (i : Nat) (t : Addr), as[i]? = some t → ∃ vs, vss[i]? = some vs ∧ SqT K H t vs
theorem TupsAt.same {K : PySem.W.Frag} {H H' : Hp} {l : Addr} {vss : List (List V)} (s : Same H H') (h : TupsAt K H l vss) : TupsAt K H' l vss := by
  obtain ⟨as, q, e, g⟩ := h
  refine ⟨as, s.seq q, e, fun i t z => ?_⟩
  obtain ⟨vs, e1, e2⟩ := g i t z
  exact ⟨vs, e1, sqt_same s e2⟩
theorem ref_at {as : List Addr} {i : Nat} {v : V} (h : (as.map V.ref)[i]? = some v) : ∃ a, as[i]? = some a ∧ v = .ref a := by
  rw [List.getElem?_map] at h
  cases e : as[i]? with
  | none => rw [e] at h; cases h
  | some a => rw [e] at h; exact ⟨a, rfl, (Option.some.inj h).symm⟩
theorem map_at {α : Type} {f : α → V} {xs : List α} {i : Nat} {v : V} (h : (xs.map f)[i]? = some v) : ∃ x, xs[i]? = some x ∧ v = f x := by
  rw [List.getElem?_map] at h
  cases e : xs[i]? with
  | none => rw [e] at h; cases h
  | some a => rw [e] at h; exact ⟨a, rfl, (Option.some.inj h).symm⟩
theorem flat_strs (xs : List Str) : (xs.map V.str).all flatV = true := by
  rw [List.all_eq_true]
  intro v hv
  obtain ⟨x, _, rfl⟩ := List.mem_map.mp hv
  rfl
theorem inV_strs (x : Str) (xs : List Str) : inV (.str x) (xs.map V.str) = decide (x ∈ xs) := by
  unfold inV
  rw [List.any_map, Bool.eq_iff_iff, List.any_eq_true, decide_eq_true_iff]
  constructor
  · rintro ⟨y, hy, e⟩
    have z : y = x := by simpa [eqV] using e
    exact z ▸ hy
  · intro h
    exact ⟨x, h, by simp [eqV]⟩
/-- a letter: its name, its ends -/
abbrev Lt : Type := Str × Str × Str
def ltV (q : Lt) : List V := [.str q.1, .str q.2.1, .str q.2.2]
/-! ### the frame's checks -/
abbrev NCE : List Str := ["sorts", "letters", "totals", "_", "first", "second", "end", "names", "letter", "name"]
theorem scCE : FnScope NCE ["sorts", "letters", "totals"] (defScope sCheckEnds) := ⟨rfl, rfl, rfl, by decide +kernel, rfl, by decide +kernel, by decide +kernel⟩
def spCE (K : PySem.W.Frag) : Sp := fun vs H Q _ => ∃ (s l t : Addr) (xs : List Str) (ls : List Lt), vs = [.ref s, .ref l, .ref t] ∧ SqL K H s (xs.map V.str) ∧ TupsAt K H l (ls.map ltV) ∧ (∀ q ∈ ls, q.2.1 ∈ xs ∧ q.2.2 ∈ xs) ∧ ls.length ≤ 16 ∧ SqL K H t [] ∧
  ∀ H', Same H H' → Q .non H'
section
variable {P : Program} {w : World} {K : PySem.W.Frag} {mg : Str → Option Value} {base : Heap} {f : Addr} {fd : FuncData}
theorem ok_ce (F : FnP K "_check_ends" sCheckEnds f fd) (Y : Fx w K mg) : FnOk P w K mg base CX0 1 f fd ["sorts", "letters", "totals"] (spCE K) := by
  refine okD F scCE (fun vs H Q E h => ?_) (fun cdv A outer s H vs Q E hr h => ?_)
  · obtain ⟨a, b, c, xs, ls, rfl, _⟩ := h
    rfl
  · have nd := scCE.nd
    refine ⟨_, pss_cons (ps_for PassesOwn.never rfl (pi_list (pv 1)) (pg_tup rfl (pgs_cons (pg_name (i := 3) nd rfl (Or.inl rfl)) (pgs_cons (pg_name (i := 4) nd rfl (Or.inl rfl)) (pgs_cons (pg_name (i := 5) nd rfl (Or.inl rfl)) pgs_nil))))
        (pss_one (ps_for PassesOwn.never rfl (pi_tup (pe_tup (pa_cons (pv 4) (pa_cons (pv 5) pa_nil)))) (pg_name (i := 6) nd rfl (Or.inl rfl))
          (pss_one (ps_ifN (pt_cmpR op_notIn_seq (pv 6) (pv 0) (by rfl)) pss_nil)))))
      (pss_cons (ps_setLc (i := 7) (own := [("letter", 8)]) (g := gName 8) (tt := tYes) (te := tOp (rIxT K) (tVar 8) (tC (.int 0))) rfl nd rfl rfl (by rfl) (pi_list (pv 1)) (blkOk_by (N := NCE) (sc := defScope sCheckEnds) (by decide +kernel)) (fun _ _ _ _ _ => pg_name (i := 8) nd rfl (Or.inl rfl)) (fun _ _ _ _ _ => pts_nil)
        (fun _ _ _ _ _ => pe_ix ix_tup (pv 8) pe_int (fun _ _ => rfl)))
      (pss_one (ps_for PassesOwn.never rfl (pi_list (pv 2)) (pg_tup rfl (pgs_cons (pg_name (i := 9) nd rfl (Or.inl rfl)) (pgs_cons (pg_name (i := 3) nd rfl (Or.inl rfl)) pgs_nil)))
        (pss_one (ps_ifN (pt_cmpR op_notIn_seq (pv 9) (pv 7) (by rfl)) pss_nil))))), ?_⟩
    obtain ⟨a, l, t, xs, ls, rfl, hs, hl, hin, hn, ht, k⟩ := h
    obtain ⟨as, q, la, g⟩ := id hl
    rw [List.length_map] at la
    refine ⟨_, rfl, l, rfl, ⟨_, q⟩, for_list (K := K) (a := l) (xs := as.map V.ref) (fun i σ G => (∃ v3 v4 v5 v6, σ = [some (.ref a), some (.ref l), some (.ref t), v3, v4, v5, v6, none, none, none]) ∧ Same H G) ⟨⟨_, _, _, _, rfl⟩, Same.refl _⟩ (fun i σ G _ p => p.2.seq q) ?_ ?_⟩
    · rintro i v σ G hi ⟨⟨v3, v4, v5, v6, rfl⟩, sm⟩
      obtain ⟨b, eb, rfl⟩ := ref_at hi
      obtain ⟨vs, e1, hT⟩ := g i b eb
      obtain ⟨lt, e2, rfl⟩ : ∃ lt, ls[i]? = some lt ∧ vs = ltV lt := by
        rw [List.getElem?_map] at e1
        cases e : ls[i]? with
        | none => rw [e] at e1; cases e1
        | some z => rw [e] at e1; exact ⟨z, rfl, (Option.some.inj e1).symm⟩
      obtain ⟨m1, m2⟩ := hin lt (List.mem_of_getElem? e2)
      refine ⟨b, _, rfl, sqt_same sm hT, rfl, _, _, rfl, _, _, rfl, _, _, rfl, rfl, ?_⟩
      refine ⟨_, rfl, _, rfl, szl (by show 2 ≤ 1000; decide), fun p hp => ?_⟩
      have sp : Same G (upd G p (.tup [.str lt.2.1, .str lt.2.2])) := same_upd hp
      refine ⟨p, rfl, ⟨_, SqT.of upd_same⟩, for_tup (K := K) (a := p) (xs := [.str lt.2.1, .str lt.2.2]) (fun j σ G' => (∃ v6, σ = [some (.ref a), some (.ref l), some (.ref t), some (.str lt.1), some (.str lt.2.1), some (.str lt.2.2), v6, none, none, none]) ∧ Same (upd G p (.tup [.str lt.2.1, .str lt.2.2])) G') ⟨⟨_, rfl⟩, Same.refl _⟩ (fun j σ G' _ z => sqt_same z.2 (SqT.of upd_same)) ?_ ?_⟩
      · rintro j v σ G' hj ⟨⟨v6, rfl⟩, s2⟩
        obtain ⟨x, hx, rfl⟩ : ∃ x, x ∈ xs ∧ v = .str x := by
          match j, hj with
          | 0, hj => cases hj; exact ⟨_, m1, rfl⟩
          | 1, hj => cases hj; exact ⟨_, m2, rfl⟩
          | (j + 2), hj => cases hj
        refine ⟨_, rfl, _, rfl, a, xs.map V.str, rfl, .inl ((sm.trans (sp.trans s2)).seq hs), rfl, flat_strs xs, ?_⟩
        rw [inV_strs, decide_eq_true hx]
        exact ⟨false, rfl, rfl, ⟨_, rfl⟩, s2⟩
      · rintro σ G' ⟨⟨v6, rfl⟩, s2⟩
        exact ⟨⟨_, _, _, _, rfl⟩, sm.trans (sp.trans s2)⟩
    · rintro σ G ⟨⟨v3, v4, v5, v6, rfl⟩, sm⟩
      refine ⟨_, rfl, l, rfl, ⟨_, sm.seq q⟩, fun D hD => ?_⟩
      refine lc_list (K := K) (a := l) (xs := as.map V.ref) (fun i G' => (∃ ns : List Str, G' D = some (.lst (ns.map V.str)) ∧ ns.length = i) ∧ Same G G') ⟨⟨[], upd_same, rfl⟩, same_upd hD⟩ (fun i G' _ p => (sm.trans p.2).seq q) ?_ ?_
      · rintro i v G' hi ⟨⟨ns, e, ln⟩, s2⟩
        obtain ⟨b, eb, rfl⟩ := ref_at hi
        obtain ⟨vs, e1, hT⟩ := g i b eb
        obtain ⟨lt, e2, rfl⟩ : ∃ lt, ls[i]? = some lt ∧ vs = ltV lt := by
          rw [List.getElem?_map] at e1
          cases z : ls[i]? with
          | none => rw [z] at e1; cases e1
          | some y => rw [z] at e1; exact ⟨y, rfl, (Option.some.inj e1).symm⟩
        have li : i < ls.length := (List.getElem?_eq_some_iff.mp e2).1
        refine ⟨rfl, _, rfl, b, _, 0, _, rfl, rfl, sqt_same (sm.trans s2) hT, rfl, _, e, ?_, ⟨ns ++ [lt.1], ?_, by rw [List.length_append, ln]; rfl⟩, same_put hD s2⟩
        · rw [List.length_map]
          exact small1000 (by omega)
        · rw [upd_same, List.map_append]
          rfl
      · rintro G' ⟨⟨ns, e, ln⟩, s2⟩
        refine ⟨_, rfl, t, rfl, ⟨_, (sm.trans s2).seq ht⟩, for_list (K := K) (a := t) (xs := []) (fun i σ G2 => Same G' G2) (Same.refl _) (fun i σ G2 _ p => (sm.trans (s2.trans p)).seq ht) (fun i v σ G2 hi _ => nomatch hi) fun σ G2 s3 => k G2 (sm.trans (s2.trans s3))⟩
end
end K43

namespace K43
open PySem PySem.Spec PyProof.Rows L2 Ow
/-! ### data that is compared: lists and tuples of texts, of ints -/
theorem dpa_strs {K : PySem.W.Frag} {H : Hp} : ∀ xs : List Str, DpAll K H (xs.map V.str) (xs.map PyData.str)
  | [] => .nil
  | x :: xs => .cons (.str x) (dpa_strs xs)
theorem sg_low : ∀ c ∈ SG.cps.toList, c < 0x110000 := by decide +kernel
theorem Wd.lay {x : Str} (h : Wd x) : PyData.strOk x = true := by
  unfold PyData.strOk
  rw [Array.all_eq_true]
  intro i hi
  exact decide_eq_true (sg_low _ (h.s i _ (Array.getElem?_eq_getElem hi)))
theorem lay_strs : ∀ xs : List Str, (∀ x ∈ xs, Wd x) → PyData.canLayAll0 (xs.map PyData.str) = true
  | [], _ => by simp [PyData.canLayAll0]
  | x :: xs, h => by simp [PyData.canLayAll0, PyData.canLay0, (h x List.mem_cons_self).lay, lay_strs xs fun y hy => h y (List.mem_cons_of_mem _ hy)]
theorem dep_strs : ∀ xs : List Str, PyData.depthAll (xs.map PyData.str) = 0
  | [] => by simp [PyData.depthAll]
  | x :: xs => by simp [PyData.depthAll, PyData.depth, dep_strs xs]
theorem dpa_ints {K : PySem.W.Frag} {H : Hp} : ∀ xs : List Int, DpAll K H (xs.map V.int) (xs.map PyData.int)
  | [] => .nil
  | x :: xs => .cons (.int x) (dpa_ints xs)
theorem lay_ints : ∀ xs : List Int, PyData.canLayAll0 (xs.map PyData.int) = true
  | [] => by simp [PyData.canLayAll0]
  | x :: xs => by simp [PyData.canLayAll0, PyData.canLay0, lay_ints xs]
theorem dep_ints : ∀ xs : List Int, PyData.depthAll (xs.map PyData.int) = 0
  | [] => by simp [PyData.depthAll]
  | x :: xs => by simp [PyData.depthAll, PyData.depth, dep_ints xs]
theorem shp_of {d : PyData} (h1 : d.canLay0 = true) (h2 : d.depth ≤ 64) : SeqAt.shaped d = true := by
  show (d.canLay0 && decide (d.depth ≤ 64)) = true
  rw [h1, decide_eq_true h2]
  rfl
theorem cl_strs {xs : List Str} (hn : NL xs) : (PyData.list (xs.map PyData.str)).canLay0 = true ∧ (PyData.tuple (xs.map PyData.str)).canLay0 = true := ⟨by simpa [PyData.canLay0] using lay_strs xs hn.w, by simpa [PyData.canLay0] using lay_strs xs hn.w⟩
theorem cl_ints (xs : List Int) : (PyData.tuple (xs.map PyData.int)).canLay0 = true := by simpa [PyData.canLay0] using lay_ints xs
theorem shp_lstr {xs : List Str} (hn : NL xs) : SeqAt.shaped (.list (xs.map PyData.str)) = true := shp_of (cl_strs hn).1 (by simp only [PyData.depth, dep_strs]; omega)
theorem shp_tstr {xs : List Str} (hn : NL xs) : SeqAt.shaped (.tuple (xs.map PyData.str)) = true := shp_of (cl_strs hn).2 (by simp only [PyData.depth, dep_strs]; omega)
theorem shp_tint (xs : List Int) : SeqAt.shaped (.tuple (xs.map PyData.int)) = true := shp_of (cl_ints xs) (by simp only [PyData.depth, dep_ints]; omega)
theorem eqv_lstr {xs : List Str} (hn : NL xs) : PyData.eqv (.list (xs.map PyData.str)) (.list (xs.map PyData.str)) = true := SeqAt.eqv_refl _ (cl_strs hn).1
theorem eqv_tstr {xs : List Str} (hn : NL xs) : PyData.eqv (.tuple (xs.map PyData.str)) (.tuple (xs.map PyData.str)) = true := SeqAt.eqv_refl _ (cl_strs hn).2
theorem eqv_ints : ∀ xs ys : List Int, PyData.eqv (.tuple (xs.map PyData.int)) (.tuple (ys.map PyData.int)) = decide (xs = ys)
  | [], [] => by simp [PyData.eqv, PyData.eqvAll]
  | [], y :: ys => by simp [PyData.eqv, PyData.eqvAll]
  | x :: xs, [] => by simp [PyData.eqv, PyData.eqvAll]
  | x :: xs, y :: ys => by
    have e := eqv_ints xs ys
    simp only [PyData.eqv] at e
    simp only [List.map_cons, PyData.eqv, PyData.eqvAll, e]
    by_cases h : x = y <;> by_cases g : xs = ys <;> simp [h, g]
/-- what != asks of two equal lists of texts -/
theorem ne_lstr {K : PySem.W.Frag} {H : Hp} {a b : Addr} {xs : List Str} {Q : VK} (hn : NL xs) (h1 : SqL K H a (xs.map V.str)) (h2 : SqL K H b (xs.map V.str)) (k : Q (.bl false) H) : rNeD K (.ref a) (.ref b) H Q :=
  ⟨.list (xs.map PyData.str), .list (xs.map PyData.str), .lst h1 (dpa_strs xs), .lst h2 (dpa_strs xs), shp_lstr hn, shp_lstr hn, by rw [eqv_lstr hn]; exact k⟩
theorem ne_tstr {K : PySem.W.Frag} {H : Hp} {a b : Addr} {xs : List Str} {Q : VK} (hn : NL xs) (h1 : SqT K H a (xs.map V.str)) (h2 : SqT K H b (xs.map V.str)) (k : Q (.bl false) H) : rNeD K (.ref a) (.ref b) H Q :=
  ⟨.tuple (xs.map PyData.str), .tuple (xs.map PyData.str), .tup h1 (dpa_strs xs), .tup h2 (dpa_strs xs), shp_tstr hn, shp_tstr hn, by rw [eqv_tstr hn]; exact k⟩
theorem eq_tstr {K : PySem.W.Frag} {H : Hp} {a b : Addr} {xs : List Str} {Q : VK} (hn : NL xs) (h1 : SqT K H a (xs.map V.str)) (h2 : SqT K H b (xs.map V.str)) (k : Q (.bl true) H) : rEqD K (.ref a) (.ref b) H Q :=
  ⟨.tuple (xs.map PyData.str), .tuple (xs.map PyData.str), .tup h1 (dpa_strs xs), .tup h2 (dpa_strs xs), shp_tstr hn, shp_tstr hn, by rw [eqv_tstr hn]; exact k⟩
end K43

namespace K43
open PySem PySem.Spec PyProof.Rows L2 Ow
theorem hu64_of {A : Around} {k : Nat} (hr : Room k A) : A.units + 64 < cLine := hr.units
abbrev NCT : List Str := ["totals", "at", "name", "word"]
theorem scCT : FnScope NCT ["totals"] (defScope sCheckTotals) := ⟨rfl, rfl, rfl, by decide +kernel, rfl, by decide +kernel, by decide +kernel⟩
def spCT (K : PySem.W.Frag) : Sp := fun vs H Q _ => ∃ (t : Addr), vs = [.ref t] ∧ SqL K H t [] ∧ ∀ H', Same H H' → Q .non H'
abbrev NCS : List Str := ["sorts", "steps", "left", "leading", "x", "y"]
theorem scCS : FnScope NCS ["sorts", "steps"] (defScope sCheckSteps) := ⟨rfl, rfl, rfl, by decide +kernel, rfl, by decide +kernel, by decide +kernel⟩
/-- the block of the outer comprehension -/
def scCSx : Scope := { kind := .function, names := [(".0", .local), ("x", .cell), ("any", .globalImplicit), ("left", .cell), ("steps", .cell)], isGenerator := false, isCoroutine := false }
def teIn (K : PySem.W.Frag) : TE := tOp (rInD K) (tTup (tCons (tVar 4) (tCons (tVar 5) tNil))) (tVar 1)
def ttAny (K : PySem.W.Frag) : TT := tB (tCB (rAny K) (tCons (tLc (iList K (tVar 2)) (gName 5) tYes (teIn K) [5]) tNil))
theorem shp_pair {x y : Str} (hx : Wd x) (hy : Wd y) : SeqAt.shaped (.tuple [.str x, .str y]) = true :=
  shp_of (by simp [PyData.canLay0, PyData.canLayAll0, hx.lay, hy.lay]) (by simp [PyData.depth, PyData.depthAll])
theorem shp_nil : SeqAt.shaped (.list []) = true := shp_of (by simp [PyData.canLay0, PyData.canLayAll0]) (by simp [PyData.depth, PyData.depthAll])
/-- no step leads on -/
theorem lead_ev {K : PySem.W.Frag} {t L : Addr} {xs : List Str} {v0 v3 : Option V} {G : Hp} {Q : VK} (ht : SqL K G t []) (hL : SqL K G L (xs.map V.str)) (hn : NL xs) (k : ∀ D G', G D = none → Same G G' → G' D = some (.lst []) → Q (.ref D) G') :
    tLc (iList K (tVar 2)) (gName 4) (ttAny K) (tVar 4) [4] [v0, some (.ref t), some (.ref L), v3, none, none] G Q := by
  refine ⟨_, rfl, L, rfl, ⟨_, hL⟩, fun D hD => ?_⟩
  refine lc_list (K := K) (a := L) (xs := xs.map V.str) (fun i G' => G' D = some (.lst []) ∧ Same G G') ⟨upd_same, same_upd hD⟩ (fun i G' _ p => p.2.seq hL) ?_ (fun G' p => k D G' hD p.2 p.1)
  rintro i v G' hi ⟨e, s1⟩
  obtain ⟨x, ex, rfl⟩ := str_at hi
  have hx := hn.w x (List.mem_of_getElem? ex)
  refine ⟨rfl, ?_⟩
  show tB (tCB (rAny K) (tCons (tLc (iList K (tVar 2)) (gName 5) tYes (teIn K) [5]) tNil)) _ _ _
  refine ⟨_, rfl, L, rfl, ⟨_, s1.seq hL⟩, fun D2 hD2 => ?_⟩
  refine lc_list (K := K) (a := L) (xs := xs.map V.str) (fun j G2 => G2 D2 = some (.lst ((List.replicate j false).map V.bl)) ∧ Same G' G2) ⟨upd_same, same_upd hD2⟩ (fun j G2 _ p => p.2.seq (s1.seq hL)) ?_ ?_
  · rintro j v G2 hj ⟨e2, s2⟩
    obtain ⟨y, ey, rfl⟩ := str_at hj
    have hy := hn.w y (List.mem_of_getElem? ey)
    refine ⟨rfl, ?_⟩
    refine ⟨_, rfl, _, rfl, szl (by show 2 ≤ 1000; decide), fun T hT => ?_⟩
    refine ⟨_, rfl, .tuple [.str x, .str y], [], .tup (SqT.of upd_same) (.cons (.str _) (.cons (.str _) .nil)), .lst ((same_upd hT).seq (s2.seq (s1.seq ht))) .nil, shp_pair hx hy, shp_nil, ?_⟩
    refine ⟨_, same_upd hT _ _ e2, ?_, ?_, same_put hD2 (s2.trans (same_upd hT))⟩
    · rw [List.length_map, List.length_replicate]
      have z := (List.getElem?_eq_some_iff.mp ey).1
      have n16 := hn.n
      exact small1000 (by omega)
    · rw [upd_same, List.replicate_succ', List.map_append]
      rfl
  · rintro G2 ⟨e2, s2⟩
    refine ⟨D2, _, rfl, SqL.of e2, false, ?_, ?_⟩
    · rw [show (List.replicate (xs.map V.str).length false).any id = false by simp]
    · exact ⟨s2 _ _ e, s1.trans s2⟩
theorem lead_st {K : PySem.W.Frag} {t L : Addr} {xs : List Str} {v0 v3 : Option V} {G : Hp} {u : TS} {E : Ends} (ht : SqL K G t []) (hL : SqL K G L (xs.map V.str)) (hn : NL xs) (k : ∀ D G', G D = none → Same G G' → G' D = some (.lst []) → u E [v0, some (.ref t), some (.ref L), some (.ref D), none, none] G') :
    tSeq (tAsg (tLc (iList K (tVar 2)) (gName 4) (ttAny K) (tVar 4) (List.map (fun x => x.snd) [(("x" : Str), 4)])) (gName 3)) u E [v0, some (.ref t), some (.ref L), v3, none, none] G :=
  lead_ev (Q := fun v G' => gName 3 v [v0, some (.ref t), some (.ref L), v3, none, none] G' (u E)) ht hL hn k
theorem lead_en {K : PySem.W.Frag} {t L : Addr} {xs : List Str} {v0 v3 : Option V} {G : Hp} {E : Ends} (ht : SqL K G t []) (hL : SqL K G L (xs.map V.str)) (hn : NL xs) (k : ∀ D G', G D = none → Same G G' → G' D = some (.lst []) → E.nx [v0, some (.ref t), some (.ref L), some (.ref D), none, none] G') :
    tAsg (tLc (iList K (tVar 2)) (gName 4) (ttAny K) (tVar 4) (List.map (fun x => x.snd) [(("x" : Str), 4)])) (gName 3) E [v0, some (.ref t), some (.ref L), v3, none, none] G :=
  lead_ev (Q := fun v G' => gName 3 v [v0, some (.ref t), some (.ref L), v3, none, none] G' E.nx) ht hL hn k
def spCS (K : PySem.W.Frag) : Sp := fun vs H Q _ => ∃ (s t : Addr) (xs : List Str), vs = [.ref s, .ref t] ∧ SqL K H s (xs.map V.str) ∧ NL xs ∧ SqL K H t [] ∧ ∀ H', Same H H' → Q .non H'
section
variable {P : Program} {w : World} {K : PySem.W.Frag} {mg : Str → Option Value} {base : Heap} {f : Addr} {fd : FuncData}
theorem ok_ct (F : FnP K "_check_totals" sCheckTotals f fd) (Y : Fx w K mg) : FnOk P w K mg base CX0 1 f fd ["totals"] (spCT K) := by
  refine okD F scCT (fun vs H Q E h => ?_) (fun cdv A outer s H vs Q E hr h => ?_)
  · obtain ⟨t, rfl, _⟩ := h
    rfl
  · have nd := scCT.nd
    refine ⟨_, pss_one (ps_for PassesOwn.never rfl (pi_enumA (by rfl) Y.bEnumerate (pa_cons (pv 0) pa_nil)) (pg_tup rfl (pgs_cons (pg_name (i := 1) nd rfl (Or.inl rfl)) (pgs_cons (pg_tup rfl (pgs_cons (pg_name (i := 2) nd rfl (Or.inl rfl)) (pgs_cons (pg_name (i := 3) nd rfl (Or.inl rfl)) pgs_nil))) pgs_nil)))
      (pss_one (ps_ifN (pw_or (pt_cmpR op_notIn_seq (pv 3) (pe_tup (pa_cons pe_str (pa_cons pe_str pa_nil))) (by rfl)) (pw_or1 (pt_cmpR op_in_seq (pe_tup (pa_cons (pv 2) (pa_cons (pv 3) pa_nil))) (pe_slice sl_list (pv 0) po_none (po_some (pv 1))) (by rfl)))).pt pss_nil))), ?_⟩
    obtain ⟨t, rfl, ht, k⟩ := h
    refine ⟨_, rfl, t, [], rfl, .inl ht, fun J GG wk gk => for_it wk (fun i σ G => Same H G) (Same.refl _) (fun i σ G _ q => gk G q) (fun i v σ G G' hi => absurd hi (Nat.not_lt_zero _)) fun σ G s2 => k G s2⟩
theorem ok_cs (F : FnP K "_check_steps" sCheckSteps f fd) (Y : Fx w K mg) : FnOk P w K mg base CX0 1 f fd ["sorts", "steps"] (spCS K) := by
  refine okD F scCS (fun vs H Q E h => ?_) (fun cdv A outer s H vs Q E hr h => ?_)
  · obtain ⟨a, t, xs, rfl, _⟩ := h
    rfl
  · have nd := scCS.nd
    have hu65 : (A.deeper (envOfC "_check_steps" (defScope sCheckSteps) s.heap.objs.size f cdv)).units + 65 < cLine := by have := hr.un; omega
    have hu64 := hu64_of hr
    refine ⟨_, pss_cons (ps_set (i := 2) nd rfl (Or.inr rfl) (pe_callTy call_list_of (by rfl) Y.bList boot_list (pa_cons (pv 0) pa_nil)))
      (pss_cons (ps_setLc (i := 3) (own := [("x", 4)]) (g := gName 4) (tt := ttAny K) (te := tVar 4) rfl nd rfl rfl (by rfl) (pi_list (pv 2)) (blkOk_by (N := NCS) (sc := defScope sCheckSteps) (by decide +kernel)) (fun _ _ _ _ _ => pg_name (i := 4) nd rfl (Or.inr rfl))
          (fun _ _ _ _ _ => pts_one (pt_val (pe_callB (cr_any rfl) (by rfl) Y.bAny (by decide +kernel) (pa_cons (pe_lc (own := [("y", 5)]) (g := gName 5) (tt := tYes) (te := teIn K) rfl nd (pi_list (pv 2)) (blkOk_by (N := NCS) (sc := scCSx) (by decide +kernel)) (fun _ _ _ _ _ => pg_name (i := 5) nd rfl (Or.inl rfl)) (fun _ _ _ _ _ => pts_nil)
            (fun _ _ _ _ _ => pe_cmpR (op_inD hu65) (pe_tup (pa_cons (pv 4) (pa_cons (pv 5) pa_nil))) (pv 1) (by rfl))) pa_nil))))
          (fun _ _ _ _ _ => pv 4))
      (pss_cons (ps_while PassesOwn.never (pt_cmpR (op_neD hu64) (pv 3) (pv 2) (nomark _))
        (pss_cons (ps_set (i := 2) nd rfl (Or.inr rfl) (pv 3))
        (pss_cons (ps_setLc (i := 3) (own := [("x", 4)]) (g := gName 4) (tt := ttAny K) (te := tVar 4) rfl nd rfl rfl (by rfl) (pi_list (pv 2)) (blkOk_by (N := NCS) (sc := defScope sCheckSteps) (by decide +kernel)) (fun _ _ _ _ _ => pg_name (i := 4) nd rfl (Or.inr rfl))
          (fun _ _ _ _ _ => pts_one (pt_val (pe_callB (cr_any rfl) (by rfl) Y.bAny (by decide +kernel) (pa_cons (pe_lc (own := [("y", 5)]) (g := gName 5) (tt := tYes) (te := teIn K) rfl nd (pi_list (pv 2)) (blkOk_by (N := NCS) (sc := scCSx) (by decide +kernel)) (fun _ _ _ _ _ => pg_name (i := 5) nd rfl (Or.inl rfl)) (fun _ _ _ _ _ => pts_nil)
            (fun _ _ _ _ _ => pe_cmpR (op_inD hu65) (pe_tup (pa_cons (pv 4) (pa_cons (pv 5) pa_nil))) (pv 1) (by rfl))) pa_nil))))
          (fun _ _ _ _ _ => pv 4)) pss_nil)))
      (pss_one (ps_ifN (pt_truth (pv 2) (by intro _; rfl)) pss_nil)))), ?_⟩
    obtain ⟨a, t, xs, rfl, hs, hn, ht, k⟩ := h
    refine ⟨_, rfl, a, _, rfl, .inl hs, fun L hL => ?_⟩
    have s0 := same_upd (o := .lst (xs.map V.str)) hL
    change tSeq _ _ _ _ (upd H L (.lst (xs.map V.str)))
    refine lead_st (xs := xs) (s0.seq ht) (SqL.of upd_same) hn fun D G hD s1 eD => ?_
    have eL : G L = some (.lst (xs.map V.str)) := s1 _ _ upd_same
    replace s1 := s0.trans s1
    change tSeq (tWhile _ _) _ _ _ _
    refine while_by (fun σ G' => ∃ (L D : Addr) (ys : List Str), σ = [some (.ref a), some (.ref t), some (.ref L), some (.ref D), none, none] ∧ G' L = some (.lst (ys.map V.str)) ∧ G' D = some (.lst []) ∧ NL ys ∧ Same H G')
      (fun σ G' => match σ[2]? with
        | some (some (V.ref b)) => (match G' b with
          | some (.lst zs) => zs.length
          | _ => 0)
        | _ => 0) ⟨L, D, xs, rfl, eL, eD, hn, s1⟩ ?_ ?_
    · rintro σ G' ⟨L, D, ys, rfl, hL, hD, hn, sm⟩
      refine ⟨_, rfl, _, rfl, .list [], .list (ys.map PyData.str),   .lst (SqL.of hD) .nil, .lst (SqL.of hL) (dpa_strs ys), shp_nil, shp_lstr hn, ?_⟩
      cases ys with
      | nil =>
        refine ⟨false, by simp [PyData.eqv, PyData.eqvAll], iteF ?_⟩
        exact ⟨_, rfl, false, .inl ⟨_, SqL.of hL, rfl⟩, rfl, k G' sm⟩
      | cons y ys =>
        refine ⟨true, by simp [PyData.eqv, PyData.eqvAll], iteT ?_⟩
        refine ⟨_, rfl, ?_⟩
        change tSeq _ _ _ _ _
        refine lead_st (xs := []) (sm.seq ht) (SqL.of hD) ⟨List.nodup_nil, fun x hx => absurd hx List.not_mem_nil, Nat.zero_le _⟩ fun D2 G2 hD2 s2 e2 => ?_
        refine ⟨⟨D, D2, [], rfl, s2 _ _ hD, e2, ⟨List.nodup_nil, fun x hx => absurd hx List.not_mem_nil, Nat.zero_le _⟩, sm.trans s2⟩, ?_⟩
        show (match G2 D with
          | some (HO.lst zs) => zs.length
          | _ => 0) < (match G' L with
          | some (HO.lst zs) => zs.length
          | _ => 0)
        rw [s2 _ _ hD, hL]
        exact Nat.succ_pos _
    · rintro σ G' Q1 Q2 hq ⟨v, e1, u, e2, d, e, h1, h2, h3, h4, kk, e3, z⟩
      exact ⟨v, e1, u, e2, d, e, h1, h2, h3, h4, kk, e3, hq _ _ z⟩
end
end K43

namespace K43
open PySem PySem.Spec PyProof.Rows L2 Ow
/-- an expression that is never asked -/
def tNo : TE := fun _ _ _ => False
theorem pe_no {X : Cx} {e : Expr} : PE X e tNo := ⟨fun _ _ _ _ _ _ h => h.elim⟩
abbrev FnM (K : PySem.W.Frag) (m q : Str) (st : Stmt) (f : Addr) (fd : FuncData) : Prop := FunD K m q (defArgs st) (defBody st) (defScope st) [] [] f fd
def isIns : HO → Bool
  | .ins _ _ _ => true
  | _ => false
section
variable {K : PySem.W.Frag} {x : Addr} {H H' : Hp}
theorem Keep.one {o : HO} (k : Keep x H H') (hx : ∃ u, H x = some u ∧ isIns u = true) {b : Addr} (e : H b = some o) (n : isIns o = false) : H' b = some o := by
  refine k b o (fun z => ?_) e
  obtain ⟨u, hu, iu⟩ := hx
  subst z
  rw [hu] at e
  cases e
  rw [iu] at n
  cases n
theorem Keep.sqt {a : Addr} {xs : List V} (k : Keep x H H') (hx : ∃ u, H x = some u ∧ isIns u = true) (h : SqT K H a xs) : SqT K H' a xs :=
  h.elim (fun h => .inl (h.elim (fun h => .inl (k.one hx h rfl)) fun ⟨o, h⟩ => .inr ⟨o, k.one hx h rfl⟩)) fun h => .inr h
theorem Keep.sql {a : Addr} {xs : List V} (k : Keep x H H') (hx : ∃ u, H x = some u ∧ isIns u = true) (h : SqL K H a xs) : SqL K H' a xs :=
  h.elim (fun h => .inl (h.elim (fun h => .inl (k.one hx h rfl)) fun ⟨o, h⟩ => .inr ⟨o, k.one hx h rfl⟩)) fun h => .inr h
theorem Keep.tups {l : Addr} {vss : List (List V)} (k : Keep x H H') (hx : ∃ u, H x = some u ∧ isIns u = true) (h : TupsAt K H l vss) : TupsAt K H' l vss := by
  obtain ⟨as, q, e, g⟩ := h
  refine ⟨as, k.sql hx q, e, fun i t z => ?_⟩
  obtain ⟨vs, e1, e2⟩ := g i t z
  exact ⟨vs, e1, k.sqt hx e2⟩
end
abbrev NFI : List Str := ["self", "sorts", "letters", "totals", "kept_totals", "ends", "letter", "name", "word", "first", "second", "total"]
theorem scFI : FnScope NFI ["self", "sorts", "letters", "totals"] (defScope sFrame_Init) := ⟨rfl, rfl, rfl, by decide +kernel, rfl, by decide +kernel, by decide +kernel⟩
/-- a frame's parts without totals -/
structure FrOk (xs : List Str) (ls : List Lt) : Prop where
  nx : NL xs
  nl : NL (ls.map (·.1))
  ends : ∀ q ∈ ls, q.2.1 ∈ xs ∧ q.2.2 ∈ xs
def spFI (K : PySem.W.Frag) : Sp := fun vs H Q _ => ∃ (x s l t dx : Addr) (xs : List Str) (ls : List Lt), vs = [.ref x, .ref s, .ref l, .ref t] ∧ H x = some (.ins (CFrame K) dx []) ∧ SqL K H s (xs.map V.str) ∧ TupsAt K H l (ls.map ltV) ∧ SqL K H t [] ∧ FrOk xs ls ∧
  ∀ H', Keep x H H' → Q .non H'
theorem lt_at {ls : List Lt} {i : Nat} {vs : List V} (e1 : (ls.map ltV)[i]? = some vs) : ∃ lt, ls[i]? = some lt ∧ vs = ltV lt := by
  rw [List.getElem?_map] at e1
  cases e : ls[i]? with
  | none => rw [e] at e1; cases e1
  | some z => rw [e] at e1; exact ⟨z, rfl, (Option.some.inj e1).symm⟩
section
variable {P : Program} {w : World} {K : PySem.W.Frag} {mg : Str → Option Value} {base : Heap} {f : Addr} {fd : FuncData}
theorem ok_fi (F : FnM K "__init__" "Frame.__init__" sFrame_Init f fd) (Y : Fx w K mg) : FnOk P w K mg base CX0 3 f fd ["self", "sorts", "letters", "totals"] (spFI K) := by
  obtain ⟨d1, F1⟩ := Y.dCheckNames
  obtain ⟨d2, F2⟩ := Y.dCheckEnds
  obtain ⟨d3, F3⟩ := Y.dCheckTotals
  obtain ⟨d4, F4⟩ := Y.dCheckSteps
  have b1 := FunD.bindsN (ps := ["lists"]) F1 fun _ _ _ _ _ _ us hl => match us, hl with | [_], _ => rfl
  have b2 := FunD.bindsN (ps := ["sorts", "letters", "totals"]) F2 fun _ _ _ _ _ _ us hl => match us, hl with | [_, _, _], _ => rfl
  have b3 := FunD.bindsN (ps := ["totals"]) F3 fun _ _ _ _ _ _ us hl => match us, hl with | [_], _ => rfl
  have b4 := FunD.bindsN (ps := ["sorts", "steps"]) F4 fun _ _ _ _ _ _ us hl => match us, hl with | [_, _], _ => rfl
  have G1 : FnOk P w K mg base CX0 2 _ d1 ["lists"] (spCheck K) := ok_check F1 Y
  have G2 : FnOk P w K mg base CX0 1 _ d2 ["sorts", "letters", "totals"] (spCE K) := ok_ce F2 Y
  have G3 : FnOk P w K mg base CX0 1 _ d3 ["totals"] (spCT K) := ok_ct F3 Y
  have G4 : FnOk P w K mg base CX0 1 _ d4 ["sorts", "steps"] (spCS K) := ok_cs F4 Y
  refine okD F scFI (fun vs H Q E h => ?_) (fun cdv A outer s H vs Q E hr h => ?_)
  · obtain ⟨x, a, l, t, dx, xs, ls, rfl, _⟩ := h
    rfl
  · have nd := scFI.nd
    have hr1 : Room 1 _ := hr.mono (by decide)
    refine ⟨_, pss_cons (ps_expr (pe_call G1 hr (by rfl) Y.gCheckNames F1.kp b1 .nil pass0 (pa_cons (pe_lst (pa_cons (pv 1) (pa_cons
          (pe_lc (own := [("letter", 6)]) (g := gName 6) (tt := tYes) (te := tOp (rIxT K) (tVar 6) (tC (.int 0))) rfl nd (pi_list (pv 2)) (blkOk_by (N := NFI) (sc := defScope sFrame_Init) (by decide +kernel)) (fun _ _ _ _ _ => pg_name (i := 6) nd rfl (Or.inl rfl)) (fun _ _ _ _ _ => pts_nil) (fun _ _ _ _ _ => pe_ix ix_tup (pv 6) pe_int (fun _ _ => rfl))) pa_nil))) pa_nil)))
      (pss_cons (ps_expr (pe_call G2 hr1 (by rfl) Y.gCheckEnds F2.kp b2 .nil pass0 (pa_cons (pv 1) (pa_cons (pv 2) (pa_cons (pv 3) pa_nil)))))
      (pss_cons (ps_setLc (i := 4) (own := [("name", 7), ("word", 8)]) (g := gTup K 2 (gCons (gName 7) (gCons (gName 8) gNil))) (tt := tYes) (te := tNo) rfl nd rfl rfl (by rfl) (pi_list (pv 3)) (blkOk_by (N := NFI) (sc := defScope sFrame_Init) (by decide +kernel)) (fun _ _ _ _ _ => pg_tup rfl (pgs_cons (pg_name (i := 7) nd rfl (Or.inl rfl)) (pgs_cons (pg_name (i := 8) nd rfl (Or.inl rfl)) pgs_nil))) (fun _ _ _ _ _ => pts_nil) (fun _ _ _ _ _ => pe_no))
      (pss_cons (ps_expr (pe_call G3 hr1 (by rfl) Y.gCheckTotals F3.kp b3 .nil pass0 (pa_cons (pv 4) pa_nil)))
      (pss_cons (ps_set (i := 5) nd rfl (Or.inr rfl) (pe_dc (own := [("name", 7), ("first", 9), ("second", 10)]) (g := gTup K 3 (gCons (gName 7) (gCons (gName 9) (gCons (gName 10) gNil)))) (tt := tYes) (tk := tVar 7) (tv := tTup (tCons (tVar 9) (tCons (tVar 10) tNil))) rfl nd (pi_list (pv 2)) (blkOk_by (N := NFI) (sc := defScope sFrame_Init) (by decide +kernel))
          (fun _ _ _ _ _ => pg_tup rfl (pgs_cons (pg_name (i := 7) nd rfl (Or.inl rfl)) (pgs_cons (pg_name (i := 9) nd rfl (Or.inl rfl)) (pgs_cons (pg_name (i := 10) nd rfl (Or.inl rfl)) pgs_nil)))) (fun _ _ _ _ _ => pts_nil) (fun _ _ _ _ _ => pv 7) (fun _ _ _ _ _ => pe_tup (pa_cons (pv 9) (pa_cons (pv 10) pa_nil)))))
      (pss_cons (ps_expr (pe_call G4 hr1 (by rfl) Y.gCheckSteps F4.kp b4 .nil pass0 (pa_cons (pv 1) (pa_cons
          (pe_lc (own := [("total", 11)]) (g := gName 11) (tt := tYes) (te := tNo) rfl nd (pi_list (pv 4)) (blkOk_by (N := NFI) (sc := defScope sFrame_Init) (by decide +kernel)) (fun _ _ _ _ _ => pg_name (i := 11) nd rfl (Or.inl rfl)) (fun _ _ _ _ _ => pts_nil) (fun _ _ _ _ _ => pe_no)) pa_nil))))
      (pss_cons (ps_fld (pv 0) (pe_callTy call_tuple_of (by rfl) Y.bTuple (by decide +kernel) (pa_cons (pv 1) pa_nil)) rfl)
      (pss_cons (ps_fld (pv 0) (pe_callTy call_tuple_of (by rfl) Y.bTuple (by decide +kernel) (pa_cons
          (pe_lc (own := [("name", 7), ("first", 9), ("second", 10)]) (g := gTup K 3 (gCons (gName 7) (gCons (gName 9) (gCons (gName 10) gNil)))) (tt := tYes) (te := tTup (tCons (tVar 7) (tCons (tVar 9) (tCons (tVar 10) tNil)))) rfl nd (pi_list (pv 2)) (blkOk_by (N := NFI) (sc := defScope sFrame_Init) (by decide +kernel))
            (fun _ _ _ _ _ => pg_tup rfl (pgs_cons (pg_name (i := 7) nd rfl (Or.inl rfl)) (pgs_cons (pg_name (i := 9) nd rfl (Or.inl rfl)) (pgs_cons (pg_name (i := 10) nd rfl (Or.inl rfl)) pgs_nil)))) (fun _ _ _ _ _ => pts_nil) (fun _ _ _ _ _ => pe_tup (pa_cons (pv 7) (pa_cons (pv 9) (pa_cons (pv 10) pa_nil))))) pa_nil)) rfl)
      (pss_cons (ps_fld (pv 0) (pe_callTy call_tuple_of (by rfl) Y.bTuple (by decide +kernel) (pa_cons (pv 4) pa_nil)) rfl)
      (pss_one (ps_fld (pv 0) (pv 5) rfl)))))))))), ?_⟩
    obtain ⟨x, a, l, t, dx, xs, ls, rfl, hx, hs, hl, ht, ok, k⟩ := h
    obtain ⟨as, q, la, g⟩ := id hl
    rw [List.length_map] at la
    have hx0 : ∃ u, H x = some u ∧ isIns u = true := ⟨_, hx, rfl⟩
    have n16 : ls.length ≤ 16 := by have := ok.nl.n; rw [List.length_map] at this; exact this
    refine ⟨_, rfl, _, rfl, l, rfl, ⟨_, q⟩, fun D hD => ?_⟩
    refine lc_list (K := K) (a := l) (xs := as.map V.ref) (fun i G => G D = some (.lst (((ls.take i).map (·.1)).map V.str)) ∧ Same H G) ⟨upd_same, same_upd hD⟩ (fun i G _ p => p.2.seq q) ?_ ?_
    · rintro i v G hi ⟨e, s2⟩
      obtain ⟨b, eb, rfl⟩ := ref_at hi
      obtain ⟨vs, e1, hT⟩ := g i b eb
      obtain ⟨lt, e2, rfl⟩ := lt_at e1
      have li : i < ls.length := (List.getElem?_eq_some_iff.mp e2).1
      refine ⟨rfl, _, rfl, b, _, 0, _, rfl, rfl, sqt_same s2 hT, rfl, _, e, ?_, ?_, same_put hD s2⟩
      · rw [List.length_map, List.length_map, List.length_take]
        exact small1000 (by omega)
      · rw [upd_same, List.take_add_one, e2]
        simp [ltV]
    rintro G0 ⟨eD, s0⟩
    rw [List.length_map, la, List.take_length] at eD
    refine ⟨szl (by show 2 ≤ 1000; decide), fun p hp => ?_⟩
    have sp := s0.trans (same_upd (o := .lst [V.ref a, V.ref D]) hp)
    refine ⟨p, .ref a, .ref D, xs, ls.map (·.1), rfl, SqL.of upd_same, ⟨a, rfl, .inl (sp.seq hs), ok.nx⟩, ⟨D, rfl, .inl (SqL.of (same_upd hp _ _ eD)), ok.nl⟩, fun H1 s1 => ?_⟩
    replace s1 := sp.trans s1
    clear sp hp eD s0 hD
    refine ⟨_, rfl, _, rfl, _, rfl, a, l, t, xs, ls, rfl, s1.seq hs, hl.same s1, ok.ends, n16, s1.seq ht, fun H2 s2 => ?_⟩
    replace s2 := s1.trans s2
    clear s1
    refine ⟨_, rfl, t, rfl, ⟨_, s2.seq ht⟩, fun T hT => ?_⟩
    refine lc_list (K := K) (a := t) (xs := []) (fun i G => G T = some (.lst []) ∧ Same H2 G) ⟨upd_same, same_upd hT⟩ (fun i G _ p => (s2.trans p.2).seq ht) (fun i v G hi => nomatch hi) ?_
    rintro H3 ⟨eT, s3⟩
    replace s3 := s2.trans s3
    clear s2 hT
    refine ⟨_, rfl, T, rfl, SqL.of eT, fun H4 s4 => ?_⟩
    have eT := s4 _ _ eT
    replace s4 := s3.trans s4
    clear s3
    refine ⟨_, rfl, l, rfl, ⟨_, s4.seq q⟩, fun N hN => ?_⟩
    refine dc_it (walk_list (K := K) (a := l) (xs := as.map V.ref)) (fun i G => (∃ kvs : List (Key × V), G N = some (.dK kvs) ∧ kvs.length ≤ i) ∧ Same H4 G) ⟨⟨[], upd_same, Nat.le_refl _⟩, same_upd hN⟩ (fun i G _ p => (s4.trans p.2).seq q) ?_ ?_
    · rintro i v G G' hi ⟨⟨kvs, e, lk⟩, s5⟩ ⟨rfl, ev⟩
      obtain ⟨b, eb, rfl⟩ := ref_at ev
      obtain ⟨vs, e1, hT⟩ := g i b eb
      obtain ⟨lt, e2, rfl⟩ := lt_at e1
      have li : i < ls.length := (List.getElem?_eq_some_iff.mp e2).1
      refine ⟨b, _, rfl, sqt_same (s4.trans s5) hT, rfl, _, _, rfl, _, _, rfl, _, _, rfl, rfl, rfl, _, rfl, _, rfl, _, rfl, szl (by show 2 ≤ 1000; decide), fun T2 hT2 => ?_⟩
      refine ⟨kvs, .inr lt.1, rfl, same_upd hT2 _ _ e, small1000 (by omega), ⟨putK kvs (.inr lt.1) (.ref T2), upd_same, ?_⟩, same_put hN (s5.trans (same_upd hT2))⟩
      exact Nat.le_trans (length_putK _ _ _) (by omega)
    rintro H5 ⟨⟨kvs, eN, _⟩, s5⟩
    have eT := s5 _ _ eT
    replace s5 := s4.trans s5
    clear s4 hN
    refine ⟨_, rfl, _, rfl, T, rfl, ⟨_, SqL.of eT⟩, fun U hU => ?_⟩
    refine lc_list (K := K) (a := T) (xs := []) (fun i G => G U = some (.lst []) ∧ Same H5 G) ⟨upd_same, same_upd hU⟩ (fun i G _ p => SqL.of (p.2 _ _ eT)) (fun i v G hi => nomatch hi) ?_
    rintro H6 ⟨eU, s6⟩
    refine ⟨a, U, xs, rfl, (s5.trans s6).seq hs, ok.nx, SqL.of eU, fun H7 s7 => ?_⟩
    have eT := s7 _ _ (s6 _ _ eT)
    have eN := s7 _ _ (s6 _ _ eN)
    replace s7 := s5.trans (s6.trans s7)
    clear s5 s6 hU eU
    -- the fields
    have x1 := s7 _ _ hx
    have hs1 := s7.seq hs
    have hl1 := hl.same s7
    have k1 : Keep x H H7 := .of s7
    clear s7
    refine ⟨_, rfl, a, _, rfl, .inl ⟨hs1, fun p hp => ⟨_, rfl, x, CFrame K, dx, _, rfl, (upd_ne (ne_of_none x1 hp)).trans x1, Y.cFrame, Y.nFrameSorts, (by show 0 < 1000; decide), ?_⟩⟩⟩
    have kk : Keep x H7 (upd (upd H7 p (.tup (xs.map V.str))) x (.ins (CFrame K) dx [("_sorts", .ref p)])) := (Keep.of (same_upd hp)).trans .put
    replace hl1 := kk.tups ⟨_, x1, rfl⟩ hl1
    replace eT := kk.one ⟨_, x1, rfl⟩ eT rfl
    replace eN := kk.one ⟨_, x1, rfl⟩ eN rfl
    replace k1 := k1.trans kk
    replace x1 : upd (upd H7 p (.tup (xs.map V.str))) x (.ins (CFrame K) dx [("_sorts", .ref p)]) x = some (.ins (CFrame K) dx [("_sorts", .ref p)]) := upd_same
    obtain ⟨G1, e1⟩ : ∃ Z, Z = upd (upd H7 p (.tup (xs.map V.str))) x (.ins (CFrame K) dx [("_sorts", .ref p)]) := ⟨_, rfl⟩
    change tSeq _ _ _ _ (upd (upd H7 p (.tup (xs.map V.str))) x (.ins (CFrame K) dx [("_sorts", .ref p)]))
    rw [← e1] at hl1 eT eN k1 x1 ⊢
    clear kk e1 hs1 hp
    obtain ⟨as2, q2, la2, g2⟩ := hl1
    rw [List.length_map] at la2
    refine ⟨_, rfl, l, rfl, ⟨_, q2⟩, fun D hD => ?_⟩
    refine lc_list (K := K) (a := l) (xs := as2.map V.ref) (fun i G => (∃ us : List V, G D = some (.lst us) ∧ us.length = i) ∧ Same G1 G) ⟨⟨[], upd_same, rfl⟩, same_upd hD⟩ (fun i G _ p => p.2.seq q2) ?_ ?_
    · rintro i v G hi ⟨⟨us, e, lu⟩, s2⟩
      obtain ⟨b, eb, rfl⟩ := ref_at hi
      obtain ⟨vs, e1, hT⟩ := g2 i b eb
      obtain ⟨lt, e2, rfl⟩ := lt_at e1
      have li : i < ls.length := (List.getElem?_eq_some_iff.mp e2).1
      refine ⟨b, _, rfl, sqt_same s2 hT, rfl, _, _, rfl, _, _, rfl, _, _, rfl, rfl, rfl, ?_⟩
      refine ⟨_, rfl, _, rfl, _, rfl, szl (by show 3 ≤ 1000; decide), fun T2 hT2 => ?_⟩
      refine ⟨us, same_upd hT2 _ _ e, small1000 (by omega), ⟨us ++ [.ref T2], upd_same, by rw [List.length_append, lu]; rfl⟩, same_put hD (s2.trans (same_upd hT2))⟩
    rintro G2 ⟨⟨us, eD, _⟩, s2⟩
    replace x1 := s2 _ _ x1
    replace eT := s2 _ _ eT
    replace eN := s2 _ _ eN
    replace k1 := k1.trans (Keep.of s2)
    clear s2 hD q2 g2 la2
    refine ⟨D, us, rfl, .inl ⟨SqL.of eD, fun p2 hp => ⟨_, rfl, x, CFrame K, dx, _, rfl, (upd_ne (ne_of_none x1 hp)).trans x1, Y.cFrame, Y.nFrameLetters, (by show 1 < 1000; decide), ?_⟩⟩⟩
    have kk : Keep x G2 (upd (upd G2 p2 (.tup us)) x (.ins (CFrame K) dx [("_sorts", .ref p), ("_letters", .ref p2)])) := (Keep.of (same_upd hp)).trans .put
    replace eT := kk.one ⟨_, x1, rfl⟩ eT rfl
    replace k1 := k1.trans kk
    replace x1 : upd (upd G2 p2 (.tup us)) x (.ins (CFrame K) dx [("_sorts", .ref p), ("_letters", .ref p2)]) x = some (.ins (CFrame K) dx [("_sorts", .ref p), ("_letters", .ref p2)]) := upd_same
    obtain ⟨G3, e1⟩ : ∃ Z, Z = upd (upd G2 p2 (.tup us)) x (.ins (CFrame K) dx [("_sorts", .ref p), ("_letters", .ref p2)]) := ⟨_, rfl⟩
    change tSeq _ _ _ _ (upd (upd G2 p2 (.tup us)) x (.ins (CFrame K) dx [("_sorts", .ref p), ("_letters", .ref p2)]))
    rw [← e1] at eT k1 x1 ⊢
    clear kk e1 hp
    refine ⟨_, rfl, T, _, rfl, .inl ⟨SqL.of eT, fun p3 hp => ⟨_, rfl, x, CFrame K, dx, _, rfl, (upd_ne (ne_of_none x1 hp)).trans x1, Y.cFrame, Y.nFrameTotals, (by show 2 < 1000; decide), ?_⟩⟩⟩
    refine ⟨_, rfl, _, rfl, x, CFrame K, dx, _, rfl, upd_same, Y.cFrame, Y.nFrameEnds, (by show 3 < 1000; decide), ?_⟩
    exact k _ ((k1.trans ((Keep.of (same_upd hp)).trans .put)).trans .put)
end
end K43

namespace K43
open PySem PySem.Spec PyProof.Rows L2 Ow
def hid (d c : Addr) (H : Hp) : Hp := fun b => if b = d ∨ b = c then none else H b
theorem hid_pick {d c : Addr} {H H' : Hp} (k : ∀ b, b ≠ d → b ≠ c → H' b = H b) : hid d c H' = hid d c H := by
  funext b
  unfold hid
  by_cases h : b = d ∨ b = c
  · rw [if_pos h, if_pos h]
  · rw [if_neg h, if_neg h, k b (fun z => h (.inl z)) fun z => h (.inr z)]
theorem hid_at {d c b : Addr} {H : Hp} (h1 : b ≠ d) (h2 : b ≠ c) : hid d c H b = H b := if_neg fun h => h.elim h1 h2
theorem hid_same {d c : Addr} {H H' : Hp} (s : Same H H') : Same (hid d c H) (hid d c H') := fun b o e => by
  unfold hid at e ⊢
  by_cases h : b = d ∨ b = c
  · rw [if_pos h] at e; cases e
  · rw [if_neg h] at e ⊢; exact s b o e
theorem hid_sub {d c : Addr} {H : Hp} : Same (hid d c H) H := fun b o e => by
  unfold hid at e
  by_cases h : b = d ∨ b = c
  · rw [if_pos h] at e; cases e
  · rw [if_neg h] at e; exact e
theorem src_same {d c : Addr} {H H' : Hp} (s : Same H H') (h : SrcAt H d c) : SrcAt H' d c := let ⟨xs, l, m, t, h1, h2, h3⟩ := h; ⟨xs, l, m, t, s _ _ h1, h2, s _ _ h3⟩
theorem src_ne {d c b : Addr} {H : Hp} (h : SrcAt H d c) (n : H b = none) : b ≠ d ∧ b ≠ c := let ⟨_, _, _, _, h1, _, h3⟩ := h; ⟨(ne_of_none h3 n).symm, (ne_of_none h1 n).symm⟩

theorem src_put {d c L : Addr} {H : Hp} {o : HO} (n1 : L ≠ d) (n2 : L ≠ c) (h : SrcAt H d c) : SrcAt (upd H L o) d c := by
  obtain ⟨xs, l, m, t, h1, h2, h3⟩ := h
  exact ⟨xs, l, m, t, (upd_ne n2.symm).trans h1, h2, (upd_ne n1.symm).trans h3⟩
theorem hid_put {d c L : Addr} {H G : Hp} {o : HO} (hL : H L = none) (s : Same (hid d c H) (hid d c G)) : Same (hid d c H) (hid d c (upd G L o)) := fun b u e => by
  have nb : b ≠ L := ne_of_none (hid_sub b u e) hL
  have z := s b u e
  unfold hid at z ⊢
  by_cases q : b = d ∨ b = c
  · rw [if_pos q] at z
    cases z
  · rw [if_neg q] at z ⊢
    exact (upd_ne nb).trans z
/-! ### names -/
def tail2 (v : Nat) : Str := Txt.slice (toString (100 + (v : Int))) (some 1) none
def nameOf (c v : Nat) : Str := (⟨#[c]⟩ : Str) ++ tail2 v
def okT (v : Nat) : Bool := decide ((tail2 v).cps.size = 2) && (tail2 v).cps.toList.all fun c => decide (c ∈ SG.cps.toList)
def val2 (t : Str) : Nat := (t.cps.getD 0 0 - 48) * 10 + (t.cps.getD 1 0 - 48)
theorem tails : ((List.range 100).all fun v => okT v && decide (val2 (tail2 v) = v)) = true := by decide +kernel
theorem tlens : ((List.range 100).all fun v => decide ((PySem.Str.ofString (toString (100 + (v : Int)))).length ≤ 10)) = true := by decide +kernel
theorem tailz : ((List.range 100).all fun v => decide ((tail2 v).cps.toList ≠ [122, 122])) = true := by decide +kernel
theorem lt_sg : ∀ c ∈ LT.cps.toList, c ∈ SG.cps.toList := by decide +kernel
theorem tail_ok {v : Nat} (h : v < 100) : (tail2 v).cps.size = 2 ∧ (∀ c ∈ (tail2 v).cps.toList, c ∈ SG.cps.toList) ∧ val2 (tail2 v) = v := by
  have z := List.all_eq_true.mp tails v (List.mem_range.mpr h)
  obtain ⟨z1, z2⟩ := an z
  obtain ⟨z3, z4⟩ := an z1
  exact ⟨of_decide_eq_true z3, fun c hc => of_decide_eq_true (List.all_eq_true.mp z4 c hc), of_decide_eq_true z2⟩
theorem name_cps (c v : Nat) : (nameOf c v).cps = #[c] ++ (tail2 v).cps := rfl
theorem name_wd {c v : Nat} (hc : c ∈ LT.cps.toList) (hv : v < 100) : Wd (nameOf c v) := by
  obtain ⟨t1, t2, _⟩ := tail_ok hv
  have sz : (nameOf c v).cps.size = 3 := by rw [name_cps, Array.size_append, t1]; rfl
  refine ⟨by show 1 ≤ (nameOf c v).cps.size; omega, by show (nameOf c v).cps.size ≤ 12; omega, fun x hx => ?_, fun i x hx => ?_, fun e => ?_⟩
  · rw [name_cps, Array.getElem?_append_left (by show 0 < 1; decide)] at hx
    have e : c = x := by simpa using hx
    rw [← e]
    exact hc
  · rw [name_cps] at hx
    by_cases l : i < 1
    · have i0 : i = 0 := by omega
      subst i0
      rw [Array.getElem?_append_left (by show 0 < 1; decide)] at hx
      have e : c = x := by simpa using hx
      rw [← e]
      exact lt_sg c hc
    · rw [Array.getElem?_append_right (by show 1 ≤ i; omega)] at hx
      exact t2 x (by rw [← Array.getElem?_toList] at hx; exact List.mem_of_getElem? hx)
  · have e1 := congrArg (fun z : Str => z.cps.toList) e
    simp only [name_cps, Array.toList_append] at e1
    have e2 : (tail2 v).cps.toList = [122, 122] := (List.cons.inj (show c :: (tail2 v).cps.toList = 122 :: [122, 122] from e1)).2
    exact of_decide_eq_true (List.all_eq_true.mp tailz v (List.mem_range.mpr hv)) e2
theorem name_inj {c c' v v' : Nat} (hv : v < 100) (hv' : v' < 100) (h : nameOf c v = nameOf c' v') : v = v' := by
  have e := congrArg (fun z : Str => z.cps.toList) h
  simp only [name_cps, Array.toList_append] at e
  have e2 : (tail2 v).cps.toList = (tail2 v').cps.toList := (List.cons.inj e).2
  have e3 : tail2 v = tail2 v' := by
    cases h1 : tail2 v with
    | mk a =>
      cases h2 : tail2 v' with
      | mk b =>
        rw [h1, h2] at e2
        exact congrArg Str.mk (Array.toList_inj.mp e2)
  rw [← (tail_ok hv).2.2, ← (tail_ok hv').2.2, e3]
abbrev NNm : List Str := ["_law_source_here", "_law_many", "_law_shift", "_law_names_here", "_law_k", "_law_letter"]
theorem scNm : FnScope NNm ["_law_source_here", "_law_many"] (defScope sLawNames) := ⟨rfl, rfl, rfl, by decide +kernel, rfl, by decide +kernel, by decide +kernel⟩
def spNm (K : PySem.W.Frag) : Sp := fun vs H Q _ => ∃ (d c : Addr) (n : Nat), vs = [.ref d, .int (n : Int)] ∧ SrcAt H d c ∧ n ≤ 16 ∧
  ∀ (l : Addr) (ns : List Str) (H' : Hp), SrcAt H' d c → Same (hid d c H) (hid d c H') → NL ns → ns.length = n → SqL K (hid d c H') l (ns.map V.str) → Q (.ref l) H'
section
variable {P : Program} {w : World} {K : PySem.W.Frag} {mg : Str → Option Value} {base : Heap} {f : Addr} {fd : FuncData}
theorem ok_nm (F : FnP K "_law_names" sLawNames f fd) (Y : Fx w K mg) : FnOk P w K mg base CX0 2 f fd ["_law_source_here", "_law_many"] (spNm K) := by
  obtain ⟨d1, F1⟩ := Y.dLawPick
  have b1 := FunD.bindsN (ps := ["_law_source_here", "_law_many"]) F1 fun _ _ _ _ _ _ us hl => match us, hl with | [_, _], _ => rfl
  have G1 : FnOk P w K mg base CX0 1 _ d1 ["_law_source_here", "_law_many"] spPick := ok_pick F1 Y.bl
  refine okD F scNm (fun vs H Q E h => ?_) (fun cdv A outer s H vs Q E hr h => ?_)
  · obtain ⟨d, c, n, rfl, _⟩ := h
    rfl
  · have nd := scNm.nd
    have B := Y.bl
    refine ⟨_, pss_cons (ps_set (i := 2) nd rfl (Or.inl rfl) (pe_call G1 hr (by rfl) Y.gLawPick F1.kp b1 .nil pass0 (pa_cons (pv 0) (pa_cons pe_int pa_nil))))
      (pss_cons (ps_set (i := 3) nd rfl (Or.inl rfl) (pe_lst pa_nil))
      (pss_cons (ps_for PassesOwn.never rfl (pi_range1 (by rfl) B.range (pa_cons (pv 1) pa_nil)) (pg_name (i := 4) nd rfl (Or.inl rfl))
        (pss_cons (ps_set (i := 5) nd rfl (Or.inl rfl) (pe_ix ix_str pe_str (pe_call G1 hr (by rfl) Y.gLawPick F1.kp b1 .nil pass0 (pa_cons (pv 0) (pa_cons pe_int pa_nil))) (fun _ _ => rfl)))
        (pss_one (ps_expr (pe_bm PySem.F.plainAttrs_list PySem.F.slot_list_append PySem.F.type_list_append mt_append (pv 3) (pa_cons (pe_op op_add_str (pv 5)
          (pe_slice C8.sl_txt (pe_callTy call_str_int (by rfl) B.str (by decide +kernel) (pa_cons (pe_op op_add pe_int (pe_op op_mod (pe_callTy call_int1 (by rfl) B.int boot_int (pa_cons (pe_op op_add (pv 2) (pe_op op_mul pe_int (pv 4))) pa_nil)) pe_int)) pa_nil)) (po_some pe_int) po_none)) pa_nil))))))
      (pss_one (ps_ret (pv 3))))), ?_⟩
    obtain ⟨d, c, n, rfl, src, hn, k⟩ := h
    refine ⟨_, rfl, d, c, 100, rfl, src, by decide, by decide, fun r H1 r0 r1 src1 keep1 => ?_⟩
    obtain ⟨sh, rfl⟩ : ∃ sh : Nat, r = (sh : Int) := ⟨r.toNat, by omega⟩
    refine ⟨szl (by show 0 ≤ 1000; decide), fun L hL => ?_⟩
    obtain ⟨n1, n2⟩ := src_ne src1 hL
    refine ⟨_, rfl, _, rfl, by omega, by omega, ?_⟩
    have s1 : hid d c H1 = hid d c H := hid_pick keep1
    have src2 := src_same (same_upd (o := .lst []) hL) src1
    have sm2 : Same (hid d c H) (hid d c (upd H1 L (.lst []))) := by rw [← s1]; exact hid_same (same_upd hL)
    rw [Int.toNat_natCast]
    refine for_range (lo := 0) (n := n) (fun i σ G => (∃ v4 v5, σ = [some (.ref d), some (.int (n : Int)), some (.int (sh : Int)), some (.ref L), v4, v5]) ∧ SrcAt G d c ∧ Same (hid d c H) (hid d c G) ∧
      ∃ ns : List Str, G L = some (.lst (ns.map V.str)) ∧ ns.length = i ∧ ∀ j x, ns[j]? = some x → ∃ l ∈ LT.cps.toList, x = nameOf l ((sh + 37 * j) % 100)) ⟨⟨_, _, rfl⟩, src2, sm2, [], upd_same, rfl, fun j x e => by simp at e⟩ ?_ ?_
    · rintro i σ G hi ⟨⟨v4, v5, rfl⟩, src, sm, ns, e1, ln, hns⟩
      refine ⟨_, rfl, d, c, 26, rfl, src, by decide, by decide, fun r H2 r0 r1 src3 keep3 => ?_⟩
      obtain ⟨q, rfl⟩ : ∃ q : Nat, r = (q : Int) := ⟨r.toNat, by omega⟩
      have q26 : q < LT.cps.toList.length := by show q < 26; omega
      have e2 : H2 L = some (.lst (ns.map V.str)) := (keep3 L n1 n2).trans e1
      refine ⟨_, _, LT.cps.toList[q], rfl, rfl, by decide, atI_nat (List.getElem?_eq_getElem q26), ?_⟩
      refine ⟨_, rfl, .inl ⟨rfl, _, SqL.of e2⟩, ?_⟩
      have v1 : (sh + 37 * i) % 100 < 100 := Nat.mod_lt _ (by decide)
      have ev : (100 : Int) + ((sh : Int) + 37 * (0 + (i : Int))) % 100 = 100 + (((sh + 37 * i) % 100 : Nat) : Int) := by omega
      have t1 : ((100 : Int) + ((sh : Int) + 37 * (0 + (i : Int))) % 100).natAbs.log2 < 1920 := by
        rw [ev, Nat.log2_lt (by omega)]
        exact Nat.lt_of_lt_of_le (show (100 + (((sh + 37 * i) % 100 : Nat) : Int)).natAbs < 256 by omega) (by decide)
      have t2 : (PySem.Str.ofString (toString ((100 : Int) + ((sh : Int) + 37 * (0 + (i : Int))) % 100))).length ≤ sizeLine := by
        rw [ev]
        exact Nat.le_trans (of_decide_eq_true (List.all_eq_true.mp tlens _ (List.mem_range.mpr v1))) (by decide)
      have t3 : Txt.slice (PySem.Str.ofString (toString ((100 : Int) + ((sh : Int) + 37 * (0 + (i : Int))) % 100))) (some 1) none = tail2 ((sh + 37 * i) % 100) := by
        rw [ev]
        rfl
      have t4 : (⟨#[LT.cps.toList[q]]⟩ : Str).length + (Txt.slice (PySem.Str.ofString (toString ((100 : Int) + ((sh : Int) + 37 * (0 + (i : Int))) % 100))) (some 1) none).length ≤ sizeLine := by
        rw [t3]
        show 1 + (tail2 ((sh + 37 * i) % 100)).cps.size ≤ sizeLine
        rw [(tail_ok v1).1]
        decide
      refine ⟨_, rfl, _, rfl, _, rfl, _, _, rfl, rfl, .inl ⟨by decide, by decide⟩, _, _, rfl, rfl, .inl ⟨_, rfl, _, _, rfl, rfl, (show (0 : Int) < 100 by decide), _, _, rfl, rfl, _, rfl, t1, 1, rfl, _, rfl, t2, _, _, rfl, rfl, t4, ?_⟩⟩
      refine ⟨L, _, _, rfl, rfl, e2, ?_, ⟨_, _, rfl⟩, ?_, ?_, ns ++ [nameOf LT.cps.toList[q] ((sh + 37 * i) % 100)], ?_, by rw [List.length_append, ln]; rfl, fun j x ex => ?_⟩
      · rw [List.length_map, ln]
        exact small1000 (by omega)
      · exact src_put n1 n2 src3
      · exact hid_put ((keep1 L n1 n2).symm.trans hL) (by rw [hid_pick keep3]; exact sm)
      · rw [upd_same, List.map_append, t3]
        rfl
      · by_cases lt : j < ns.length
        · rw [List.getElem?_append_left lt] at ex
          exact hns j x ex
        · rw [List.getElem?_append_right (by omega)] at ex
          have j0 : j - ns.length = 0 := by
            cases z : j - ns.length with
            | zero => rfl
            | succ m => rw [z] at ex; cases ex
          rw [j0] at ex
          have jj : j = i := by omega
          subst jj
          exact ⟨_, List.getElem_mem _, (Option.some.inj ex).symm⟩
    · rintro σ G ⟨⟨v4, v5, rfl⟩, src, sm, ns, e1, ln, hns⟩
      refine ⟨_, rfl, k L ns G src sm ⟨?_, fun x hx => ?_, by omega⟩ ln (SqL.of ((hid_at n1 n2).trans e1))⟩
      · refine List.pairwise_iff_getElem.mpr fun i j li lj lt e => ?_
        obtain ⟨l1, _, x1⟩ := hns i _ (List.getElem?_eq_getElem li)
        obtain ⟨l2, _, x2⟩ := hns j _ (List.getElem?_eq_getElem lj)
        rw [x1, x2] at e
        have z := name_inj (Nat.mod_lt _ (by decide)) (Nat.mod_lt _ (by decide)) e
        omega
      · obtain ⟨i, li, rfl⟩ := List.getElem_of_mem hx
        obtain ⟨l, hl, e⟩ := hns i _ (List.getElem?_eq_getElem li)
        rw [e]
        exact name_wd hl (Nat.mod_lt _ (by decide))
end
end K43

namespace K43
open PySem PySem.Spec PyProof.Rows L2 Ow
/-! ### the drawn frame -/
theorem sqt_put {K : PySem.W.Frag} {H : Hp} {D t : Addr} {xs l : List V} {o : HO} (e : H D = some (.lst l)) (h : SqT K H t xs) : SqT K (upd H D o) t xs := by
  have one : ∀ {u : HO}, H t = some u → (∀ l, u ≠ .lst l) → upd H D o t = some u := fun {u} z n => (upd_ne (fun q => by
    subst q
    rw [e] at z
    cases z
    exact n l rfl)).trans z
  exact h.elim (fun h => .inl (h.elim (fun h => .inl (one h fun _ z => nomatch z)) fun ⟨o, h⟩ => .inr ⟨o, one h fun _ z => nomatch z⟩)) fun h => .inr h
theorem sqt_putD {K : PySem.W.Frag} {H : Hp} {D t : Addr} {xs : List V} {l : List (Key × V)} {o : HO} (e : H D = some (.dK l)) (h : SqT K H t xs) : SqT K (upd H D o) t xs := by
  have one : ∀ {u : HO}, H t = some u → (∀ l, u ≠ .dK l) → upd H D o t = some u := fun {u} z n => (upd_ne (fun q => by
    subst q
    rw [e] at z
    cases z
    exact n l rfl)).trans z
  exact h.elim (fun h => .inl (h.elim (fun h => .inl (one h fun _ z => nomatch z)) fun ⟨o, h⟩ => .inr ⟨o, one h fun _ z => nomatch z⟩)) fun h => .inr h
theorem hid_upd {d c L : Addr} {G : Hp} {o : HO} (n1 : L ≠ d) (n2 : L ≠ c) : hid d c (upd G L o) = upd (hid d c G) L o := by
  funext b
  by_cases e : b = L
  · subst e
    rw [hid_at n1 n2, upd_same, upd_same]
  · rw [upd_ne e]
    unfold hid
    rw [upd_ne e]
/-- these are tuples of these -/
def AllT (K : PySem.W.Frag) (H : Hp) (us : List Addr) (vss : List (List V)) : Prop := us.length = vss.length ∧ ∀ (i : Nat) (t : Addr), us[i]? = some t → ∃ vs, vss[i]? = some vs ∧ SqT K H t vs
theorem AllT.same {K : PySem.W.Frag} {H H' : Hp} {us : List Addr} {vss : List (List V)} (s : Same H H') (h : AllT K H us vss) : AllT K H' us vss := ⟨h.1, fun i t e => let ⟨vs, a, b⟩ := h.2 i t e; ⟨vs, a, sqt_same s b⟩⟩
theorem AllT.put {K : PySem.W.Frag} {H : Hp} {D : Addr} {l : List V} {o : HO} {us : List Addr} {vss : List (List V)} (e : H D = some (.lst l)) (h : AllT K H us vss) : AllT K (upd H D o) us vss := ⟨h.1, fun i t z => let ⟨vs, a, b⟩ := h.2 i t z; ⟨vs, a, sqt_put e b⟩⟩
theorem AllT.putD {K : PySem.W.Frag} {H : Hp} {D : Addr} {l : List (Key × V)} {o : HO} {us : List Addr} {vss : List (List V)} (e : H D = some (.dK l)) (h : AllT K H us vss) : AllT K (upd H D o) us vss := ⟨h.1, fun i t z => let ⟨vs, a, b⟩ := h.2 i t z; ⟨vs, a, sqt_putD e b⟩⟩
theorem AllT.snoc {K : PySem.W.Frag} {H : Hp} {us : List Addr} {vss : List (List V)} {u : Addr} {vs : List V} (h : AllT K H us vss) (g : SqT K H u vs) : AllT K H (us ++ [u]) (vss ++ [vs]) := by
  refine ⟨by rw [List.length_append, List.length_append, h.1]; rfl, fun i t e => ?_⟩
  by_cases lt : i < us.length
  · rw [List.getElem?_append_left lt] at e
    obtain ⟨ws, a, b⟩ := h.2 i t e
    exact ⟨ws, by rw [List.getElem?_append_left (by rw [← h.1]; exact lt)]; exact a, b⟩
  · rw [List.getElem?_append_right (by omega)] at e
    have j0 : i - us.length = 0 := by
      cases z : i - us.length with
      | zero => rfl
      | succ m => rw [z] at e; cases e
    rw [j0] at e
    have eu : u = t := by simpa using e
    subst eu
    refine ⟨vs, ?_, g⟩
    rw [List.getElem?_append_right (by rw [← h.1]; omega), ← h.1, j0]
    rfl
theorem AllT.nil {K : PySem.W.Frag} {H : Hp} : AllT K H [] [] := ⟨rfl, fun i t e => by simp at e⟩
theorem AllT.tups {K : PySem.W.Frag} {H : Hp} {l : Addr} {us : List Addr} {vss : List (List V)} (e : SqL K H l (us.map V.ref)) (h : AllT K H us vss) : TupsAt K H l vss := ⟨us, e, h.1, h.2⟩
def wdB (x : Str) : Bool := decide (x ≠ ("zzz" : Str)) && (decide (1 ≤ x.length) && (decide (x.length ≤ 12) && ((match x.cps[0]? with
  | some c => decide (c ∈ LT.cps.toList)
  | none => true) && x.cps.toList.all fun c => decide (c ∈ SG.cps.toList))))
theorem wd_of {x : Str} (h : wdB x = true) : Wd x := by
  obtain ⟨h0, h⟩ := an h
  obtain ⟨h1, h2⟩ := an h
  obtain ⟨h2, h3⟩ := an h2
  obtain ⟨h3, h4⟩ := an h3
  refine ⟨of_decide_eq_true h1, of_decide_eq_true h2, fun c e => ?_, fun i c e => ?_, of_decide_eq_true h0⟩
  · rw [e] at h3
    exact of_decide_eq_true h3
  · exact of_decide_eq_true (List.all_eq_true.mp h4 c (by rw [← Array.getElem?_toList] at e; exact List.mem_of_getElem? e))
def ABC : List Str := ["a", "b", "c"]
theorem abc_nl : NL ABC := ⟨by decide +kernel, fun x hx => wd_of (List.all_eq_true.mp (show ABC.all wdB = true by decide +kernel) x hx), by decide⟩
theorem NL.sub {xs ys : List Str} (h : NL xs) (s : ys.Sublist xs) : NL ys := ⟨h.nd.sublist s, fun x hx => h.w x (s.subset hx), Nat.le_trans s.length_le h.n⟩
/-- the dict of the letters' ends: each name's tuple -/
def kvL : List Lt → List Addr → List (Key × V)
  | q :: ls, a :: as => (.inr q.1, .ref a) :: kvL ls as
  | _, _ => []
theorem kvL_len : ∀ (ls : List Lt) (as : List Addr), (kvL ls as).length ≤ ls.length
  | [], _ => by simp [kvL]
  | _ :: _, [] => by simp [kvL]
  | q :: ls, a :: as => Nat.succ_le_succ (kvL_len ls as)
theorem kvL_snoc (q : Lt) (a : Addr) : ∀ (ls : List Lt) (as : List Addr), ls.length = as.length → kvL (ls ++ [q]) (as ++ [a]) = kvL ls as ++ [(.inr q.1, .ref a)]
  | [], [], _ => rfl
  | [], _ :: _, h => by simp at h
  | _ :: _, [], h => by simp at h
  | p :: ls, b :: as, h => congrArg (_ :: ·) (kvL_snoc q a ls as (Nat.succ.inj h))
theorem kvL_no {x : Str} : ∀ (ls : List Lt) (as : List Addr), x ∉ ls.map (·.1) → valV (kvL ls as) (.inr x) = none
  | [], _, _ => rfl
  | _ :: _, [], _ => rfl
  | q :: ls, a :: as, h => by
    have h1 : ¬ ((.inr q.1 : Key) = .inr x) := fun z => h (by injection z with z; rw [← z]; exact List.mem_cons_self)
    show valV ((.inr q.1, .ref a) :: kvL ls as) (.inr x) = none
    rw [valV_neg h1]
    exact kvL_no ls as fun z => h (List.mem_cons_of_mem _ z)
theorem kvL_get : ∀ {ls : List Lt} {as : List Addr} {i : Nat} {q : Lt} {a : Addr}, (ls.map (·.1)).Nodup → ls[i]? = some q → as[i]? = some a → valV (kvL ls as) (.inr q.1) = some (.ref a)
  | [], _, _, _, _, _, h, _ => by simp at h
  | _ :: _, [], _, _, _, _, _, h => by simp at h
  | p :: ls, b :: as, 0, q, a, nd, h1, h2 => by
    have e1 : p = q := by simpa using h1
    have e2 : b = a := by simpa using h2
    rw [e1, e2]
    exact valV_pos (p := ((Sum.inr q.1 : Key), V.ref a)) rfl
  | p :: ls, b :: as, i + 1, q, a, nd, h1, h2 => by
    have h1' : ls[i]? = some q := by simpa using h1
    have nd' := List.nodup_cons.mp (show (p.1 :: ls.map (·.1)).Nodup from nd)
    have n1 : ¬ ((.inr p.1 : Key) = .inr q.1) := fun z => nd'.1 (by injection z with z; rw [z]; exact List.mem_map.mpr ⟨q, List.mem_of_getElem? h1', rfl⟩)
    show valV ((.inr p.1, .ref b) :: kvL ls as) (.inr q.1) = _
    rw [valV_neg n1]
    exact kvL_get nd'.2 h1' (by simpa using h2)
theorem cutV_take (xs : List V) (n : Nat) : cutV xs none (some (n : Int)) = xs.take n := by
  unfold cutV
  rw [HT.sIx_none, HT.sIx_nat, List.drop_zero, Nat.sub_zero]
  by_cases h : n ≤ xs.length
  · rw [Nat.min_eq_left h]
  · rw [Nat.min_eq_right (by omega), List.take_length, List.take_of_length_le (by omega)]
theorem str_ix {xs : List Str} {j : Nat} (h : j < xs.length) : atI (xs.map V.str) ((j : Nat) : Int) = some (.str xs[j]) := atI_nat (by rw [List.getElem?_map, List.getElem?_eq_getElem h]; rfl)
theorem none_of {H H' : Hp} {p : Addr} (s : Same H H') (h : H' p = none) : H p = none := by
  cases z : H p with
  | none => rfl
  | some u => exact absurd (s _ _ z) (by rw [h]; intro q; cases q)
def endV (q : Lt) : List V := [.str q.2.1, .str q.2.2]
/-- at m stands the dict of the letters' ends -/
def LdAt (K : PySem.W.Frag) (H : Hp) (m : Addr) (ls : List Lt) : Prop := ∃ as : List Addr, H m = some (.dK (kvL ls as)) ∧ as.length = ls.length ∧ ∀ (i : Nat) (t : Addr), as[i]? = some t → ∃ q, ls[i]? = some q ∧ SqT K H t (endV q)
theorem LdAt.same {K : PySem.W.Frag} {H H' : Hp} {m : Addr} {ls : List Lt} (s : Same H H') (h : LdAt K H m ls) : LdAt K H' m ls := by
  obtain ⟨as, e, l, g⟩ := h
  refine ⟨as, s _ _ e, l, fun i t z => ?_⟩
  obtain ⟨q, e1, e2⟩ := g i t z
  exact ⟨q, e1, sqt_same s e2⟩
theorem LdAt.get {K : PySem.W.Frag} {H : Hp} {m : Addr} {ls : List Lt} (h : LdAt K H m ls) (nd : (ls.map (·.1)).Nodup) {i : Nat} {q : Lt} (hi : ls[i]? = some q) : ∃ t, DGet H m (.str q.1) (some (.ref t)) ∧ SqT K H t (endV q) := by
  obtain ⟨as, e, l, g⟩ := h
  have li := (List.getElem?_eq_some_iff.mp hi).1
  have ea : as[i]? = some as[i] := List.getElem?_eq_getElem (by omega)
  obtain ⟨q', e1, e2⟩ := g i _ ea
  rw [hi] at e1
  cases e1
  refine ⟨as[i], ?_, e2⟩
  have z : DGet H m (kV (.inr q.1)) (valV (kvL ls as) (.inr q.1)) := DGet.k e
  rw [kvL_get nd hi ea] at z
  exact z
def frV (s m o t b : Addr) : List (Key × V) := [(.inr "sorts", .ref s), (.inr "letters", .ref m), (.inr "order", .ref o), (.inr "totals", .ref t), (.inr "made", .ref b)]
/-- at d stands the drawn frame -/
structure FrAt (K : PySem.W.Frag) (H : Hp) (d : Addr) (xs : List Str) (ls : List Lt) : Prop where
  ex : ∃ s m o t b, H d = some (.dK (frV s m o t b)) ∧ H s = some (.lst (xs.map V.str)) ∧ LdAt K H m ls ∧ SqL K H o ((ls.map (·.1)).map V.str)
  ok : FrOk xs ls
theorem FrAt.same {K : PySem.W.Frag} {H H' : Hp} {d : Addr} {xs : List Str} {ls : List Lt} (s : Same H H') (h : FrAt K H d xs ls) : FrAt K H' d xs ls := by
  obtain ⟨⟨a, m, o, t, b, h1, h2, h3, h4⟩, ok⟩ := h
  exact ⟨⟨a, m, o, t, b, s _ _ h1, s _ _ h2, h3.same s, s.seq h4⟩, ok⟩
theorem fr_sorts {H : Hp} {d s m o t b : Addr} (h : H d = some (.dK (frV s m o t b))) : DGet H d (.str "sorts") (some (.ref s)) := by
  have z : DGet H d (kV (.inr "sorts")) (valV (frV s m o t b) (.inr "sorts")) := DGet.k h
  rw [show valV (frV s m o t b) (.inr "sorts") = some (.ref s) from rfl] at z
  exact z
theorem fr_letters {H : Hp} {d s m o t b : Addr} (h : H d = some (.dK (frV s m o t b))) : DGet H d (.str "letters") (some (.ref m)) := by
  have z : DGet H d (kV (.inr "letters")) (valV (frV s m o t b) (.inr "letters")) := DGet.k h
  rw [show valV (frV s m o t b) (.inr "letters") = some (.ref m) from rfl] at z
  exact z
theorem fr_order {H : Hp} {d s m o t b : Addr} (h : H d = some (.dK (frV s m o t b))) : DGet H d (.str "order") (some (.ref o)) := by
  have z : DGet H d (kV (.inr "order")) (valV (frV s m o t b) (.inr "order")) := DGet.k h
  rw [show valV (frV s m o t b) (.inr "order") = some (.ref o) from rfl] at z
  exact z
abbrev NFd : List Str := ["_law_every", "_law_order", "_law_letters", "_law_totals", "_law_house", "_law_name"]
theorem scFd : FnScope NFd ["_law_every", "_law_order", "_law_letters", "_law_totals"] (defScope sLawFramed) := ⟨rfl, rfl, rfl, by decide +kernel, rfl, by decide +kernel, by decide +kernel⟩
def spFd (K : PySem.W.Frag) : Sp := fun vs H Q _ => ∃ (s o m t : Addr) (xs : List Str) (ls : List Lt), vs = [.ref s, .ref o, .ref m, .ref t] ∧ H s = some (.lst (xs.map V.str)) ∧ SqL K H o ((ls.map (·.1)).map V.str) ∧ LdAt K H m ls ∧ SqL K H t [] ∧ FrOk xs ls ∧
  ∀ d b H', H d = none → Same H H' → H' d = some (.dK (frV s m o t b)) → Q (.ref d) H'
section
variable {P : Program} {w : World} {K : PySem.W.Frag} {mg : Str → Option Value} {base : Heap} {f : Addr} {fd : FuncData}
theorem same_new {H H2 : Hp} {x dx : Addr} {u v : HO} (hx : H x = none) (hd : H dx = none) (k : Keep x (upd (upd H dx v) x u) H2) : Same H H2 := fun b o e => k b o (ne_of_none e hx) (by rw [upd_ne (ne_of_none e hx), upd_ne (ne_of_none e hd)]; exact e)
/-- what Frame(s, l, t) asks and tells -/
theorem mk_fr {H : Hp} {s l t : Addr} {xs : List Str} {ls : List Lt} {Q : Addr → Hp → Prop} (hs : SqL K H s (xs.map V.str)) (hl : TupsAt K H l (ls.map ltV)) (ht : SqL K H t []) (ok : FrOk xs ls) (k : ∀ b H', Same H H' → Q b H') :
    ∀ x dx, H x = none → H dx = none → dx ≠ x → spFI K (.ref x :: ([.ref s, .ref l, .ref t] ++ [])) (upd (upd H dx (.own x)) x (.ins (CFrame K) dx [])) (fun v H2 => v = .non ∧ Q x H2) E0 := fun x dx hx hd nd => by
  have s0 : Same H (upd (upd H dx (.own x)) x (.ins (CFrame K) dx [])) := same_new hx hd .refl
  exact ⟨x, s, l, t, dx, xs, ls, rfl, upd_same, s0.seq hs, hl.same s0, s0.seq ht, ok, fun H' kk => ⟨rfl, k x H' (same_new hx hd kk)⟩⟩
theorem ok_fd (F : FnP K "_law_framed" sLawFramed f fd) (Y : Fx w K mg) : FnOk P w K mg base CX0 5 f fd ["_law_every", "_law_order", "_law_letters", "_law_totals"] (spFd K) := by
  obtain ⟨d2, F2⟩ := Y.dFrame_Init
  have b2 := FunD.bindsN (ps := ["self", "sorts", "letters", "totals"]) F2 fun _ _ _ _ _ _ us hl => match us, hl with | [_, _, _, _], _ => rfl
  have G2 : FnOk P w K mg base CX0 3 _ d2 ["self", "sorts", "letters", "totals"] (spFI K) := ok_fi F2 Y
  refine okD F scFd (fun vs H Q E h => ?_) (fun cdv A outer s H vs Q E hr h => ?_)
  · obtain ⟨s, o, m, t, xs, ls, rfl, _⟩ := h
    rfl
  · have nd := scFd.nd
    have hu := hu_of hr
    refine ⟨_, pss_cons (ps_set (i := 4) nd rfl (Or.inl rfl) (pe_make Y.mFrame G2 hr (by rfl) Y.gFrame b2 .nil pass0 (pa_cons (pv 0) (pa_cons
        (pe_lc (own := [("_law_name", 5)]) (g := gName 5) (tt := tYes) (te := tTup (tCons (tVar 5) (tCons (tOp (rIxT K) (tDGet (tVar 2) (tVar 5)) (tC (.int 0))) (tCons (tOp (rIxT K) (tDGet (tVar 2) (tVar 5)) (tC (.int 1))) tNil)))) rfl nd (pi_list (pv 1)) (blkOk_by (N := NFd) (sc := defScope sLawFramed) (by decide +kernel)) (fun _ _ _ _ _ => pg_name (i := 5) nd rfl (Or.inl rfl)) (fun _ _ _ _ _ => pts_nil)
          (fun _ _ _ _ _ => pe_tup (pa_cons (pv 5) (pa_cons (pe_ix ix_tup (pe_dget hu (pv 2) (pv 5) nosl) pe_int (fun _ _ => rfl)) (pa_cons (pe_ix ix_tup (pe_dget hu (pv 2) (pv 5) nosl) pe_int (fun _ _ => rfl)) pa_nil))))) (pa_cons (pv 3) pa_nil)))))
      (pss_one (ps_ret (pe_disp (pps_cons pe_str (pv 0) (pps_cons pe_str (pv 2) (pps_cons pe_str (pv 1) (pps_cons pe_str (pv 3) (pps_cons pe_str (pv 4) pps_nil))))) rfl rfl (by simp) (by decide)))), ?_⟩
    obtain ⟨s, o, m, t, xs, ls, rfl, hs, ho, hm, ht, ok, k⟩ := h
    refine ⟨_, rfl, _, rfl, o, rfl, ⟨_, ho⟩, fun D hD => ?_⟩
    refine lc_list (K := K) (a := o) (xs := (ls.map (·.1)).map V.str) (fun i G => ∃ us : List Addr, G D = some (.lst (us.map V.ref)) ∧ AllT K G us ((ls.take i).map ltV) ∧ Same H G) ⟨[], upd_same, AllT.nil, same_upd hD⟩ (fun i G _ p => by obtain ⟨us, _, _, p⟩ := p; exact p.seq ho) ?_ ?_
    · rintro i v G hi ⟨us, e, hA, sm⟩
      obtain ⟨x, ex, rfl⟩ := str_at hi
      obtain ⟨q, eq, rfl⟩ : ∃ q, ls[i]? = some q ∧ x = q.1 := by
        rw [List.getElem?_map] at ex
        cases z : ls[i]? with
        | none => rw [z] at ex; cases ex
        | some q => rw [z] at ex; exact ⟨q, rfl, (Option.some.inj ex).symm⟩
      obtain ⟨tt, dg, st⟩ := (hm.same sm).get ok.nl.nd eq
      have li := (List.getElem?_eq_some_iff.mp eq).1
      have n16 := ok.nl.n
      rw [List.length_map] at n16
      refine ⟨rfl, _, rfl, ?_⟩
      refine ⟨_, rfl, _, rfl, m, .ref tt, rfl, dg, tt, _, 0, _, rfl, rfl, st, rfl, ?_⟩
      refine ⟨_, rfl, _, rfl, m, .ref tt, rfl, dg, tt, _, 1, _, rfl, rfl, st, rfl, ?_⟩
      refine ⟨szl (by show 3 ≤ 1000; decide), fun T hT => ?_⟩
      have e2 := same_upd (o := .tup [V.str q.1, V.str q.2.1, V.str q.2.2]) hT _ _ e
      refine ⟨_, e2, ?_, us ++ [T], ?_, ?_, same_put hD (sm.trans (same_upd hT))⟩
      · have z := hA.1
        rw [List.length_map, List.length_take] at z
        rw [List.length_map]
        exact small1000 (by omega)
      · rw [upd_same, List.map_append]
        rfl
      · rw [List.take_add_one, eq, List.map_append]
        exact ((hA.same (same_upd hT)).snoc (SqT.of upd_same)).put e2
    rintro G ⟨us, e, hA, sm⟩
    rw [List.length_map, List.length_map, List.take_length] at hA
    refine ⟨_, rfl, ?_⟩
    refine mk_fr (sm.seq (SqL.of hs)) (hA.tups (SqL.of e)) (sm.seq ht) ok fun b H1 s1 => ?_
    replace s1 := sm.trans s1
    intro p hp
    refine ⟨_, rfl, _, rfl, _, rfl, _, rfl, _, rfl, upd_same, frV s m o t b, rfl, (show 5 ≤ 15 by decide), ?_⟩
    rw [show mergeK [] (frV s m o t b) = frV s m o t b from rfl, upd_upd]
    have s2 := s1.trans (same_upd (o := .dK (frV s m o t b)) hp)
    have hp0 : H p = none := by
      cases z : H p with
      | none => rfl
      | some u => exact absurd (s1 _ _ z) (by rw [hp]; intro q; cases q)
    exact k p b _ hp0 s2 upd_same
abbrev NFr : List Str := ["_law_source_here", "_law_sorts", "_law_letters", "_law_every", "_law_order", "_law_found", "_law_name"]
theorem scFr : FnScope NFr ["_law_source_here", "_law_sorts", "_law_letters"] (defScope sLawFrame) := ⟨rfl, rfl, rfl, by decide +kernel, rfl, by decide +kernel, by decide +kernel⟩
def spFr (K : PySem.W.Frag) : Sp := fun vs H Q _ => ∃ (d c : Addr) (n m : Nat), vs = [.ref d, .int (n : Int), .int (m : Int)] ∧ SrcAt H d c ∧ 1 ≤ n ∧ n ≤ 3 ∧ 1 ≤ m ∧ m ≤ 4 ∧
  ∀ (e : Addr) (xs : List Str) (ls : List Lt) (H' : Hp), SrcAt H' d c → Same (hid d c H) (hid d c H') → FrAt K (hid d c H') e xs ls → xs = ABC.take n → ls.length = m → Q (.ref e) H'
theorem ok_fr (F : FnP K "_law_frame" sLawFrame f fd) (Y : Fx w K mg) : FnOk P w K mg base CX0 6 f fd ["_law_source_here", "_law_sorts", "_law_letters"] (spFr K) := by
  obtain ⟨d1, F1⟩ := Y.dLawPick
  obtain ⟨d2, F2⟩ := Y.dLawNames
  obtain ⟨d3, F3⟩ := Y.dLawFramed
  have b1 := FunD.bindsN (ps := ["_law_source_here", "_law_many"]) F1 fun _ _ _ _ _ _ us hl => match us, hl with | [_, _], _ => rfl
  have b2 := FunD.bindsN (ps := ["_law_source_here", "_law_many"]) F2 fun _ _ _ _ _ _ us hl => match us, hl with | [_, _], _ => rfl
  have b3 := FunD.bindsN (ps := ["_law_every", "_law_order", "_law_letters", "_law_totals"]) F3 fun _ _ _ _ _ _ us hl => match us, hl with | [_, _, _, _], _ => rfl
  have G1 : FnOk P w K mg base CX0 1 _ d1 ["_law_source_here", "_law_many"] spPick := ok_pick F1 Y.bl
  have G2 : FnOk P w K mg base CX0 2 _ d2 ["_law_source_here", "_law_many"] (spNm K) := ok_nm F2 Y
  have G3 : FnOk P w K mg base CX0 5 _ d3 ["_law_every", "_law_order", "_law_letters", "_law_totals"] (spFd K) := ok_fd F3 Y
  refine okD F scFr (fun vs H Q E h => ?_) (fun cdv A outer s H vs Q E hr h => ?_)
  · obtain ⟨d, c, n, m, rfl, _⟩ := h
    rfl
  · have nd := scFr.nd
    have hu := hu_of hr
    have hr1 : Room 1 _ := hr.mono (by decide)
    have hr2 : Room 2 _ := hr.mono (by decide)
    refine ⟨_, pss_cons (ps_set (i := 3) nd rfl (Or.inl rfl) (pe_slice sl_list (pe_lst (pa_cons pe_str (pa_cons pe_str (pa_cons pe_str pa_nil)))) po_none (po_some (pv 1))))
      (pss_cons (ps_set (i := 4) nd rfl (Or.inl rfl) (pe_call G2 hr2 (by rfl) Y.gLawNames F2.kp b2 .nil pass0 (pa_cons (pv 0) (pa_cons (pv 2) pa_nil))))
      (pss_cons (ps_set (i := 5) nd rfl (Or.inl rfl) pe_dnewK)
      (pss_cons (ps_for PassesOwn.never rfl (pi_list (pv 4)) (pg_name (i := 6) nd rfl (Or.inl rfl))
        (pss_one (ps_dput hu (pv 5) (pv 6) (pe_tup (pa_cons (pe_ix ix_list (pv 3) (pe_call G1 hr1 (by rfl) Y.gLawPick F1.kp b1 .nil pass0 (pa_cons (pv 0) (pa_cons (pv 1) pa_nil))) (fun _ _ => rfl)) (pa_cons (pe_ix ix_list (pv 3) (pe_call G1 hr1 (by rfl) Y.gLawPick F1.kp b1 .nil pass0 (pa_cons (pv 0) (pa_cons (pv 1) pa_nil))) (fun _ _ => rfl)) pa_nil))) rfl)))
      (pss_one (ps_ret (pe_call G3 hr (by rfl) Y.gLawFramed F3.kp b3 .nil pass0 (pa_cons (pv 3) (pa_cons (pv 4) (pa_cons (pv 5) (pa_cons (pe_lst pa_nil) pa_nil))))))))))  , ?_⟩
    obtain ⟨d, c, n, m, rfl, src, n1, n3, m1, m4, k⟩ := h
    have lx : (ABC.take n).length = n := by rw [List.length_take]; show min n 3 = n; omega
    obtain ⟨xs, ex⟩ : ∃ xs, xs = ABC.take n := ⟨_, rfl⟩
    rw [← ex] at lx
    have nlx : NL xs := by rw [ex]; exact abc_nl.sub (List.take_sublist _ _)
    refine ⟨szl (by show 3 ≤ 1000; decide), fun l0 hl0 => ⟨_, rfl, _, rfl, l0, _, rfl, SqL.of upd_same, fun s hs => ?_⟩⟩
    rw [show cutV [V.str "a", V.str "b", V.str "c"] none (some (n : Int)) = xs.map V.str by rw [cutV_take, ex, List.map_take]; rfl]
    have s0 := (same_upd (o := .lst [V.str "a", V.str "b", V.str "c"]) hl0).trans (same_upd (o := .lst (xs.map V.str)) hs)
    have src0 := src_same s0 src
    obtain ⟨sd, sc⟩ := src_ne (src_same (same_upd (o := .lst [V.str "a", V.str "b", V.str "c"]) hl0) src) hs
    have e0 : upd (upd H l0 (.lst [V.str "a", V.str "b", V.str "c"])) s (.lst (xs.map V.str)) s = some (.lst (xs.map V.str)) := upd_same
    obtain ⟨G0, eG⟩ : ∃ Z, Z = upd (upd H l0 (.lst [V.str "a", V.str "b", V.str "c"])) s (.lst (xs.map V.str)) := ⟨_, rfl⟩
    change tSeq _ _ _ _ (upd (upd H l0 (.lst [V.str "a", V.str "b", V.str "c"])) s (.lst (xs.map V.str)))
    rw [← eG] at s0 src0 e0 ⊢
    clear eG hl0 hs
    refine ⟨_, rfl, _, rfl, d, c, m, rfl, src0, by omega, fun o ns G1 src1 sm1 hn ln ho => ?_⟩
    have es : hid d c G1 s = some (.lst (xs.map V.str)) := sm1 _ _ ((hid_at sd sc).trans e0)
    have sm : Same (hid d c H) (hid d c G1) := (hid_same s0).trans sm1
    clear sm1 e0 s0 src0
    intro L hL
    obtain ⟨Ld, Lc⟩ := src_ne src1 hL
    refine ⟨_, rfl, o, rfl, ⟨_, (same_upd hL).seq (hid_sub.seq ho)⟩, for_list (K := K) (a := o) (xs := ns.map V.str) (fun i σ G => (∃ v6, σ = [some (.ref d), some (.int (n : Int)), some (.int (m : Int)), some (.ref s), some (.ref o), some (.ref L), v6]) ∧ SrcAt G d c ∧ Same (hid d c G1) (hid d c G) ∧
      ∃ (as : List Addr) (ls : List Lt), ls.map (·.1) = ns.take i ∧ G L = some (.dK (kvL ls as)) ∧ AllT K (hid d c G) as (ls.map endV) ∧ ∀ q ∈ ls, q.2.1 ∈ xs ∧ q.2.2 ∈ xs)
      ⟨⟨_, rfl⟩, src_put Ld Lc src1, hid_put hL (Same.refl _), [], [], rfl, upd_same, AllT.nil, fun q hq => absurd hq List.not_mem_nil⟩ (fun i σ G _ p => hid_sub.seq (p.2.2.1.seq ho)) ?_ ?_⟩
    · rintro i v σ G hi ⟨⟨v6, rfl⟩, src2, sm2, as, ls, en, eL, hA, hin⟩
      obtain ⟨x, ex1, rfl⟩ := str_at hi
      have li := (List.getElem?_eq_some_iff.mp ex1).1
      refine ⟨_, rfl, _, rfl, _, rfl, d, c, n, rfl, src2, by omega, by omega, fun r G2 r0 r1 src3 keep3 => ?_⟩
      obtain ⟨j, rfl⟩ : ∃ j : Nat, r = (j : Int) := ⟨r.toNat, by omega⟩
      have eh : hid d c G2 = hid d c G := hid_pick keep3
      have es2 : G2 s = some (.lst (xs.map V.str)) := hid_sub _ _ (show hid d c G2 s = _ by rw [eh]; exact sm2 _ _ es)
      have eL2 : G2 L = some (.dK (kvL ls as)) := (keep3 L Ld Lc).trans eL
      refine ⟨s, _, _, _, rfl, rfl, SqL.of es2, str_ix (by omega), ?_⟩
      refine ⟨_, rfl, _, rfl, _, rfl, d, c, n, rfl, src3, by omega, by omega, fun r G3 r0 r1 src4 keep4 => ?_⟩
      obtain ⟨j2, rfl⟩ : ∃ j : Nat, r = (j : Int) := ⟨r.toNat, by omega⟩
      have eh3 : hid d c G3 = hid d c G := (hid_pick keep4).trans eh
      have es3 : G3 s = some (.lst (xs.map V.str)) := (keep4 s sd sc).trans es2
      have eL3 : G3 L = some (.dK (kvL ls as)) := (keep4 L Ld Lc).trans eL2
      refine ⟨s, _, _, _, rfl, rfl, SqL.of es3, str_ix (by omega), ?_⟩
      refine ⟨szl (by show 2 ≤ 1000; decide), fun T hT => ?_⟩
      obtain ⟨Td, Tc⟩ := src_ne src4 hT
      have eL4 := same_upd (o := .tup [V.str (xs[j]'(by omega)), V.str (xs[j2]'(by omega))]) hT _ _ eL3
      have ll : ls.length = i := by
        have z := congrArg List.length en
        rw [List.length_map, List.length_take] at z
        omega
      have lk := kvL_len ls as
      have hno : x ∉ ls.map (·.1) := by
        rw [en]
        intro z
        obtain ⟨i2, l2, e2⟩ := List.getElem_of_mem z
        rw [List.length_take] at l2
        have e3 : ns[i2]? = some x := by rw [List.getElem_take] at e2; rw [List.getElem?_eq_getElem (by omega), e2]
        have e4 : ns[i2]'(by omega) = ns[i] := by
          rw [List.getElem?_eq_getElem (by omega)] at e3
          rw [List.getElem?_eq_getElem li] at ex1
          rw [Option.some.inj e3, Option.some.inj ex1]
        exact List.pairwise_iff_getElem.mp hn.nd i2 i (by omega) li (by omega) e4
      refine ⟨_, rfl, _, rfl, L, _, rfl, (show DPut _ L (.str x) _ _ from DPut.k (k := .inr x) eL4 (small1000 (by omega))), ?_⟩
      have hA4 := hA
      rw [← eh3] at hA4
      have sT := hid_same (d := d) (c := c) (same_upd (o := .tup [V.str (xs[j]'(by omega)), V.str (xs[j2]'(by omega))]) hT)
      refine ⟨⟨_, rfl⟩, src_put Ld Lc (src_same (same_upd hT) src4), hid_put hL (by rw [← eh3] at sm2; exact sm2.trans sT), as ++ [T], ls ++ [(x, xs[j]'(by omega), xs[j2]'(by omega))], ?_, ?_, ?_, ?_⟩
      · rw [List.map_append, en, List.take_add_one, ex1]
        rfl
      · rw [upd_same, putK_new _ (kvL_no ls as hno), kvL_snoc _ _ _ _ (by rw [hA.1, List.length_map])]
      · have z := (hA4.same sT).snoc (SqT.of (show hid d c (upd G3 T (.tup [V.str (xs[j]'(by omega)), V.str (xs[j2]'(by omega))])) T = some (.tup (endV (x, xs[j]'(by omega), xs[j2]'(by omega)))) from (hid_at Td Tc).trans upd_same))
        rw [List.map_append]
        rw [hid_upd Ld Lc]
        exact z.putD ((hid_at Ld Lc).trans eL4)
      · intro q hq
        rcases List.mem_append.mp hq with z | z
        · exact hin q z
        · rw [List.mem_singleton.mp z]
          exact ⟨List.getElem_mem _, List.getElem_mem _⟩
    · rintro σ G ⟨⟨v6, rfl⟩, src2, sm2, as, ls, en, eL, hA, hin⟩
      rw [List.length_map, List.take_length] at en
      refine ⟨_, rfl, _, rfl, _, rfl, szl (by show 0 ≤ 1000; decide), fun t ht => ?_⟩
      have st := same_upd (o := .lst []) ht
      obtain ⟨td, tc⟩ := src_ne src2 ht
      have sh := hid_same (d := d) (c := c) st
      have es2 : hid d c G s = some (.lst (xs.map V.str)) := sm2 _ _ es
      have eLh : hid d c G L = some (.dK (kvL ls as)) := (hid_at Ld Lc).trans eL
      have fok : FrOk xs ls := ⟨nlx, by rw [en]; exact hn, hin⟩
      have lal : as.length = ls.length := by rw [hA.1, List.length_map]
      have ld : LdAt K (hid d c (upd G t (.lst []))) L ls := ⟨as, sh _ _ eLh, lal, fun i u e => by
        obtain ⟨vs, a, b⟩ := (hA.same sh).2 i u e
        rw [List.getElem?_map] at a
        cases z : ls[i]? with
        | none => rw [z] at a; cases a
        | some q => rw [z] at a; exact ⟨q, rfl, by rw [← Option.some.inj a] at b; exact b⟩⟩
      have ldG : LdAt K (upd G t (.lst [])) L ls := ld.same hid_sub
      have hoG : SqL K (hid d c (upd G t (.lst []))) o ((ls.map (·.1)).map V.str) := by rw [en]; exact (sm2.trans sh).seq ho
      refine ⟨s, o, L, t, xs, ls, rfl, hid_sub _ _ (sh _ _ es2), hid_sub.seq hoG, ldG, SqL.of upd_same, fok, fun e b H' he s9 ee => ?_⟩
      obtain ⟨ed, ec⟩ := src_ne (src_same st src2) he
      have s9h := hid_same (d := d) (c := c) s9
      refine k e xs ls H' (src_same (st.trans s9) src2) (sm.trans (sm2.trans (sh.trans s9h))) ⟨⟨s, L, o, t, b, (hid_at ed ec).trans ee, s9h _ _ (sh _ _ es2), ld.same s9h, s9h.seq hoG⟩, fok⟩ ex ?_
      have z := congrArg List.length en
      rw [List.length_map] at z
      exact z.trans ln
end
end K43

namespace K43
open PySem PySem.Spec PyProof.Rows L2 Ow
/-! ### the first fault of a frame's lists -/
def firstN {α : Type} (p : Nat → Option α) : Nat → Option α
  | 0 => none
  | n + 1 => match firstN p n with
    | some a => some a
    | none => p n
theorem firstN_more {α : Type} {p : Nat → Option α} {a : α} : ∀ {n m : Nat}, firstN p n = some a → n ≤ m → firstN p m = some a
  | n, 0, h, l => by
    obtain rfl : n = 0 := by omega
    exact h
  | n, m + 1, h, l => by
    by_cases e : n = m + 1
    · rw [← e]
      exact h
    · have z := firstN_more (m := m) h (by omega)
      unfold firstN
      rw [z]
theorem firstN_at {α : Type} {p : Nat → Option α} {a : α} {i n : Nat} (h : firstN p i = none) (e : p i = some a) (l : i < n) : firstN p n = some a :=
  firstN_more (n := i + 1) (by unfold firstN; rw [h]; exact e) l
theorem firstN_step {α : Type} {p : Nat → Option α} {i : Nat} (h : firstN p i = none) (e : p i = none) : firstN p (i + 1) = none := by
  unfold firstN
  rw [h]
  exact e
def firstL {α β : Type} (f : Nat → α → Option β) (xs : List α) : Option β := firstN (fun i => xs[i]?.bind (f i)) xs.length
theorem firstL_none {α β : Type} {f : Nat → α → Option β} {xs : List α} (h : firstN (fun i => xs[i]?.bind (f i)) xs.length = none) : ∀ (i : Nat) (x : α), xs[i]? = some x → f i x = none := by
  have key : ∀ n, n ≤ xs.length → firstN (fun i => xs[i]?.bind (f i)) n = none → ∀ (i : Nat) (x : α), i < n → xs[i]? = some x → f i x = none := by
    intro n
    induction n with
    | zero => intro _ _ i x hi; exact absurd hi (Nat.not_lt_zero i)
    | succ n ih =>
      intro hn h i x hi hx
      unfold firstN at h
      cases e : firstN (fun i => xs[i]?.bind (f i)) n with
      | some a => rw [e] at h; cases h
      | none =>
        rw [e] at h
        by_cases z : i = n
        · subst z
          rw [hx] at h
          exact h
        · exact ih (by omega) e i x (by omega) hx
  intro i x hx
  exact key xs.length (Nat.le_refl _) h i x (List.getElem?_eq_some_iff.mp hx).1 hx
abbrev Tt : Type := Str × Str
def ttV (q : Tt) : List V := [.str q.1, .str q.2]
def badN (xs : List Str) : Option Str := firstL (fun _ x => if isW x = true then none else some x) xs
def again (xs : List Str) : Option Str := firstL (fun i x => if x ∈ xs.take i then some x else none) xs
def badE (xs : List Str) (ls : List Lt) : Option Str := firstL (fun _ q => if q.2.1 ∉ xs then some q.2.1 else if q.2.2 ∉ xs then some q.2.2 else none) ls
def badT (ns : List Str) (ts : List Tt) : Option Str := firstL (fun _ q => if q.1 ∉ ns then some q.1 else none) ts
def badF (ts : List Tt) : Option Str := firstL (fun i q => if (q.2 ≠ ("on" : Str) ∧ q.2 ≠ ("back" : Str)) ∨ q ∈ ts.take i then some q.1 else none) ts
theorem again_nodup {xs : List Str} : again xs = none ↔ xs.Nodup := by
  constructor
  · intro h
    unfold List.Nodup
    rw [List.pairwise_iff_getElem]
    intro i j hi hj hij e
    have hx : xs[j]? = some xs[j] := List.getElem?_eq_getElem hj
    have z := firstL_none h j _ hx
    have m : xs[j] ∈ xs.take j := List.mem_of_getElem? (i := i) (by rw [List.getElem?_take_of_lt hij, List.getElem?_eq_getElem hi, e])
    rw [if_pos m] at z
    cases z
  · intro h
    cases e : again xs with
    | none => rfl
    | some a =>
      exfalso
      have key : ∀ n, firstN (fun i => xs[i]?.bind fun x => if x ∈ xs.take i then some x else none) n = none := by
        intro n
        induction n with
        | zero => rfl
        | succ n ih =>
          refine firstN_step ih ?_
          cases z : xs[n]? with
          | none => rfl
          | some x =>
            show (if x ∈ xs.take n then some x else none) = none
            refine if_neg fun m => ?_
            obtain ⟨i, hi, ei⟩ := List.getElem_of_mem m
            rw [List.length_take] at hi
            rw [List.getElem_take] at ei
            have ln := (List.getElem?_eq_some_iff.mp z)
            obtain ⟨l1, l2⟩ := ln
            have q := (List.pairwise_iff_getElem.mp h) i n (by omega) l1 (by omega)
            exact q (ei.trans l2.symm)
      have z := key xs.length
      unfold again firstL at e
      rw [z] at e
      cases e
/-- cn counts the unlike ones -/
theorem cn_nodup {xs : List Str} : cn xs xs.length < xs.length ↔ again xs ≠ none := by
  have key : ∀ n, n ≤ xs.length → (cn xs n < n ↔ firstN (fun i => xs[i]?.bind fun x => if x ∈ xs.take i then some x else none) n ≠ none) := by
    intro n
    induction n with
    | zero => intro _; exact ⟨fun h => absurd h (Nat.not_lt_zero _), fun h => absurd rfl h⟩
    | succ n ih =>
      intro hn
      have ih2 := ih (by omega)
      have le := cn_le xs n
      have hx : xs[n]? = some (xs[n]'(by omega)) := List.getElem?_eq_getElem _
      have eg : xs.getD n Str.empty = xs[n]'(by omega) := by rw [List.getD_eq_getElem?_getD, hx]; rfl
      unfold cn firstN
      rw [eg]
      cases e : firstN (fun i => xs[i]?.bind fun x => if x ∈ xs.take i then some x else none) n with
      | some a =>
        rw [e] at ih2
        have z := ih2.mpr (by simp)
        refine ⟨fun _ => by simp, fun _ => ?_⟩
        split <;> omega
      | none =>
        rw [e] at ih2
        have z : ¬ cn xs n < n := fun q => (ih2.mp q) rfl
        dsimp only
        rw [hx]
        show _ ↔ (if xs[n]'(by omega) ∈ xs.take n then some (xs[n]'(by omega)) else none) ≠ none
        by_cases m : xs[n]'(by omega) ∈ xs.take n
        · rw [if_pos m, if_pos (by rw [List.any_eq_true]; exact ⟨_, m, beq_self_eq_true _⟩)]
          exact ⟨fun _ => by simp, fun _ => by omega⟩
        · rw [if_neg m, if_neg (by
            intro q
            obtain ⟨y, hy, e2⟩ := List.any_eq_true.mp q
            rw [beq_iff_eq] at e2
            rw [e2] at hy
            exact m hy)]
          exact ⟨fun q => by omega, fun q => absurd rfl q⟩
  exact key xs.length (Nat.le_refl _)
end K43

namespace K43
open PySem PySem.Spec PyProof.Rows L2 Ow Xv
/-! ### the errors raised -/
structure XC (K : PySem.W.Frag) (C : Addr) (f : Str) (bm : List Value) (new : String) : Prop where
  ec : EC K C
  q : PySem.W.excInitIn K C bm new = true
  ov : PySem.W.excOver K C bm = true
  iC : PySem.W.findIn K (.ref C) "__init__" = some (some (.ref (He.ma K C "__init__")))
  tI : PySem.W.typeIn K (.ref (He.ma K C "__init__")) = some (.type "function")
  tk : PySem.W.takerIn K C f = some none
  no : PySem.W.findIn K (.ref C) f = some none
  ty : PySem.W.typeIn K (.ref C) = some (.type "type")
theorem xc_of {K : PySem.W.Frag} {C : Addr} {f : Str} {bm : List Value} {new : String} (h : xcB K C f bm new = true) : XC K C f bm new := by
  unfold xcB ecB at h
  obtain ⟨e, h⟩ := an h
  obtain ⟨e1, e⟩ := an e
  obtain ⟨e2, e⟩ := an e
  obtain ⟨e3, e⟩ := an e
  obtain ⟨e4, e⟩ := an e
  obtain ⟨e5, e⟩ := an e
  obtain ⟨e6, e⟩ := an e
  obtain ⟨e7, e⟩ := an e
  obtain ⟨e8, e9⟩ := an e
  obtain ⟨h1, h⟩ := an h
  obtain ⟨h2, h⟩ := an h
  obtain ⟨h3, h⟩ := an h
  obtain ⟨h4, h⟩ := an h
  obtain ⟨h5, h⟩ := an h
  obtain ⟨h6, h7⟩ := an h
  exact ⟨⟨e1, e2, He.eqO_ok e3, He.eqO_ok e4, He.eqO_ok e5, He.eqO_ok e6, of_decide_eq_true e7, of_decide_eq_true e8, e9⟩, h1, h2, He.eqO_ok h3, of_decide_eq_true h4, He.eqO_ok h5, He.eqO_ok h6, of_decide_eq_true h7⟩
theorem XC.xf {K : PySem.W.Frag} {C : Addr} {f : Str} {bm : List Value} {new : String} (h : XC K C f bm new) : XfC K C := ⟨h.ec.ga, h.ec.gg, h.ec.be, h.ec.hd⟩
def spXI (C : Addr) (n : Str) : Sp := fun vs H Q _ => ∃ (a : Addr) (x : V), vs = [.ref a, x] ∧ H a = some (exo a C none) ∧ ∀ dx, H dx = none → dx ≠ a → Q .non (upd (upd H dx (exd dx [(n, x)])) a (exo a C (some dx)))
/-- what a raise of such an error needs -/
structure RaC (P : Program) (w : World) (K : PySem.W.Frag) (mg : Str → Option Value) (base : Heap) (C : Addr) (ps : List Str) (sp : Sp) : Prop where
  ex : ∃ (B n1 n2 : String) (bmB : List Value) (fI : Addr) (fd : FuncData), ExcBaseFacts B n1 n2 bmB ∧ PySem.W.excInitIn K C bmB n1 = true ∧ PySem.W.findIn K (.ref C) "__init__" = some (some (.ref fI)) ∧ PySem.W.typeIn K (.ref fI) = some (.type "function") ∧
    FnOk P w K mg base CX0 1 fI fd ps sp ∧ Binds K fd ps []
  kp : PySem.W.keepIn K (.ref C) = true
  be : PySem.W.subIn K (.ref C) (.type "BaseException") = some true
  ty : PySem.W.typeIn K (.ref C) = some (.type "type")
theorem pmk_ra {X : Cx} {C : Addr} {ps : List Str} {sp : Sp} {x : Str} {p pos : Pos} {e : Expr} {es : List Expr} {ta : TA} (M : RaC X.prog X.w X.K X.mg X.base C ps sp) (hr : Room 2 X.A) (hg : Gl X x) (hm : X.mg x = some (.ref C)) (ha : PA X (e :: es) ta)
    (hdb : (x == ("__debug__" : Str)) = false := by decide) (he : starEach (e :: es) X.env = (false, eval e X.env) :: starEach es X.env := by rfl) (hpl : (backTo pos (starEach es X.env)).any (·.1) = false := by rfl) :
    PMk X (.Call (.Name x p) (e :: es) [] pos) (tMkO C sp [] ta) := by
  obtain ⟨B, n1, n2, bmB, fI, fd, F, q, iC, tI, F1, b⟩ := M.ex
  exact pmk_excI F q iC tI M.kp (raises_own M.be M.ty) F1 hr b pass0 hg hm ha hdb he hpl
theorem mkO_at {C : Addr} {n : Str} {x : V} {H : Hp} {Q : XK} (k : ∀ (d : Addr) (H' : Hp), Same H H' → H d = none → H' d = some (.xd [(n, x)]) → Q (.ref C) (some d) H') (a : Addr) (ha : H a = none) :
    spXI C n (.ref a :: ([x] ++ [])) (upd H a (exo a C none)) (fun v H2 => v = .non ∧ ∃ (d : Addr) (fs : List (Str × V)), H2 a = some (exo a C (some d)) ∧ H2 d = some (exd d fs) ∧ H d = none ∧ Q (.ref C) (some d) (upd (del H2 a) d (.xd fs))) (fun _ _ _ => False) := by
  refine ⟨a, x, rfl, upd_same, fun dx h1 h2 => ?_⟩
  have hd1 : H dx = none := (upd_ne h2).symm.trans h1
  refine ⟨rfl, dx, _, upd_same, (upd_ne h2).trans upd_same, hd1, k dx _ (fun b o eb => ?_) hd1 upd_same⟩
  have n1 := ne_of_none eb ha
  have n2 := ne_of_none eb hd1
  rw [upd_ne n2, del_ne n1, upd_ne n1, upd_ne n2, upd_ne n1]
  exact eb
section
variable {P : Program} {w : World} {K : PySem.W.Frag} {mg : Str → Option Value} {base : Heap}
theorem Fx.xBN (Y : Fx w K mg) : XC K (CBadName K) "name" veB "ValueError.__new__" := xc_of Y.x1
theorem Fx.xTT (Y : Fx w K mg) : XC K (CTwiceTold K) "name" veB "ValueError.__new__" := xc_of Y.x2
theorem Fx.xUN (Y : Fx w K mg) : XC K (CUnknownName K) "name" leB "LookupError.__new__" := xc_of Y.x3
theorem Fx.xBF (Y : Fx w K mg) : XC K (CBadFrame K) "name" veB "ValueError.__new__" := xc_of Y.x4
theorem Fx.xCR (Y : Fx w K mg) : XC K (CComesRound K) "members" veB "ValueError.__new__" := xc_of Y.x5
theorem scXN1 : FnScope ["self", "name"] ["self", "name"] (defScope sBadName_Init) := ⟨rfl, rfl, rfl, by decide +kernel, rfl, by decide +kernel, by decide +kernel⟩
theorem scXN2 : FnScope ["self", "name"] ["self", "name"] (defScope sTwiceTold_Init) := ⟨rfl, rfl, rfl, by decide +kernel, rfl, by decide +kernel, by decide +kernel⟩
theorem scXN3 : FnScope ["self", "name"] ["self", "name"] (defScope sUnknownName_Init) := ⟨rfl, rfl, rfl, by decide +kernel, rfl, by decide +kernel, by decide +kernel⟩
theorem scXN4 : FnScope ["self", "name"] ["self", "name"] (defScope sBadFrame_Init) := ⟨rfl, rfl, rfl, by decide +kernel, rfl, by decide +kernel, by decide +kernel⟩
theorem scXN5 : FnScope ["self", "members"] ["self", "members"] (defScope sComesRound_Init) := ⟨rfl, rfl, rfl, by decide +kernel, rfl, by decide +kernel, by decide +kernel⟩
theorem raBN (Y : Fx w K mg) : RaC P w K mg base (CBadName K) ["self", "name"] (spXI (CBadName K) "name") := by
  obtain ⟨fd, F⟩ := Y.dBadName_Init
  have b := FunD.bindsN (ps := ["self", "name"]) F fun _ _ _ _ _ _ us hl => match us, hl with | [_, _], _ => rfl
  refine ⟨⟨_, _, _, _, _, fd, PySem.F.excBase_ValueError, Y.xBN.q, Y.xBN.iC, Y.xBN.tI, ?_, b⟩, Y.xBN.ec.kp, Y.xBN.ec.be, Y.xBN.ty⟩
  refine okD F scXN1 (fun vs H Q E h => ?_) (fun cdv A outer s H vs Q E hr h => ?_)
  · obtain ⟨a, x, rfl, _⟩ := h
    rfl
  · refine ⟨_, pss_one (ps_st (C := CBadName K) PySem.F.store_ValueError Y.xBN.ec Y.xBN.ov Y.xBN.tk (pv 0) (pv 1)), ?_⟩
    obtain ⟨a, x, rfl, ha, k⟩ := h
    exact ⟨_, rfl, _, rfl, a, rfl, .inl ⟨ha, fun dx h1 h2 => k dx h1 h2⟩⟩
theorem raTT (Y : Fx w K mg) : RaC P w K mg base (CTwiceTold K) ["self", "name"] (spXI (CTwiceTold K) "name") := by
  obtain ⟨fd, F⟩ := Y.dTwiceTold_Init
  have b := FunD.bindsN (ps := ["self", "name"]) F fun _ _ _ _ _ _ us hl => match us, hl with | [_, _], _ => rfl
  refine ⟨⟨_, _, _, _, _, fd, PySem.F.excBase_ValueError, Y.xTT.q, Y.xTT.iC, Y.xTT.tI, ?_, b⟩, Y.xTT.ec.kp, Y.xTT.ec.be, Y.xTT.ty⟩
  refine okD F scXN2 (fun vs H Q E h => ?_) (fun cdv A outer s H vs Q E hr h => ?_)
  · obtain ⟨a, x, rfl, _⟩ := h
    rfl
  · refine ⟨_, pss_one (ps_st (C := CTwiceTold K) PySem.F.store_ValueError Y.xTT.ec Y.xTT.ov Y.xTT.tk (pv 0) (pv 1)), ?_⟩
    obtain ⟨a, x, rfl, ha, k⟩ := h
    exact ⟨_, rfl, _, rfl, a, rfl, .inl ⟨ha, fun dx h1 h2 => k dx h1 h2⟩⟩
theorem raUN (Y : Fx w K mg) : RaC P w K mg base (CUnknownName K) ["self", "name"] (spXI (CUnknownName K) "name") := by
  obtain ⟨fd, F⟩ := Y.dUnknownName_Init
  have b := FunD.bindsN (ps := ["self", "name"]) F fun _ _ _ _ _ _ us hl => match us, hl with | [_, _], _ => rfl
  refine ⟨⟨_, _, _, _, _, fd, PySem.F.excBase_LookupError, Y.xUN.q, Y.xUN.iC, Y.xUN.tI, ?_, b⟩, Y.xUN.ec.kp, Y.xUN.ec.be, Y.xUN.ty⟩
  refine okD F scXN3 (fun vs H Q E h => ?_) (fun cdv A outer s H vs Q E hr h => ?_)
  · obtain ⟨a, x, rfl, _⟩ := h
    rfl
  · refine ⟨_, pss_one (ps_st (C := CUnknownName K) PySem.F.store_LookupError Y.xUN.ec Y.xUN.ov Y.xUN.tk (pv 0) (pv 1)), ?_⟩
    obtain ⟨a, x, rfl, ha, k⟩ := h
    exact ⟨_, rfl, _, rfl, a, rfl, .inl ⟨ha, fun dx h1 h2 => k dx h1 h2⟩⟩
theorem raBF (Y : Fx w K mg) : RaC P w K mg base (CBadFrame K) ["self", "name"] (spXI (CBadFrame K) "name") := by
  obtain ⟨fd, F⟩ := Y.dBadFrame_Init
  have b := FunD.bindsN (ps := ["self", "name"]) F fun _ _ _ _ _ _ us hl => match us, hl with | [_, _], _ => rfl
  refine ⟨⟨_, _, _, _, _, fd, PySem.F.excBase_ValueError, Y.xBF.q, Y.xBF.iC, Y.xBF.tI, ?_, b⟩, Y.xBF.ec.kp, Y.xBF.ec.be, Y.xBF.ty⟩
  refine okD F scXN4 (fun vs H Q E h => ?_) (fun cdv A outer s H vs Q E hr h => ?_)
  · obtain ⟨a, x, rfl, _⟩ := h
    rfl
  · refine ⟨_, pss_one (ps_st (C := CBadFrame K) PySem.F.store_ValueError Y.xBF.ec Y.xBF.ov Y.xBF.tk (pv 0) (pv 1)), ?_⟩
    obtain ⟨a, x, rfl, ha, k⟩ := h
    exact ⟨_, rfl, _, rfl, a, rfl, .inl ⟨ha, fun dx h1 h2 => k dx h1 h2⟩⟩
end
end K43

namespace K43
open PySem PySem.Spec PyProof.Rows L2 Ow Xv
/-! ### names checked -/
theorem fl_strs (ws : List Str) : (ws.map V.str).all flatV = true := by
  rw [List.all_map]
  exact List.all_eq_true.mpr fun _ _ => rfl
section
variable {K : PySem.W.Frag} {H : Hp} {a : Addr} {xs : List V} {Q : VK} {lo hi : Option Int}
theorem slice_any (h : SqT K H a xs) (k : ∀ (T : Addr) (H' : Hp), Same H H' → SqT K H' T (cutV xs lo hi) → Q (.ref T) H') : rSlA K (.ref a) lo hi H Q :=
  ⟨a, xs, rfl, h, fun e => k a H (Same.refl _) (by rw [show cutV xs lo hi = xs by unfold cutV; rw [e.1, e.2]; simp]; exact h), fun _ p hp => k p _ (same_upd hp) (SqT.of upd_same)⟩
/-- a list or a tuple cut -/
theorem slice_q (h : SqA K H a xs) (k : ∀ (T : Addr) (H' : Hp), Same H H' → SqA K H' T (cutV xs lo hi) → Q (.ref T) H') : rSlL K (.ref a) lo hi H Q ∨ rSlA K (.ref a) lo hi H Q := by
  rcases h with h | h
  · exact .inl ⟨a, xs, rfl, h, fun p hp => k p _ (same_upd hp) (.inl (SqL.of upd_same))⟩
  · exact .inr (slice_any h fun T H' s g => k T H' s (.inr g))
end
def optV : Option Str → V
  | some x => .str x
  | none => .non
abbrev NFA : List Str := ["names", "at", "name"]
theorem scFA : FnScope NFA ["names"] (defScope sFirstAgain) := ⟨rfl, rfl, rfl, by decide +kernel, rfl, by decide +kernel, by decide +kernel⟩
def spFA (K : PySem.W.Frag) : Sp := fun vs H Q _ => ∃ (a : Addr) (xs : List Str), vs = [.ref a] ∧ SqA K H a (xs.map V.str) ∧ ∀ H', Same H H' → Q (optV (again xs)) H'
def spCk (K : PySem.W.Frag) : Sp := fun vs H Q E => ∃ (l a b : Addr) (xs ns : List Str), vs = [.ref l] ∧ SqL K H l [.ref a, .ref b] ∧ SqA K H a (xs.map V.str) ∧ SqA K H b (ns.map V.str) ∧ (∀ x ∈ xs ++ ns, x.length ≤ 900) ∧ xs.length < 64 ∧ ns.length < 64 ∧
  match badN (xs ++ ns) with
  | some x => ∀ (d : Addr) (H' : Hp), Same H H' → H d = none → H' d = some (.xd [("name", .str x)]) → E (.ref (CBadName K)) (some d) H'
  | none => (match again xs, again ns with
    | some x, _ => ∀ (d : Addr) (H' : Hp), Same H H' → H d = none → H' d = some (.xd [("name", .str x)]) → E (.ref (CTwiceTold K)) (some d) H'
    | none, some x => ∀ (d : Addr) (H' : Hp), Same H H' → H d = none → H' d = some (.xd [("name", .str x)]) → E (.ref (CTwiceTold K)) (some d) H'
    | none, none => ∀ H', Same H H' → Q .non H')
section
variable {P : Program} {w : World} {K : PySem.W.Frag} {mg : Str → Option Value} {base : Heap} {f : Addr} {fd : FuncData}
theorem ok_fa (F : FnP K "first_again" sFirstAgain f fd) (Y : Fx w K mg) : FnOk P w K mg base CX0 1 f fd ["names"] (spFA K) := by
  refine okD F scFA (fun vs H Q E h => ?_) (fun cdv A outer s H vs Q E hr h => ?_)
  · obtain ⟨a, xs, rfl, _⟩ := h
    rfl
  · have nd := scFA.nd
    refine ⟨_, pss_cons (ps_for PassesOwn.never rfl (pi_enumA (by rfl) Y.bEnumerate (pa_cons (pv 0) pa_nil)) (pg_tup rfl (pgs_cons (pg_name (i := 1) nd rfl (Or.inl rfl)) (pgs_cons (pg_name (i := 2) nd rfl (Or.inl rfl)) pgs_nil)))
        (pss_one (ps_if (pt_cmpR op_in_seq (pv 2) (pe_slice (sl_list.or sl_tupA) (pv 0) po_none (po_some (pv 1))) (by rfl)) (pss_one (ps_ret (pv 2))) pss_nil)))
      (pss_one (ps_ret pe_non)), ?_⟩
    obtain ⟨a, xs, rfl, ha, k⟩ := h
    refine ⟨_, rfl, a, xs.map V.str, rfl, ha, fun J GG wk gk => ?_⟩
    refine for_it wk (fun i σ G => ∃ v1 v2, σ = [some (.ref a), v1, v2] ∧ firstN (fun i => xs[i]?.bind fun x => if x ∈ xs.take i then some x else none) i = none ∧ Same H G) ⟨none, none, rfl, rfl, Same.refl _⟩ (fun i σ G _ ⟨_, _, _, _, q⟩ => gk G q) ?_ ?_
    · rintro i v σ G G' hi ⟨v1, v2, rfl, hn, sm⟩ ⟨T, x, y, rfl, hT, rfl, ex, ey⟩
      cases ex
      obtain ⟨z, ez, rfl⟩ := str_at (show (xs.map V.str)[i]? = some y from ey)
      have sT := same_upd (o := .tup [V.int (i : Int), V.str z]) hT
      refine ⟨T, _, rfl, SqT.of upd_same, rfl, _, _, rfl, _, _, rfl, rfl, ?_⟩
      dsimp only
      change tIfS _ _ _ _ [some (.ref a), some (.int (i : Int)), some (.str z)] (upd G T (.tup [V.int (i : Int), V.str z]))
      refine ⟨_, rfl, _, rfl, _, rfl, _, rfl, ?_⟩
      refine slice_q ((ha.same sm).same sT) fun T2 H2 s2 h2 => ?_
      rw [cutV_take, ← List.map_take] at h2
      refine ⟨T2, _, rfl, h2, rfl, fl_strs _, _, rfl, ?_⟩
      rw [if_neg Bool.false_ne_true, inV_strs]
      have li : i < xs.length := (List.getElem?_eq_some_iff.mp ez).1
      refine ite2 (fun hc => ?_) (fun hc => ?_)
      · have hm : z ∈ xs.take i := of_decide_eq_true hc
        have e : again xs = some z := firstN_at hn (by show (xs[i]?.bind _) = _; rw [ez]; exact if_pos hm) li
        rw [e] at k
        exact ⟨_, rfl, k _ (sm.trans (sT.trans s2))⟩
      · have hm : z ∉ xs.take i := fun q => hc (decide_eq_true q)
        exact ⟨_, _, rfl, firstN_step hn (by show (xs[i]?.bind _) = _; rw [ez]; exact if_neg hm), sm.trans (sT.trans s2)⟩
    · rintro σ G ⟨v1, v2, rfl, hn, sm⟩
      rw [List.length_map] at hn
      have e : again xs = none := hn
      rw [e] at k
      exact k G sm
end
end K43

namespace K43
open PySem PySem.Spec PyProof.Rows L2 Ow Xv
section
variable {P : Program} {w : World} {K : PySem.W.Frag} {mg : Str → Option Value} {base : Heap} {f : Addr} {fd : FuncData}
theorem ok_ck (F : FnP K "check_names" sCheckNames f fd) (Y : Fx w K mg) : FnOk P w K mg base (L2.CX P w) 3 f fd ["lists"] (spCk K) := by
  obtain ⟨dW, FW⟩ := Y.dIsWord
  obtain ⟨dA, FA⟩ := Y.dFirstAgain
  have bW := FunD.bindsN (ps := ["value"]) FW fun _ _ _ _ _ _ us hl => match us, hl with | [_], _ => rfl
  have bA := FunD.bindsN (ps := ["names"]) FA fun _ _ _ _ _ _ us hl => match us, hl with | [_], _ => rfl
  have GW : FnOk P w K mg base CX0 1 _ dW ["value"] spIW := ok_iw FW Y
  have GA : FnOk P w K mg base CX0 1 _ dA ["names"] (spFA K) := ok_fa FA Y
  refine F.ok scCN (fun vs H Q E h => ?_) (fun cdv A outer s H vs Q E hr h => ?_)
  · obtain ⟨l, a, b, xs, ns, rfl, _⟩ := h
    rfl
  · have nd := scCN.nd
    have B := Y.bl
    have hr1 : Room 1 _ := hr.mono (by decide)
    refine ⟨_, pss_cons (ps_for (passes_of rfl) rfl (pi_list (pv 0)) (pg_name (i := 1) nd rfl (Or.inl rfl)) (pss_one (ps_for (passes_of rfl) rfl (pi_seqA (pv 1)) (pg_name (i := 2) nd rfl (Or.inl rfl))
        (pss_one (ps_if (pt_not (pt_val (pe_call GW hr1 rfl Y.gIsWord FW.kp bW .nil pass0 (pa_cons (pv 2) pa_nil)))) (pss_one (ps_raise rfl (takes_of rfl rfl rfl rfl) (pmk_ra (raBN Y) hr (by rfl) Y.gBadName (pa_cons (pv 2) pa_nil)))) pss_nil)))))
      (pss_one (ps_for (passes_of rfl) rfl (pi_list (pv 0)) (pg_name (i := 1) nd rfl (Or.inl rfl))
        (pss_one (ps_if (pt_cmpR op_lt (pe_lenSetD rfl (by rfl) B.len (by rfl) Y.bSet (pv 1)) (pe_callB call_len_seq (by rfl) B.len PySem.boot_len (pa_cons (pv 1) pa_nil)) (nomark _))
          (pss_one (ps_raise rfl (takes_of rfl rfl rfl rfl) (pmk_ra (raTT Y) hr (by rfl) Y.gTwiceTold (pa_cons (pe_call GA hr1 rfl Y.gFirstAgain FA.kp bA .nil pass0 (pa_cons (pv 1) pa_nil)) pa_nil)))) pss_nil)))), ?_⟩
    obtain ⟨l, a, b, xs, ns, rfl, hl, hx, hn, lw, lx, ln, k⟩ := h
    obtain ⟨st, hst⟩ : ∃ st : Nat → Nat, st = fun i => if i = 0 then 0 else if i = 1 then xs.length else xs.length + ns.length := ⟨_, rfl⟩
    have st0 : st 0 = 0 := by rw [hst]; rfl
    have st1 : st 1 = xs.length := by rw [hst]; rfl
    have st2 : st 2 = xs.length + ns.length := by rw [hst]; rfl
    clear hst
    have it : ∀ (i : Nat) (v : V), ([.ref a, .ref b] : List V)[i]? = some v → ∃ (c : Addr) (zs : List Str), v = .ref c ∧ SqA K H c (zs.map V.str) ∧ zs.length < 64 ∧ (∀ x ∈ zs, x.length ≤ 900) ∧ st (i + 1) = st i + zs.length ∧ (∀ (j : Nat) (x : Str), zs[j]? = some x → (xs ++ ns)[st i + j]? = some x) ∧ ((i = 0 ∧ zs = xs) ∨ (i = 1 ∧ zs = ns)) := fun i v hi => by
      match i, hi with
      | 0, hi =>
        cases hi
        refine ⟨a, xs, rfl, hx, lx, fun x h => lw x (List.mem_append_left _ h), by rw [st0, st1, Nat.zero_add], fun j x h => ?_, .inl ⟨rfl, rfl⟩⟩
        rw [st0, Nat.zero_add, List.getElem?_append_left (List.getElem?_eq_some_iff.mp h).1]
        exact h
      | 1, hi =>
        cases hi
        refine ⟨b, ns, rfl, hn, ln, fun x h => lw x (List.mem_append_right _ h), by rw [st1, st2], fun j x h => ?_, .inr ⟨rfl, rfl⟩⟩
        rw [st1, List.getElem?_append_right (Nat.le_add_right _ _), Nat.add_sub_cancel_left]
        exact h
      | (i + 2), hi => cases hi
    refine ⟨_, rfl, l, rfl, ⟨_, hl⟩, for_list (K := K) (a := l) (xs := [.ref a, .ref b]) (fun i σ G => (∃ v1 v2, σ = [some (.ref l), v1, v2]) ∧ firstN (fun i => (xs ++ ns)[i]?.bind fun x => if isW x = true then none else some x) (st i) = none ∧ Same H G) ⟨⟨_, _, rfl⟩, by rw [st0]; rfl, Same.refl _⟩ (fun i σ G _ q => q.2.2.seq hl) ?_ ?_⟩
    · rintro i v σ G hi ⟨⟨v1, v2, rfl⟩, hF, sm⟩
      obtain ⟨c, zs, rfl, hA, lz, lzw, sti, at_, _⟩ := it i v hi
      refine ⟨_, rfl, c, zs.map V.str, rfl, hA.same sm, fun J GG wk gk => for_it wk (fun j σ G' => (∃ v2, σ = [some (.ref l), some (.ref c), v2]) ∧ firstN (fun i => (xs ++ ns)[i]?.bind fun x => if isW x = true then none else some x) (st i + j) = none ∧ Same G G') ⟨⟨_, rfl⟩, hF, Same.refl _⟩ (fun j σ G' _ q => gk _ q.2.2) ?_ ?_⟩
      · rintro j v σ G' G'' hj ⟨⟨v2, rfl⟩, hF2, s2⟩ ⟨rfl, ev⟩
        obtain ⟨x, ex, rfl⟩ := str_at ev
        have ea := at_ j x ex
        have lj := (List.getElem?_eq_some_iff.mp ea).1
        refine ⟨_, rfl, x, rfl, lzw x (List.mem_of_getElem? ex), fun G3 s3 => ⟨_, rfl, ite2 (fun hc => ?_) (fun hc => ?_)⟩⟩
        · have ew : isW x = false := by simpa using hc
          have e : badN (xs ++ ns) = some x := firstN_at hF2 (by show ((xs ++ ns)[st i + j]?.bind _) = _; rw [ea]; exact if_neg (by rw [ew]; exact Bool.false_ne_true)) lj
          rw [e] at k
          have smA := sm.trans (s2.trans s3)
          refine ⟨_, rfl, (by show 1 ≤ 1000; decide), fun q hq => mkO_at (fun d H' s hd e2 => k d H' (smA.trans s) (none_of smA hd) e2) q hq⟩
        · have ew : isW x = true := by simpa using hc
          exact ⟨⟨_, rfl⟩, firstN_step hF2 (by show ((xs ++ ns)[st i + j]?.bind _) = _; rw [ea]; exact if_pos ew), s2.trans s3⟩
      · rintro σ G' ⟨⟨v2, rfl⟩, hF2, s2⟩
        rw [List.length_map, ← sti] at hF2
        exact ⟨⟨_, _, rfl⟩, hF2, sm.trans s2⟩
    · rintro σ G ⟨⟨v1, v2, rfl⟩, hF, sm⟩
      have eN : badN (xs ++ ns) = none := by
        have z : st ([.ref a, .ref b] : List V).length = (xs ++ ns).length := by rw [List.length_append]; exact st2
        rw [z] at hF
        exact hF
      rw [eN] at k
      dsimp only at k
      refine ⟨_, rfl, l, rfl, ⟨_, sm.seq hl⟩, for_list (K := K) (a := l) (xs := [.ref a, .ref b]) (fun i σ G => (∃ v1 v2, σ = [some (.ref l), v1, v2]) ∧ (1 ≤ i → again xs = none) ∧ (2 ≤ i → again ns = none) ∧ Same H G) ⟨⟨_, _, rfl⟩, fun h => absurd h (by decide), fun h => absurd h (by decide), sm⟩ (fun i σ G _ q => q.2.2.2.seq hl) ?_ ?_⟩
      · rintro i v σ G hi ⟨⟨v1, v2, rfl⟩, h1, h2, sm⟩
        obtain ⟨c, zs, rfl, hA, lz, lzw, sti, at_, wh⟩ := it i v hi
        have hA2 := hA.same sm
        refine ⟨_, rfl, c, zs, rfl, hA2, lz, _, rfl, c, zs.map V.str, rfl, hA2, _, _, rfl, rfl, _, rfl, ?_⟩
        rw [List.length_map]
        refine ite2 (fun hc => ?_) (fun hc => ?_)
        · have lt : cn zs zs.length < zs.length := by
            have := of_decide_eq_true hc
            omega
          obtain ⟨x, ex⟩ := Option.ne_none_iff_exists'.mp (cn_nodup.mp lt)
          refine ⟨_, rfl, c, zs, rfl, hA2, fun H3 s3 => ?_⟩
          rw [ex]
          refine ⟨(by show 1 ≤ 1000; decide), fun q hq => mkO_at (fun d H' s hd e2 => ?_) q hq⟩
          have smA := sm.trans s3
          rcases wh with ⟨rfl, rfl⟩ | ⟨rfl, rfl⟩
          · rw [ex] at k
            exact k d H' (smA.trans s) (none_of smA hd) e2
          · rw [h1 (Nat.le_refl _), ex] at k
            exact k d H' (smA.trans s) (none_of smA hd) e2
        · have no : again zs = none := by
            cases e : again zs with
            | none => rfl
            | some x =>
              have lt := cn_nodup.mpr (by rw [e]; simp)
              exact absurd (decide_eq_true (show ((cn zs zs.length : Nat) : Int) < (zs.length : Int) by omega)) hc
          refine ⟨⟨_, _, rfl⟩, fun hh => ?_, fun hh => ?_, sm⟩
          · rcases wh with ⟨rfl, rfl⟩ | ⟨rfl, rfl⟩
            · exact no
            · exact h1 (by omega)
          · rcases wh with ⟨rfl, rfl⟩ | ⟨rfl, rfl⟩
            · omega
            · exact no
      · rintro σ G ⟨⟨v1, v2, rfl⟩, h1, h2, sm⟩
        rw [h1 (show 1 ≤ 2 by decide), h2 (show 2 ≤ 2 by decide)] at k
        exact k G sm
end
end K43

namespace K43
open PySem PySem.Spec PyProof.Rows L2 Ow Xv
/-! ### ends checked -/
def TupsA (K : PySem.W.Frag) (H : Hp) (l : Addr) (vss : List (List V)) : Prop := ∃ as : List Addr, SqA K H l (as.map V.ref) ∧ as.length = vss.length ∧ ∀ (i : Nat) (t : Addr), as[i]? = some t → ∃ vs, vss[i]? = some vs ∧ SqT K H t vs
theorem TupsA.same {K : PySem.W.Frag} {H H' : Hp} {l : Addr} {vss : List (List V)} (s : Same H H') (h : TupsA K H l vss) : TupsA K H' l vss := by
  obtain ⟨as, a, b, c⟩ := h
  exact ⟨as, a.same s, b, fun i t e => let ⟨vs, e1, e2⟩ := c i t e; ⟨vs, e1, sqt_same s e2⟩⟩
theorem tt_at {ts : List Tt} {i : Nat} {vs : List V} (e1 : (ts.map ttV)[i]? = some vs) : ∃ q, ts[i]? = some q ∧ vs = ttV q := by
  rw [List.getElem?_map] at e1
  cases e : ts[i]? with
  | none => rw [e] at e1; cases e1
  | some z => rw [e] at e1; exact ⟨z, rfl, (Option.some.inj e1).symm⟩
def spCE2 (K : PySem.W.Frag) : Sp := fun vs H Q E => ∃ (s l t : Addr) (xs : List Str) (ls : List Lt) (ts : List Tt), vs = [.ref s, .ref l, .ref t] ∧ SqA K H s (xs.map V.str) ∧ TupsA K H l (ls.map ltV) ∧ TupsA K H t (ts.map ttV) ∧ ls.length ≤ 60 ∧
  match badE xs ls with
  | some x => ∀ (d : Addr) (H' : Hp), Same H H' → H d = none → H' d = some (.xd [("name", .str x)]) → E (.ref (CUnknownName K)) (some d) H'
  | none => (match badT (ls.map (·.1)) ts with
    | some x => ∀ (d : Addr) (H' : Hp), Same H H' → H d = none → H' d = some (.xd [("name", .str x)]) → E (.ref (CUnknownName K)) (some d) H'
    | none => ∀ H', Same H H' → Q .non H')
section
variable {P : Program} {w : World} {K : PySem.W.Frag} {mg : Str → Option Value} {base : Heap} {f : Addr} {fd : FuncData}
theorem ok_ce2 (F : FnP K "_check_ends" sCheckEnds f fd) (Y : Fx w K mg) : FnOk P w K mg base (L2.CX P w) 3 f fd ["sorts", "letters", "totals"] (spCE2 K) := by
  refine F.ok scCE (fun vs H Q E h => ?_) (fun cdv A outer s H vs Q E hr h => ?_)
  · obtain ⟨a, b, c, xs, ls, ts, rfl, _⟩ := h
    rfl
  · have nd := scCE.nd
    refine ⟨_, pss_cons (ps_for (passes_of rfl) rfl (pi_seqA (pv 1)) (pg_tup rfl (pgs_cons (pg_name (i := 3) nd rfl (Or.inl rfl)) (pgs_cons (pg_name (i := 4) nd rfl (Or.inl rfl)) (pgs_cons (pg_name (i := 5) nd rfl (Or.inl rfl)) pgs_nil))))
        (pss_one (ps_for (passes_of rfl) rfl (pi_tup (pe_tup (pa_cons (pv 4) (pa_cons (pv 5) pa_nil)))) (pg_name (i := 6) nd rfl (Or.inl rfl))
          (pss_one (ps_if (pt_cmpR op_notIn_seq (pv 6) (pv 0) (by rfl)) (pss_one (ps_raise rfl (takes_of rfl rfl rfl rfl) (pmk_ra (raUN Y) hr (by rfl) Y.gUnknownName (pa_cons (pv 6) pa_nil)))) pss_nil)))))
      (pss_cons (ps_setLc (i := 7) (own := [("letter", 8)]) (g := gName 8) (tt := tYes) (te := tOp (rIxT K) (tVar 8) (tC (.int 0))) rfl nd rfl rfl (by rfl) (pi_seqA (pv 1)) (blkOk_by (N := NCE) (sc := defScope sCheckEnds) (by decide +kernel)) (fun _ _ _ _ _ => pg_name (i := 8) nd rfl (Or.inl rfl)) (fun _ _ _ _ _ => pts_nil)
        (fun _ _ _ _ _ => pe_ix ix_tup (pv 8) pe_int (fun _ _ => rfl)))
      (pss_one (ps_for (passes_of rfl) rfl (pi_seqA (pv 2)) (pg_tup rfl (pgs_cons (pg_name (i := 9) nd rfl (Or.inl rfl)) (pgs_cons (pg_name (i := 3) nd rfl (Or.inl rfl)) pgs_nil)))
        (pss_one (ps_if (pt_cmpR op_notIn_seq (pv 9) (pv 7) (by rfl)) (pss_one (ps_raise rfl (takes_of rfl rfl rfl rfl) (pmk_ra (raUN Y) hr (by rfl) Y.gUnknownName (pa_cons (pv 9) pa_nil)))) pss_nil))))), ?_⟩
    obtain ⟨a, l, t, xs, ls, ts, rfl, hs, hl, ht, hn, k⟩ := h
    obtain ⟨as, q, la, g⟩ := id hl
    rw [List.length_map] at la
    refine ⟨_, rfl, l, _, rfl, q, fun J GG wk gk => ?_⟩
    refine for_it wk (fun i σ G => (∃ v3 v4 v5 v6, σ = [some (.ref a), some (.ref l), some (.ref t), v3, v4, v5, v6, none, none, none]) ∧ firstN (fun i => ls[i]?.bind fun q => if q.2.1 ∉ xs then some q.2.1 else if q.2.2 ∉ xs then some q.2.2 else none) i = none ∧ Same H G) ⟨⟨_, _, _, _, rfl⟩, rfl, Same.refl _⟩ (fun i σ G _ p => gk G p.2.2) ?_ ?_
    · rintro i v σ G G' hi ⟨⟨v3, v4, v5, v6, rfl⟩, hF, sm⟩ ⟨rfl, ev⟩
      obtain ⟨b, eb, rfl⟩ := ref_at ev
      obtain ⟨vs, e1, hT⟩ := g i b eb
      obtain ⟨lt, e2, rfl⟩ := lt_at e1
      have li := (List.getElem?_eq_some_iff.mp e2).1
      refine ⟨b, _, rfl, sqt_same sm hT, rfl, _, _, rfl, _, _, rfl, _, _, rfl, rfl, ?_⟩
      refine ⟨_, rfl, _, rfl, szl (by show 2 ≤ 1000; decide), fun p hp => ?_⟩
      have sp : Same G' (upd G' p (.tup [.str lt.2.1, .str lt.2.2])) := same_upd hp
      refine ⟨p, rfl, ⟨_, SqT.of upd_same⟩, for_tup (K := K) (a := p) (xs := [.str lt.2.1, .str lt.2.2]) (fun j σ G2 => (∃ v6, σ = [some (.ref a), some (.ref l), some (.ref t), some (.str lt.1), some (.str lt.2.1), some (.str lt.2.2), v6, none, none, none]) ∧ (1 ≤ j → lt.2.1 ∈ xs) ∧ (2 ≤ j → lt.2.2 ∈ xs) ∧ Same (upd G' p (.tup [.str lt.2.1, .str lt.2.2])) G2) ⟨⟨_, rfl⟩, fun h => absurd h (by decide), fun h => absurd h (by decide), Same.refl _⟩ (fun j σ G2 _ z => sqt_same z.2.2.2 (SqT.of upd_same)) ?_ ?_⟩
      · rintro j v σ G2 hj ⟨⟨v6, rfl⟩, m1, m2, s2⟩
        have smA := sm.trans (sp.trans s2)
        obtain ⟨x, rfl, hx1, hx2⟩ : ∃ x : Str, v = .str x ∧ (x ∉ xs → badE xs ls = some x) ∧ (x ∈ xs → (1 ≤ j + 1 → lt.2.1 ∈ xs) ∧ (2 ≤ j + 1 → lt.2.2 ∈ xs)) := by
          match j, hj with
          | 0, hj =>
            cases hj
            exact ⟨_, rfl, fun h => firstN_at hF (by show (ls[i]?.bind _) = _; rw [e2]; exact if_pos h) li, fun h => ⟨fun _ => h, fun q => absurd q (by decide)⟩⟩
          | 1, hj =>
            cases hj
            exact ⟨_, rfl, fun h => firstN_at hF (by show (ls[i]?.bind _) = _; rw [e2]; show (if lt.2.1 ∉ xs then _ else _) = _; rw [if_neg (fun z => z (m1 (Nat.le_refl _))), if_pos h]) li, fun h => ⟨fun _ => m1 (Nat.le_refl _), fun _ => h⟩⟩
          | (j + 2), hj => cases hj
        refine ⟨_, rfl, _, rfl, a, xs.map V.str, rfl, hs.same smA, rfl, flat_strs xs, _, rfl, ?_⟩
        rw [if_pos rfl, inV_strs]
        refine ite2 (fun hc => ?_) (fun hc => ?_)
        · have no : x ∉ xs := by simpa using hc
          rw [hx1 no] at k
          exact ⟨_, rfl, (by show 1 ≤ 1000; decide), fun q hq => mkO_at (fun d H' s hd e => k d H' (smA.trans s) (none_of smA hd) e) q hq⟩
        · have yes : x ∈ xs := by simpa using hc
          exact ⟨⟨_, rfl⟩, (hx2 yes).1, (hx2 yes).2, s2⟩
      · rintro σ G2 ⟨⟨v6, rfl⟩, m1, m2, s2⟩
        exact ⟨⟨_, _, _, _, rfl⟩, firstN_step hF (by show (ls[i]?.bind _) = _; rw [e2]; show (if lt.2.1 ∉ xs then _ else _) = _; rw [if_neg (fun z => z (m1 (show 1 ≤ 2 by decide))), if_neg (fun z => z (m2 (show 2 ≤ 2 by decide)))]), sm.trans (sp.trans s2)⟩
    · rintro σ G ⟨⟨v3, v4, v5, v6, rfl⟩, hF, sm⟩
      rw [List.length_map, la] at hF
      have eE : badE xs ls = none := hF
      rw [eE] at k
      dsimp only at k
      refine ⟨_, rfl, l, _, rfl, q.same sm, fun J GG wk gk D hD => ?_⟩
      refine lc_it wk (fun i G' => G' D = some (.lst (((ls.take i).map (·.1)).map V.str)) ∧ Same G G') ⟨upd_same, same_upd hD⟩ (fun i G' _ p => gk G' p.2) ?_ ?_
      · rintro i v G1 G' hi ⟨e, s2⟩ ⟨rfl, ev⟩
        obtain ⟨b, eb, rfl⟩ := ref_at ev
        obtain ⟨vs, e1, hT⟩ := g i b eb
        obtain ⟨lt, e2, rfl⟩ := lt_at e1
        have li := (List.getElem?_eq_some_iff.mp e2).1
        refine ⟨rfl, _, rfl, b, _, 0, _, rfl, rfl, sqt_same (sm.trans s2) hT, rfl, _, e, ?_, ?_, same_put hD s2⟩
        · rw [List.length_map, List.length_map, List.length_take]
          exact small1000 (by omega)
        · rw [upd_same, List.take_add_one, e2, List.map_append, List.map_append]
          rfl
      · rintro G1 ⟨e, s2⟩
        rw [List.length_map, la, List.take_length] at e
        obtain ⟨bs, q2, lb, g2⟩ := id ht
        rw [List.length_map] at lb
        have sm1 := sm.trans s2
        refine ⟨_, rfl, t, _, rfl, q2.same sm1, fun J GG wk gk => ?_⟩
        refine for_it wk (fun i σ G2 => (∃ v3 v9, σ = [some (.ref a), some (.ref l), some (.ref t), v3, v4, v5, v6, some (.ref D), none, v9]) ∧ firstN (fun i => ts[i]?.bind fun q => if q.1 ∉ ls.map (·.1) then some q.1 else none) i = none ∧ Same G1 G2) ⟨⟨_, _, rfl⟩, rfl, Same.refl _⟩ (fun i σ G2 _ p => gk G2 p.2.2) ?_ ?_
        · rintro i v σ G2 G' hi ⟨⟨v3, v9, rfl⟩, hF2, s3⟩ ⟨rfl, ev⟩
          obtain ⟨b, eb, rfl⟩ := ref_at ev
          obtain ⟨vs, e1, hT⟩ := g2 i b eb
          obtain ⟨tt, e2, rfl⟩ := tt_at e1
          have li := (List.getElem?_eq_some_iff.mp e2).1
          have smA := sm1.trans s3
          refine ⟨b, _, rfl, sqt_same smA hT, rfl, _, _, rfl, _, _, rfl, rfl, ?_⟩
          refine ⟨_, rfl, _, rfl, D, _, rfl, .inl (SqL.of (s3 _ _ e)), rfl, flat_strs _, _, rfl, ?_⟩
          rw [if_pos rfl, inV_strs]
          refine ite2 (fun hc => ?_) (fun hc => ?_)
          · have no : tt.1 ∉ ls.map (·.1) := by simpa using hc
            have eb2 : badT (ls.map (·.1)) ts = some tt.1 := firstN_at hF2 (by show (ts[i]?.bind _) = _; rw [e2]; exact if_pos no) li
            rw [eb2] at k
            exact ⟨_, rfl, (by show 1 ≤ 1000; decide), fun q hq => mkO_at (fun d H' s hd e => k d H' (smA.trans s) (none_of smA hd) e) q hq⟩
          · have yes : ¬ (tt.1 ∉ ls.map (·.1)) := by
              intro z
              exact hc (by simpa using z)
            exact ⟨⟨_, _, rfl⟩, firstN_step hF2 (by show (ts[i]?.bind _) = _; rw [e2]; exact if_neg yes), s3⟩
        · rintro σ G2 ⟨⟨v3, v9, rfl⟩, hF2, s3⟩
          rw [List.length_map, lb] at hF2
          have eb2 : badT (ls.map (·.1)) ts = none := hF2
          rw [eb2] at k
          exact k G2 (sm1.trans s3)
end
end K43

namespace K43
open PySem PySem.Spec PyProof.Rows L2 Ow Xv
/-! ### totals checked -/
/-- a text that may be compared -/
structure Okx (x : Str) : Prop where
  l : x.length ≤ 900
  o : PyData.strOk x = true
def prD (q : Tt) : PyData := .tuple [.str q.1, .str q.2]
theorem prD_strs (q : Tt) : prD q = .tuple ([q.1, q.2].map PyData.str) := rfl
theorem eqv_strs : ∀ xs ys : List Str, PyData.eqv (.tuple (xs.map PyData.str)) (.tuple (ys.map PyData.str)) = decide (xs = ys)
  | [], [] => by simp [PyData.eqv, PyData.eqvAll]
  | [], y :: ys => by simp [PyData.eqv, PyData.eqvAll]
  | x :: xs, [] => by simp [PyData.eqv, PyData.eqvAll]
  | x :: xs, y :: ys => by
    have e := eqv_strs xs ys
    simp only [PyData.eqv] at e
    simp only [List.map_cons, PyData.eqv, PyData.eqvAll, e]
    by_cases h : x = y <;> by_cases g : xs = ys <;> simp [h, g]
theorem eqv_pr (p q : Tt) : PyData.eqv (prD p) (prD q) = decide (p = q) := by
  rw [prD_strs, prD_strs, eqv_strs]
  obtain ⟨a, b⟩ := p
  obtain ⟨c, d⟩ := q
  by_cases h : a = c <;> by_cases g : b = d <;> simp [h, g]
theorem any_pr (q : Tt) : ∀ ts : List Tt, ((ts.map prD).any fun z => PyData.eqv z (prD q)) = decide (q ∈ ts)
  | [] => rfl
  | p :: ts => by
    rw [List.map_cons, List.any_cons, any_pr q ts, eqv_pr]
    by_cases h : p = q
    · subst h
      simp
    · have h2 : ¬ q = p := fun e => h e.symm
      simp [h, h2]
theorem lay_pr {q : Tt} (h : Okx q.1 ∧ Okx q.2) : (prD q).canLay0 = true := by simp [prD, PyData.canLay0, PyData.canLayAll0, h.1.o, h.2.o]
theorem lay_prs : ∀ {ts : List Tt}, (∀ q ∈ ts, Okx q.1 ∧ Okx q.2) → PyData.canLayAll0 (ts.map prD) = true
  | [], _ => by simp [PyData.canLayAll0]
  | q :: ts, h => by simp [PyData.canLayAll0, lay_pr (h q List.mem_cons_self), lay_prs fun x hx => h x (List.mem_cons_of_mem _ hx)]
theorem dep_prs : ∀ ts : List Tt, PyData.depthAll (ts.map prD) ≤ 1
  | [] => by simp [PyData.depthAll]
  | q :: ts => by
    have := dep_prs ts
    simp only [List.map_cons, PyData.depthAll, prD, PyData.depth]
    omega
theorem shp_pr {q : Tt} (h : Okx q.1 ∧ Okx q.2) : SeqAt.shaped (prD q) = true := shp_of (lay_pr h) (by simp only [prD, PyData.depth, PyData.depthAll]; omega)
theorem shp_prs {ts : List Tt} (h : ∀ q ∈ ts, Okx q.1 ∧ Okx q.2) : SeqAt.shaped (.list (ts.map prD)) = true := shp_of (by simpa [PyData.canLay0] using lay_prs h) (by
  have := dep_prs ts
  simp only [PyData.depth]
  omega)
/-- at the addresses stand the pairs -/
theorem dpa_prs {K : PySem.W.Frag} {H : Hp} : ∀ {as : List Addr} {ts : List Tt}, as.length = ts.length → (∀ (i : Nat) (t : Addr), as[i]? = some t → ∃ q, ts[i]? = some q ∧ SqT K H t (ttV q)) → DpAll K H (as.map V.ref) (ts.map prD)
  | [], [], _, _ => .nil
  | [], q :: ts, l, _ => by cases l
  | a :: as, [], l, _ => by cases l
  | a :: as, q :: ts, l, h => by
    obtain ⟨q2, e, hq⟩ := h 0 a rfl
    cases e
    exact .cons (.tup hq (.cons (.str _) (.cons (.str _) .nil))) (dpa_prs (by simpa using l) fun i t e => h (i + 1) t e)
def spCT2 (K : PySem.W.Frag) : Sp := fun vs H Q E => ∃ (t : Addr) (ts : List Tt), vs = [.ref t] ∧ TupsAt K H t (ts.map ttV) ∧ (∀ q ∈ ts, Okx q.1 ∧ Okx q.2) ∧
  match badF ts with
  | some x => ∀ (d : Addr) (H' : Hp), Same H H' → H d = none → H' d = some (.xd [("name", .str x)]) → E (.ref (CBadFrame K)) (some d) H'
  | none => ∀ H', Same H H' → Q .non H'
section
variable {P : Program} {w : World} {K : PySem.W.Frag} {mg : Str → Option Value} {base : Heap} {f : Addr} {fd : FuncData}
theorem ok_ct2 (F : FnP K "_check_totals" sCheckTotals f fd) (Y : Fx w K mg) : FnOk P w K mg base (L2.CX P w) 3 f fd ["totals"] (spCT2 K) := by
  refine F.ok scCT (fun vs H Q E h => ?_) (fun cdv A outer s H vs Q E hr h => ?_)
  · obtain ⟨t, ts, rfl, _⟩ := h
    rfl
  · have nd := scCT.nd
    have hu64 := hu64_of hr
    have hu65 : (A.deeper (envOfC "_check_totals" (defScope sCheckTotals) s.heap.objs.size f cdv)).units + 65 < cLine := by have := hr.un; omega
    refine ⟨_, pss_one (ps_for (passes_of rfl) rfl (pi_enumA (by rfl) Y.bEnumerate (pa_cons (pv 0) pa_nil)) (pg_tup rfl (pgs_cons (pg_name (i := 1) nd rfl (Or.inl rfl)) (pgs_cons (pg_tup rfl (pgs_cons (pg_name (i := 2) nd rfl (Or.inl rfl)) (pgs_cons (pg_name (i := 3) nd rfl (Or.inl rfl)) pgs_nil))) pgs_nil)))
      (pss_one (ps_if (pw_or (pt_cmpR op_notIn_seq (pv 3) (pe_tup (pa_cons pe_str (pa_cons pe_str pa_nil))) (by rfl)) (pw_or1 (pt_cmpR (op_inD hu65) (pe_tup (pa_cons (pv 2) (pa_cons (pv 3) pa_nil))) (pe_slice sl_list (pv 0) po_none (po_some (pv 1))) (by rfl)))).pt
        (pss_one (ps_raise rfl (takes_of rfl rfl rfl rfl) (pmk_ra (raBF Y) hr (by rfl) Y.gBadFrame (pa_cons (pv 2) pa_nil)))) pss_nil))), ?_⟩
    obtain ⟨t, ts, rfl, ht, hok, k⟩ := h
    obtain ⟨as, q, la, g⟩ := id ht
    rw [List.length_map] at la
    refine ⟨_, rfl, t, _, rfl, .inl q, fun J GG wk gk => ?_⟩
    refine for_it wk (fun i σ G => (∃ v1 v2 v3, σ = [some (.ref t), v1, v2, v3]) ∧ firstN (fun i => ts[i]?.bind fun q => if (q.2 ≠ ("on" : Str) ∧ q.2 ≠ ("back" : Str)) ∨ q ∈ ts.take i then some q.1 else none) i = none ∧ Same H G) ⟨⟨_, _, _, rfl⟩, rfl, Same.refl _⟩ (fun i σ G _ p => gk G p.2.2) ?_ ?_
    · rintro i v σ G G' hi ⟨⟨v1, v2, v3, rfl⟩, hF, sm⟩ ⟨T, x, y, rfl, hT, rfl, ex, ey⟩
      cases ex
      obtain ⟨b, eb, rfl⟩ := ref_at (show (as.map V.ref)[i]? = some y from ey)
      obtain ⟨vs, e1, hB⟩ := g i b eb
      obtain ⟨tt, e2, rfl⟩ := tt_at e1
      have li := (List.getElem?_eq_some_iff.mp e2).1
      have sT := same_upd (o := .tup [V.int (i : Int), V.ref b]) hT
      have smT := sm.trans sT
      refine ⟨T, _, rfl, SqT.of upd_same, rfl, _, _, rfl, _, _, rfl, ⟨b, _, rfl, sqt_same smT hB, rfl, _, _, rfl, _, _, rfl, rfl, rfl, ?_⟩⟩
      dsimp only
      change tIfS _ _ _ _ [some (.ref t), some (.int (i : Int)), some (.str tt.1), some (.str tt.2)] (upd G T (.tup [V.int (i : Int), V.ref b]))
      refine ⟨_, rfl, szl (by show 2 ≤ 1000; decide), fun T2 hT2 => ?_⟩
      have s2 := same_upd (o := .tup [V.str "on", V.str "back"]) hT2
      have smA := smT.trans s2
      refine ⟨T2, _, rfl, .inr (SqT.of upd_same), rfl, fl_strs ["on", "back"], _, rfl, ?_⟩
      rw [if_pos rfl, show inV (V.str tt.2) [V.str "on", V.str "back"] = decide (tt.2 ∈ (["on", "back"] : List Str)) from inV_strs tt.2 ["on", "back"]]
      refine ite2 (fun hc => ?_) (fun hc => ?_)
      · have no : tt.2 ∉ (["on", "back"] : List Str) := by simpa using hc
        have e : badF ts = some tt.1 := firstN_at hF (by
          show (ts[i]?.bind _) = _
          rw [e2]
          exact if_pos (.inl ⟨fun z => no (by rw [z]; exact List.mem_cons_self), fun z => no (by rw [z]; exact List.mem_cons_of_mem _ List.mem_cons_self)⟩)) li
        rw [e] at k
        refine iteT ?_
        exact ⟨_, rfl, (by show 1 ≤ 1000; decide), fun q hq => mkO_at (fun d H' s hd e => k d H' (smA.trans s) (none_of smA hd) e) q hq⟩
      · have yes : tt.2 ∈ (["on", "back"] : List Str) := Classical.byContradiction fun z => hc (by rw [decide_eq_false z]; rfl)
        have nw : ¬ (tt.2 ≠ ("on" : Str) ∧ tt.2 ≠ ("back" : Str)) := fun z => by
          rcases List.mem_cons.mp yes with y | y
          · exact z.1 y
          · exact z.2 (List.mem_singleton.mp y)
        refine ⟨_, rfl, _, rfl, szl (by show 2 ≤ 1000; decide), fun T3 hT3 => ?_⟩
        have s3 := same_upd (o := .tup [V.str tt.1, V.str tt.2]) hT3
        refine ⟨_, rfl, _, rfl, _, rfl, t, _, rfl, (smA.trans s3).seq q, fun p hp => ?_⟩
        rw [cutV_take, ← List.map_take]
        have s4 := same_upd (o := .lst ((as.take i).map V.ref)) hp
        have smB := smA.trans (s3.trans s4)
        refine ⟨prD tt, (ts.take i).map prD, .tup (sqt_same s4 (SqT.of upd_same)) (.cons (.str _) (.cons (.str _) .nil)), .lst (SqL.of upd_same) (dpa_prs (by rw [List.length_take, List.length_take, la]) fun j t2 e => ?_), shp_pr (hok tt (List.mem_of_getElem? e2)), shp_prs (fun x hx => hok x (List.mem_of_mem_take hx)), ?_⟩
        · have lj : j < i := by
            have := (List.getElem?_eq_some_iff.mp e).1
            rw [List.length_take] at this
            omega
          rw [List.getElem?_take_of_lt lj] at e
          obtain ⟨vs, f1, f2⟩ := g j t2 e
          obtain ⟨q2, f3, rfl⟩ := tt_at f1
          exact ⟨q2, by rw [List.getElem?_take_of_lt lj]; exact f3, sqt_same smB f2⟩
        · refine ⟨_, rfl, ?_⟩
          rw [any_pr]
          refine ite2 (fun hc2 => ?_) (fun hc2 => ?_)
          · have hm : tt ∈ ts.take i := of_decide_eq_true hc2
            have e : badF ts = some tt.1 := firstN_at hF (by
              show (ts[i]?.bind _) = _
              rw [e2]
              exact if_pos (.inr hm)) li
            rw [e] at k
            exact ⟨_, rfl, (by show 1 ≤ 1000; decide), fun q hq => mkO_at (fun d H' s hd e => k d H' (smB.trans s) (none_of smB hd) e) q hq⟩
          · have hm : tt ∉ ts.take i := fun z => hc2 (decide_eq_true z)
            exact ⟨⟨_, _, _, rfl⟩, firstN_step hF (by
              show (ts[i]?.bind _) = _
              rw [e2]
              exact if_neg (fun z => z.elim nw hm)), smB⟩
    · rintro σ G ⟨⟨v1, v2, v3, rfl⟩, hF, sm⟩
      rw [List.length_map, la] at hF
      have eb2 : badF ts = none := hF
      rw [eb2] at k
      exact k G sm
end
end K43

namespace K43
open PySem PySem.Spec PyProof.Rows L2 Ow Xv
/-! ### the step of a total -/
def stepOf (q : Lt) (t : Tt) : Tt := if t.2 = ("on" : Str) then (q.2.1, q.2.2) else (q.2.2, q.2.1)
abbrev NSO : List Str := ["ends", "total", "name", "word", "first", "second"]
theorem scSO : FnScope NSO ["ends", "total"] (defScope sStepOf) := ⟨rfl, rfl, rfl, by decide +kernel, rfl, by decide +kernel, by decide +kernel⟩
def spSO (K : PySem.W.Frag) : Sp := fun vs H Q _ => ∃ (m t p : Addr) (q : Lt) (tt : Tt), vs = [.ref m, .ref t] ∧ DGet H m (.str q.1) (some (.ref p)) ∧ SqT K H p (endV q) ∧ SqT K H t (ttV tt) ∧ tt.1 = q.1 ∧ ∀ (T : Addr) (H' : Hp), Same H H' → SqT K H' T (ttV (stepOf q tt)) → Q (.ref T) H'
section
variable {P : Program} {w : World} {K : PySem.W.Frag} {mg : Str → Option Value} {base : Heap} {f : Addr} {fd : FuncData}
theorem ok_so (F : FnP K "_step_of" sStepOf f fd) (Y : Fx w K mg) : FnOk P w K mg base CX0 1 f fd ["ends", "total"] (spSO K) := by
  refine okD F scSO (fun vs H Q E h => ?_) (fun cdv A outer s H vs Q E hr h => ?_)
  · obtain ⟨m, t, p, q, tt, rfl, _⟩ := h
    rfl
  · have nd := scSO.nd
    have hu := hu_of hr
    refine ⟨_, pss_cons (ps_asg (pv 1) (pg_tup rfl (pgs_cons (pg_name (i := 2) nd rfl (Or.inl rfl)) (pgs_cons (pg_name (i := 3) nd rfl (Or.inl rfl)) pgs_nil))))
      (pss_cons (ps_asg (pe_dget hu (pv 0) (pv 2) nosl) (pg_tup rfl (pgs_cons (pg_name (i := 4) nd rfl (Or.inl rfl)) (pgs_cons (pg_name (i := 5) nd rfl (Or.inl rfl)) pgs_nil))))
      (pss_one (ps_ret (pe_ifExp (pt_cmpR op_eq (pv 3) pe_str (nomark _)) (pe_tup (pa_cons (pv 4) (pa_cons (pv 5) pa_nil))) (pe_tup (pa_cons (pv 5) (pa_cons (pv 4) pa_nil))))))), ?_⟩
    obtain ⟨m, t, p, q, tt, rfl, hm, hp, ht, en, k⟩ := h
    refine ⟨_, rfl, t, _, rfl, ht, rfl, _, _, rfl, _, _, rfl, rfl, ?_⟩
    dsimp only
    change tSeq _ _ _ [some (.ref m), some (.ref t), some (.str tt.1), some (.str tt.2), none, none] H
    refine ⟨_, rfl, _, rfl, m, .ref p, rfl, by rw [en]; exact hm, p, _, rfl, hp, rfl, _, _, rfl, _, _, rfl, rfl, ?_⟩
    dsimp only
    change tRet _ _ [some (.ref m), some (.ref t), some (.str tt.1), some (.str tt.2), some (.str q.2.1), some (.str q.2.2)] H
    refine ⟨_, rfl, rfl, _, rfl, ite2 (fun hc => ?_) (fun hc => ?_)⟩
    · have e : tt.2 = ("on" : Str) := by
        have z : V.str tt.2 = V.str "on" := of_decide_eq_true hc
        injection z
      refine ⟨_, rfl, _, rfl, szl (by show 2 ≤ 1000; decide), fun T hT => k T _ (same_upd hT) ?_⟩
      rw [show stepOf q tt = (q.2.1, q.2.2) from if_pos e]
      exact SqT.of upd_same
    · have e : tt.2 ≠ ("on" : Str) := fun z => hc (by rw [z]; exact decide_eq_true rfl)
      refine ⟨_, rfl, _, rfl, szl (by show 2 ≤ 1000; decide), fun T hT => k T _ (same_upd hT) ?_⟩
      rw [show stepOf q tt = (q.2.2, q.2.1) from if_neg e]
      exact SqT.of upd_same
end
end K43

namespace K43
open PySem PySem.Spec PyProof.Rows L2 Ow Xv
/-! ### steps checked -/
def spXM (K : PySem.W.Frag) (C : Addr) (n : Str) : Sp := fun vs H Q _ => ∃ (a m : Addr) (zs : List V), vs = [.ref a, .ref m] ∧ H a = some (exo a C none) ∧ SqL K H m zs ∧ ∀ (T : Addr) (dx : Addr), H T = none → dx ≠ T → dx ≠ a → H dx = none → Q .non (upd (upd (upd H T (.tup zs)) dx (exd dx [(n, .ref T)])) a (exo a C (some dx)))
theorem mkO_mem {K : PySem.W.Frag} {C m : Addr} {n : Str} {zs : List V} {H : Hp} {Q : XK} (hm : SqL K H m zs) (k : ∀ (d T : Addr) (H' : Hp), Same H H' → H d = none → H' d = some (.xd [(n, .ref T)]) → SqT K H' T zs → Q (.ref C) (some d) H') (a : Addr) (ha : H a = none) :
    spXM K C n (.ref a :: ([.ref m] ++ [])) (upd H a (exo a C none)) (fun v H2 => v = .non ∧ ∃ (d : Addr) (fs : List (Str × V)), H2 a = some (exo a C (some d)) ∧ H2 d = some (exd d fs) ∧ H d = none ∧ Q (.ref C) (some d) (upd (del H2 a) d (.xd fs))) (fun _ _ _ => False) := by
  refine ⟨a, m, zs, rfl, upd_same, (same_upd ha).seq hm, fun T dx hT n1 n2 hd => ?_⟩
  have nTa : T ≠ a := fun e => by rw [e, upd_same] at hT; cases hT
  have hd1 : H dx = none := (upd_ne n2).symm.trans hd
  have hT1 : H T = none := (upd_ne nTa).symm.trans hT
  refine ⟨rfl, dx, _, upd_same, (upd_ne n2).trans upd_same, hd1, k dx T _ (fun b o eb => ?_) hd1 upd_same ?_⟩
  · have m1 := ne_of_none eb ha
    have m2 := ne_of_none eb hd1
    have m3 := ne_of_none eb hT1
    rw [upd_ne m2, del_ne m1, upd_ne m1, upd_ne m2, upd_ne m3, upd_ne m1]
    exact eb
  · refine SqT.of ?_
    rw [upd_ne n1.symm, del_ne nTa, upd_ne nTa, upd_ne n1.symm, upd_same]
def lead (S : List Tt) (l : List Str) : List Str := l.filter fun x => l.any fun y => decide ((x, y) ∈ S)
def leadN (S : List Tt) : Nat → List Str → List Str
  | 0, l => l
  | n + 1, l => lead S (leadN S n l)
theorem lead_len (S : List Tt) (l : List Str) : (lead S l).length ≤ l.length := List.length_filter_le _ _
theorem lead_fix {S : List Tt} {l : List Str} (h : lead S l ≠ l) : (lead S l).length < l.length := by
  refine Nat.lt_of_le_of_ne (lead_len S l) fun e => h ?_
  unfold lead at e ⊢
  exact List.filter_eq_self.mpr (List.length_filter_eq_length_iff.mp e)
theorem leadN_fix {S : List Tt} {xs : List Str} {k : Nat} (h : lead S (leadN S k xs) = leadN S k xs) : ∀ m, k ≤ m → leadN S m xs = leadN S k xs := by
  intro m hm
  induction m with
  | zero => rw [show k = 0 by omega]
  | succ m ih =>
    by_cases e : k = m + 1
    · rw [e]
    · show lead S (leadN S m xs) = _
      rw [ih (by omega), h]
/-- what is left of the sorts -/
def rnd (S : List Tt) (xs : List Str) : List Str := leadN S xs.length xs
theorem rnd_at {S : List Tt} {xs : List Str} {k : Nat} (h : lead S (leadN S k xs) = leadN S k xs) (l : k ≤ xs.length) : rnd S xs = leadN S k xs := leadN_fix h _ l
section
variable {P : Program} {w : World} {K : PySem.W.Frag} {mg : Str → Option Value} {base : Heap} {f : Addr} {fd : FuncData}
theorem raCR (Y : Fx w K mg) : RaC P w K mg base (CComesRound K) ["self", "members"] (spXM K (CComesRound K) "members") := by
  obtain ⟨fd, F⟩ := Y.dComesRound_Init
  have b := FunD.bindsN (ps := ["self", "members"]) F fun _ _ _ _ _ _ us hl => match us, hl with | [_, _], _ => rfl
  refine ⟨⟨_, _, _, _, _, fd, PySem.F.excBase_ValueError, Y.xCR.q, Y.xCR.iC, Y.xCR.tI, ?_, b⟩, Y.xCR.ec.kp, Y.xCR.ec.be, Y.xCR.ty⟩
  refine okD F scXN5 (fun vs H Q E h => ?_) (fun cdv A outer s H vs Q E hr h => ?_)
  · obtain ⟨a, m, zs, rfl, _⟩ := h
    rfl
  · refine ⟨_, pss_one (ps_st (C := CComesRound K) PySem.F.store_ValueError Y.xCR.ec Y.xCR.ov Y.xCR.tk (pv 0) (pe_callTy call_tuple_of (by rfl) Y.bTuple (by decide +kernel) (pa_cons (pv 1) pa_nil))), ?_⟩
    obtain ⟨a, m, zs, rfl, ha, hm, k⟩ := h
    refine ⟨_, rfl, m, zs, rfl, .inl ⟨hm, fun T hT => ?_⟩⟩
    have nTa : a ≠ T := ne_of_none ha hT
    refine ⟨_, rfl, a, rfl, .inl ⟨(upd_ne nTa).trans ha, fun dx h1 h2 => ?_⟩⟩
    have nT : dx ≠ T := fun e => by rw [e, upd_same] at h1; cases h1
    exact k T dx hT nT h2 ((upd_ne nT).symm.trans h1)
end
end K43

namespace K43
open PySem PySem.Spec PyProof.Rows L2 Ow Xv
theorem prs_get {K : PySem.W.Frag} {H : Hp} {t : Addr} {S : List Tt} (h : TupsAt K H t (S.map ttV)) : ∃ as : List Addr, SqL K H t (as.map V.ref) ∧ DpAll K H (as.map V.ref) (S.map prD) := by
  obtain ⟨as, q, la, g⟩ := h
  rw [List.length_map] at la
  exact ⟨as, q, dpa_prs la fun i t e => let ⟨vs, e1, e2⟩ := g i t e; let ⟨q2, e3, e4⟩ := tt_at e1; ⟨q2, e3, e4 ▸ e2⟩⟩
/-- those from which a step leads to one of them -/
theorem lead_evG {K : PySem.W.Frag} {t L : Addr} {S : List Tt} {xs : List Str} {v0 v3 : Option V} {G : Hp} {Q : VK} (ht : TupsAt K G t (S.map ttV)) (hS : ∀ q ∈ S, Okx q.1 ∧ Okx q.2) (hL : SqL K G L (xs.map V.str)) (hx : ∀ x ∈ xs, Okx x) (lx : xs.length < 64) (k : ∀ D G', G D = none → Same G G' → G' D = some (.lst ((lead S xs).map V.str)) → Q (.ref D) G') :
    tLc (iList K (tVar 2)) (gName 4) (ttAny K) (tVar 4) [4] [v0, some (.ref t), some (.ref L), v3, none, none] G Q := by
  refine ⟨_, rfl, L, rfl, ⟨_, hL⟩, fun D hD => ?_⟩
  refine lc_list (K := K) (a := L) (xs := xs.map V.str) (fun i G' => G' D = some (.lst (((xs.take i).filter fun x => xs.any fun y => decide ((x, y) ∈ S)).map V.str)) ∧ Same G G') ⟨upd_same, same_upd hD⟩ (fun i G' _ p => p.2.seq hL) ?_ ?_
  · rintro i v G' hi ⟨e, s1⟩
    obtain ⟨x, ex, rfl⟩ := str_at hi
    have hxx := hx x (List.mem_of_getElem? ex)
    have li := (List.getElem?_eq_some_iff.mp ex).1
    refine ⟨rfl, ?_⟩
    show tB (tCB (rAny K) (tCons (tLc (iList K (tVar 2)) (gName 5) tYes (teIn K) [5]) tNil)) _ _ _
    refine ⟨_, rfl, L, rfl, ⟨_, s1.seq hL⟩, fun D2 hD2 => ?_⟩
    refine lc_list (K := K) (a := L) (xs := xs.map V.str) (fun j G2 => G2 D2 = some (.lst (((xs.take j).map fun y => decide ((x, y) ∈ S)).map V.bl)) ∧ Same G' G2) ⟨upd_same, same_upd hD2⟩ (fun j G2 _ p => p.2.seq (s1.seq hL)) ?_ ?_
    · rintro j v G2 hj ⟨e2, s2⟩
      obtain ⟨y, ey, rfl⟩ := str_at hj
      have hy := hx y (List.mem_of_getElem? ey)
      have lj := (List.getElem?_eq_some_iff.mp ey).1
      refine ⟨rfl, ?_⟩
      refine ⟨_, rfl, _, rfl, szl (by show 2 ≤ 1000; decide), fun T hT => ?_⟩
      have sT := same_upd (o := .tup [V.str x, V.str y]) hT
      obtain ⟨as, q, da⟩ := prs_get (ht.same (s1.trans (s2.trans sT)))
      refine ⟨_, rfl, prD (x, y), S.map prD, .tup (SqT.of upd_same) (.cons (.str _) (.cons (.str _) .nil)), .lst q da, shp_pr ⟨hxx, hy⟩, shp_prs hS, ?_⟩
      rw [any_pr]
      refine ⟨_, sT _ _ e2, ?_, ?_, same_put hD2 (s2.trans sT)⟩
      · rw [List.length_map, List.length_map, List.length_take]
        exact small1000 (by omega)
      · rw [upd_same, List.take_add_one, ey, List.map_append, List.map_append]
        rfl
    · rintro G2 ⟨e2, s2⟩
      rw [List.length_map, List.take_length] at e2
      refine ⟨D2, _, rfl, SqL.of e2, _, rfl, ?_⟩
      rw [List.any_map]
      have tk : (xs.take (i + 1)).filter (fun x => xs.any fun y => decide ((x, y) ∈ S)) = (xs.take i).filter (fun x => xs.any fun y => decide ((x, y) ∈ S)) ++ if (xs.any fun y => decide ((x, y) ∈ S)) = true then [x] else [] := by
        rw [List.take_add_one, ex, List.filter_append]
        congr 1
        show List.filter _ [x] = _
        rw [List.filter_cons, List.filter_nil]
      refine ite2 (fun hc => ?_) (fun hc => ?_)
      · have hc2 : (xs.any fun y => decide ((x, y) ∈ S)) = true := hc
        rw [if_pos hc2] at tk
        refine ⟨_, rfl, _, s2 _ _ e, ?_, ?_, same_put hD (s1.trans s2)⟩
        · rw [List.length_map]
          have := List.length_filter_le (fun x => xs.any fun y => decide ((x, y) ∈ S)) (xs.take i)
          rw [List.length_take] at this
          exact small1000 (by omega)
        · rw [upd_same, tk, List.map_append]
          rfl
      · have hc2 : ¬ (xs.any fun y => decide ((x, y) ∈ S)) = true := hc
        rw [if_neg hc2, List.append_nil] at tk
        refine ⟨?_, s1.trans s2⟩
        rw [tk]
        exact s2 _ _ e
  · rintro G' ⟨e, s1⟩
    rw [List.length_map, List.take_length] at e
    exact k D G' hD s1 e
theorem lead_stG {K : PySem.W.Frag} {t L : Addr} {S : List Tt} {xs : List Str} {v0 v3 : Option V} {G : Hp} {u : TS} {E : Ends} (ht : TupsAt K G t (S.map ttV)) (hS : ∀ q ∈ S, Okx q.1 ∧ Okx q.2) (hL : SqL K G L (xs.map V.str)) (hx : ∀ x ∈ xs, Okx x) (lx : xs.length < 64) (k : ∀ D G', G D = none → Same G G' → G' D = some (.lst ((lead S xs).map V.str)) → u E [v0, some (.ref t), some (.ref L), some (.ref D), none, none] G') :
    tSeq (tAsg (tLc (iList K (tVar 2)) (gName 4) (ttAny K) (tVar 4) (List.map (fun x => x.snd) [(("x" : Str), 4)])) (gName 3)) u E [v0, some (.ref t), some (.ref L), v3, none, none] G :=
  lead_evG (Q := fun v G' => gName 3 v [v0, some (.ref t), some (.ref L), v3, none, none] G' (u E)) ht hS hL hx lx k
theorem lay_okx : ∀ {xs : List Str}, (∀ x ∈ xs, Okx x) → PyData.canLayAll0 (xs.map PyData.str) = true
  | [], _ => by simp [PyData.canLayAll0]
  | x :: xs, h => by simp [PyData.canLayAll0, PyData.canLay0, (h x List.mem_cons_self).o, lay_okx fun y hy => h y (List.mem_cons_of_mem _ hy)]
theorem shp_okx {xs : List Str} (h : ∀ x ∈ xs, Okx x) : SeqAt.shaped (.list (xs.map PyData.str)) = true := shp_of (by simpa [PyData.canLay0] using lay_okx h) (by simp only [PyData.depth, dep_strs]; omega)
theorem eqv_lstrs (xs ys : List Str) : PyData.eqv (.list (xs.map PyData.str)) (.list (ys.map PyData.str)) = decide (xs = ys) := by
  have e := eqv_strs xs ys
  simp only [PyData.eqv] at e ⊢
  exact e
theorem lead_ok {S : List Tt} {xs : List Str} (h : ∀ x ∈ xs, Okx x) : ∀ x ∈ lead S xs, Okx x := fun x hx => h x (List.mem_filter.mp hx).1
def spCS2 (K : PySem.W.Frag) : Sp := fun vs H Q E => ∃ (s t : Addr) (xs : List Str) (S : List Tt), vs = [.ref s, .ref t] ∧ SqA K H s (xs.map V.str) ∧ (∀ x ∈ xs, Okx x) ∧ xs.length < 64 ∧ TupsAt K H t (S.map ttV) ∧ (∀ q ∈ S, Okx q.1 ∧ Okx q.2) ∧
  (rnd S xs ≠ [] → ∀ (d T : Addr) (H' : Hp), Same H H' → H d = none → H' d = some (.xd [("members", .ref T)]) → SqT K H' T ((rnd S xs).map V.str) → E (.ref (CComesRound K)) (some d) H') ∧ (rnd S xs = [] → ∀ H', Same H H' → Q .non H')
section
variable {P : Program} {w : World} {K : PySem.W.Frag} {mg : Str → Option Value} {base : Heap} {f : Addr} {fd : FuncData}
theorem ok_cs2 (F : FnP K "_check_steps" sCheckSteps f fd) (Y : Fx w K mg) : FnOk P w K mg base (L2.CX P w) 3 f fd ["sorts", "steps"] (spCS2 K) := by
  refine F.ok scCS (fun vs H Q E h => ?_) (fun cdv A outer s H vs Q E hr h => ?_)
  · obtain ⟨a, t, xs, S, rfl, _⟩ := h
    rfl
  · have nd := scCS.nd
    have hu65 : (A.deeper (envOfC "_check_steps" (defScope sCheckSteps) s.heap.objs.size f cdv)).units + 65 < cLine := by have := hr.un; omega
    have hu64 := hu64_of hr
    refine ⟨_, pss_cons (ps_set (i := 2) nd rfl (Or.inr rfl) (pe_callTy call_list_of (by rfl) Y.bList boot_list (pa_cons (pv 0) pa_nil)))
      (pss_cons (ps_setLc (i := 3) (own := [("x", 4)]) (g := gName 4) (tt := ttAny K) (te := tVar 4) rfl nd rfl rfl (by rfl) (pi_list (pv 2)) (blkOk_by (N := NCS) (sc := defScope sCheckSteps) (by decide +kernel)) (fun _ _ _ _ _ => pg_name (i := 4) nd rfl (Or.inr rfl))
          (fun _ _ _ _ _ => pts_one (pt_val (pe_callB (cr_any rfl) (by rfl) Y.bAny (by decide +kernel) (pa_cons (pe_lc (own := [("y", 5)]) (g := gName 5) (tt := tYes) (te := teIn K) rfl nd (pi_list (pv 2)) (blkOk_by (N := NCS) (sc := scCSx) (by decide +kernel)) (fun _ _ _ _ _ => pg_name (i := 5) nd rfl (Or.inl rfl)) (fun _ _ _ _ _ => pts_nil)
            (fun _ _ _ _ _ => pe_cmpR (op_inD hu65) (pe_tup (pa_cons (pv 4) (pa_cons (pv 5) pa_nil))) (pv 1) (by rfl))) pa_nil))))
          (fun _ _ _ _ _ => pv 4))
      (pss_cons (ps_while (passes_of rfl) (pt_cmpR (op_neD hu64) (pv 3) (pv 2) (nomark _))
        (pss_cons (ps_set (i := 2) nd rfl (Or.inr rfl) (pv 3))
        (pss_cons (ps_setLc (i := 3) (own := [("x", 4)]) (g := gName 4) (tt := ttAny K) (te := tVar 4) rfl nd rfl rfl (by rfl) (pi_list (pv 2)) (blkOk_by (N := NCS) (sc := defScope sCheckSteps) (by decide +kernel)) (fun _ _ _ _ _ => pg_name (i := 4) nd rfl (Or.inr rfl))
          (fun _ _ _ _ _ => pts_one (pt_val (pe_callB (cr_any rfl) (by rfl) Y.bAny (by decide +kernel) (pa_cons (pe_lc (own := [("y", 5)]) (g := gName 5) (tt := tYes) (te := teIn K) rfl nd (pi_list (pv 2)) (blkOk_by (N := NCS) (sc := scCSx) (by decide +kernel)) (fun _ _ _ _ _ => pg_name (i := 5) nd rfl (Or.inl rfl)) (fun _ _ _ _ _ => pts_nil)
            (fun _ _ _ _ _ => pe_cmpR (op_inD hu65) (pe_tup (pa_cons (pv 4) (pa_cons (pv 5) pa_nil))) (pv 1) (by rfl))) pa_nil))))
          (fun _ _ _ _ _ => pv 4)) pss_nil)))
      (pss_one (ps_if (pt_truth (pv 2) (by intro _; rfl)) (pss_one (ps_raise rfl (takes_of rfl rfl rfl rfl) (pmk_ra (raCR Y) hr (by rfl) Y.gComesRound (pa_cons (pv 2) pa_nil)))) pss_nil)))), ?_⟩
    obtain ⟨a, t, xs, S, rfl, hs, hx, lx, ht, hS, kE, kQ⟩ := h
    refine ⟨_, rfl, a, _, rfl, hs, fun L hL0 => ?_⟩
    have s0 := same_upd (o := .lst (xs.map V.str)) hL0
    have eL : upd H L (.lst (xs.map V.str)) L = some (.lst (xs.map V.str)) := upd_same
    change tSeq _ _ _ _ (upd H L (.lst (xs.map V.str)))
    refine lead_stG (xs := xs) (ht.same s0) hS (SqL.of eL) hx lx fun D G1 hD s1 eD => ?_
    have eL1 := s1 _ _ eL
    change tSeq (tWhile _ _) _ _ _ _
    refine while_by (fun σ G' => ∃ (L D : Addr) (n : Nat), σ = [some (.ref a), some (.ref t), some (.ref L), some (.ref D), none, none] ∧ G' L = some (.lst ((leadN S n xs).map V.str)) ∧ G' D = some (.lst ((lead S (leadN S n xs)).map V.str)) ∧ (∀ x ∈ leadN S n xs, Okx x) ∧ (leadN S n xs).length + n ≤ xs.length ∧ Same H G')
      (fun σ G' => match σ[2]? with
        | some (some (V.ref b)) => (match G' b with
          | some (.lst zs) => zs.length
          | _ => 0)
        | _ => 0) ⟨L, D, 0, rfl, eL1, eD, hx, Nat.le_refl _, s0.trans s1⟩ ?_ ?_
    · rintro σ G' ⟨L, D, n, rfl, hL, hD, hn, ln, sm⟩
      refine ⟨_, rfl, _, rfl, .list ((lead S (leadN S n xs)).map PyData.str), .list ((leadN S n xs).map PyData.str), .lst (SqL.of hD) (dpa_strs _), .lst (SqL.of hL) (dpa_strs _), shp_okx (lead_ok hn), shp_okx hn, ?_⟩
      rw [eqv_lstrs]
      by_cases fx : lead S (leadN S n xs) = leadN S n xs
      · refine ⟨false, by rw [decide_eq_true fx]; rfl, iteF ?_⟩
        have er := rnd_at fx (by omega)
        refine ⟨_, rfl, !(leadN S n xs).isEmpty, .inl ⟨_, SqL.of hL, by simp⟩, ?_⟩
        by_cases em : leadN S n xs = []
        · rw [em]
          refine iteF ?_
          exact kQ (er.trans em) G' sm
        · have ne : (!(leadN S n xs).isEmpty) = true := by simpa using em
          rw [ne]
          refine iteT ?_
          refine ⟨_, rfl, (by show 1 ≤ 1000; decide), fun q hq => mkO_mem (SqL.of hL) (fun d T H' s hd e hT => kE (by rw [er]; exact em) d T H' (sm.trans s) (none_of sm hd) e (by rw [er]; exact hT)) q hq⟩
      · refine ⟨true, by rw [decide_eq_false fx]; rfl, iteT ?_⟩
        refine ⟨_, rfl, ?_⟩
        change tSeq _ _ _ _ _
        have lt := lead_fix fx
        refine lead_stG (xs := lead S (leadN S n xs)) (ht.same sm) hS (SqL.of hD) (lead_ok hn) (by omega) fun D2 G2 hD2 s2 e2 => ?_
        refine ⟨⟨D, D2, n + 1, rfl, s2 _ _ hD, e2, lead_ok hn, by show (lead S (leadN S n xs)).length + (n + 1) ≤ _; omega, sm.trans s2⟩, ?_⟩
        show (match G2 D with
          | some (HO.lst zs) => zs.length
          | _ => 0) < (match G' L with
          | some (HO.lst zs) => zs.length
          | _ => 0)
        rw [s2 _ _ hD, hL]
        dsimp only
        rw [List.length_map, List.length_map]
        exact lt
    · rintro σ G' Q1 Q2 hq ⟨v, e1, u, e2, d, e, h1, h2, h3, h4, kk, e3, z⟩
      exact ⟨v, e1, u, e2, d, e, h1, h2, h3, h4, kk, e3, hq _ _ z⟩
end
end K43

namespace K43
open PySem PySem.Spec PyProof.Rows L2 Ow Xv
/-! ### a frame made, or the error that is due -/
section
variable {K : PySem.W.Frag} {x : Addr} {H H' : Hp}
theorem Keep.sqa {a : Addr} {xs : List V} (k : Keep x H H') (hx : ∃ u, H x = some u ∧ isIns u = true) (h : SqA K H a xs) : SqA K H' a xs := h.elim (fun h => .inl (k.sql hx h)) fun h => .inr (k.sqt hx h)
theorem Keep.tupsA {l : Addr} {vss : List (List V)} (k : Keep x H H') (hx : ∃ u, H x = some u ∧ isIns u = true) (h : TupsA K H l vss) : TupsA K H' l vss := by
  obtain ⟨as, q, e, g⟩ := h
  refine ⟨as, k.sqa hx q, e, fun i t z => ?_⟩
  obtain ⟨vs, e1, e2⟩ := g i t z
  exact ⟨vs, e1, k.sqt hx e2⟩
theorem Keep.ld {m : Addr} {ls : List Lt} (k : Keep x H H') (hx : ∃ u, H x = some u ∧ isIns u = true) (h : LdAt K H m ls) : LdAt K H' m ls := by
  obtain ⟨as, e, l, g⟩ := h
  refine ⟨as, k.one hx e rfl, l, fun i t z => ?_⟩
  obtain ⟨q, e1, e2⟩ := g i t z
  exact ⟨q, e1, k.sqt hx e2⟩
/-- a tuple of tuples -/
def TupsT (K : PySem.W.Frag) (H : Hp) (l : Addr) (vss : List (List V)) : Prop := ∃ as : List Addr, SqT K H l (as.map V.ref) ∧ AllT K H as vss
theorem TupsT.same {l : Addr} {vss : List (List V)} (s : Same H H') (h : TupsT K H l vss) : TupsT K H' l vss := by
  obtain ⟨as, a, b⟩ := h
  exact ⟨as, sqt_same s a, b.same s⟩
theorem TupsT.tups {l : Addr} {vss : List (List V)} (h : TupsT K H l vss) : TupsA K H l vss := by
  obtain ⟨as, a, b⟩ := h
  exact ⟨as, .inr a, b.1, b.2⟩
theorem Keep.allT {us : List Addr} {vss : List (List V)} (k : Keep x H H') (hx : ∃ u, H x = some u ∧ isIns u = true) (h : AllT K H us vss) : AllT K H' us vss := ⟨h.1, fun i t z => let ⟨vs, a, b⟩ := h.2 i t z; ⟨vs, a, k.sqt hx b⟩⟩
theorem Keep.tupsT {l : Addr} {vss : List (List V)} (k : Keep x H H') (hx : ∃ u, H x = some u ∧ isIns u = true) (h : TupsT K H l vss) : TupsT K H' l vss := by
  obtain ⟨as, a, b⟩ := h
  exact ⟨as, k.sqt hx a, k.allT hx b⟩
theorem tup_any {a : Addr} {xs : List V} {Q : VK} (h : SqA K H a xs) (k : ∀ (T : Addr) (H' : Hp), Same H H' → SqT K H' T xs → Q (.ref T) H') :
    ∃ p ys, [V.ref a] = [.ref p] ∧ ((SqL K H p ys ∧ ∀ l, H l = none → Q (.ref l) (upd H l (.tup ys))) ∨ (SqT K H p ys ∧ Q (.ref p) H)) :=
  ⟨a, xs, rfl, h.elim (fun h => .inl ⟨h, fun p hp => k p _ (same_upd hp) (SqT.of upd_same)⟩) (fun h => .inr ⟨h, k a H (Same.refl _) h⟩)⟩
end
theorem call_tupA {X : Cx} : CallR X (.type "tuple") (fun xs H Q => ∃ a ys, xs = [.ref a] ∧ SqA X.K H a ys ∧ ∀ T H', Same H H' → SqT X.K H' T ys → Q (.ref T) H') := by
  intro pins s σ H xs us Q I r h
  obtain ⟨a, ys, rfl, hs, k⟩ := h
  exact call_tuple_of pins s σ H _ us Q I r (tup_any hs k)
/-- at x stands the frame of these -/
def FrmAt (K : PySem.W.Frag) (H : Hp) (x : Addr) (xs : List Str) (ls : List Lt) (ts : List Tt) : Prop := ∃ dx s l t m : Addr,
  H x = some (.ins (CFrame K) dx [("_sorts", .ref s), ("_letters", .ref l), ("_totals", .ref t), ("_ends", .ref m)]) ∧ SqT K H s (xs.map V.str) ∧ TupsT K H l (ls.map ltV) ∧ TupsT K H t (ts.map ttV) ∧ LdAt K H m ls
theorem FrmAt.same {K : PySem.W.Frag} {H H' : Hp} {x : Addr} {xs : List Str} {ls : List Lt} {ts : List Tt} (s : Same H H') (h : FrmAt K H x xs ls ts) : FrmAt K H' x xs ls ts := by
  obtain ⟨dx, a, l, t, m, h1, h2, h3, h4, h5⟩ := h
  exact ⟨dx, a, l, t, m, s _ _ h1, sqt_same s h2, h3.same s, h4.same s, h5.same s⟩
inductive Flt where
  | nm (x : Str)
  | tw (x : Str)
  | un (x : Str)
  | fr (x : Str)
  | rd (zs : List Str)
def endOf (ls : List Lt) (n : Str) : Lt := (ls.find? fun q => decide (q.1 = n)).getD ("", "", "")
def stepsOf (ls : List Lt) (ts : List Tt) : List Tt := ts.map fun t => stepOf (endOf ls t.1) t
theorem endOf_ok {ls : List Lt} {n : Str} (h : n ∈ ls.map (·.1)) : endOf ls n ∈ ls ∧ (endOf ls n).1 = n := by
  obtain ⟨q, hq, e⟩ := List.mem_map.mp h
  unfold endOf
  cases z : ls.find? fun q => decide (q.1 = n) with
  | none =>
    have := List.find?_eq_none.mp z q hq
    exact absurd (decide_eq_true e) this
  | some p =>
    have z2 := List.find?_some z
    exact ⟨List.mem_of_find?_eq_some z, of_decide_eq_true z2⟩
/-- the error that is due -/
def dueF (xs : List Str) (ls : List Lt) (ts : List Tt) : Option Flt :=
  match badN (xs ++ ls.map (·.1)) with
  | some x => some (.nm x)
  | none => match again xs with
    | some x => some (.tw x)
    | none => match again (ls.map (·.1)) with
      | some x => some (.tw x)
      | none => match badE xs ls with
        | some x => some (.un x)
        | none => match badT (ls.map (·.1)) ts with
          | some x => some (.un x)
          | none => match badF ts with
            | some x => some (.fr x)
            | none => if rnd (stepsOf ls ts) xs = [] then none else some (.rd (rnd (stepsOf ls ts) xs))
/-- what is told of the error -/
def RaisedF (K : PySem.W.Frag) (H : Hp) (E : XK) : Flt → Prop
  | .nm x => ∀ (d : Addr) (H' : Hp), Same H H' → H d = none → H' d = some (.xd [("name", .str x)]) → E (.ref (CBadName K)) (some d) H'
  | .tw x => ∀ (d : Addr) (H' : Hp), Same H H' → H d = none → H' d = some (.xd [("name", .str x)]) → E (.ref (CTwiceTold K)) (some d) H'
  | .un x => ∀ (d : Addr) (H' : Hp), Same H H' → H d = none → H' d = some (.xd [("name", .str x)]) → E (.ref (CUnknownName K)) (some d) H'
  | .fr x => ∀ (d : Addr) (H' : Hp), Same H H' → H d = none → H' d = some (.xd [("name", .str x)]) → E (.ref (CBadFrame K)) (some d) H'
  | .rd zs => ∀ (d T : Addr) (H' : Hp), Same H H' → H d = none → H' d = some (.xd [("members", .ref T)]) → SqT K H' T (zs.map V.str) → E (.ref (CComesRound K)) (some d) H'
/-- lists that a frame may be asked of -/
structure FrIn (xs : List Str) (ls : List Lt) (ts : List Tt) : Prop where
  ox : ∀ x ∈ xs, Okx x
  ol : ∀ q ∈ ls, Okx q.1 ∧ Okx q.2.1 ∧ Okx q.2.2
  ot : ∀ q ∈ ts, Okx q.1 ∧ Okx q.2
  lx : xs.length ≤ 60
  ll : ls.length ≤ 60
  lt : ts.length ≤ 60
theorem ok_stepOf {q : Lt} {t : Tt} (h : Okx q.1 ∧ Okx q.2.1 ∧ Okx q.2.2) : Okx (stepOf q t).1 ∧ Okx (stepOf q t).2 := by
  unfold stepOf
  by_cases e : t.2 = ("on" : Str)
  · rw [if_pos e]
    exact ⟨h.2.1, h.2.2⟩
  · rw [if_neg e]
    exact ⟨h.2.2, h.2.1⟩
def spFI2 (K : PySem.W.Frag) : Sp := fun vs H Q E => ∃ (x s l t dx : Addr) (xs : List Str) (ls : List Lt) (ts : List Tt), vs = [.ref x, .ref s, .ref l, .ref t] ∧ H x = some (.ins (CFrame K) dx []) ∧ SqA K H s (xs.map V.str) ∧ TupsA K H l (ls.map ltV) ∧ TupsA K H t (ts.map ttV) ∧ FrIn xs ls ts ∧
  (∀ f, dueF xs ls ts = some f → RaisedF K H E f) ∧ (dueF xs ls ts = none → ∀ H', Keep x H H' → FrmAt K H' x xs ls ts → Q .non H')
section
variable {P : Program} {w : World} {K : PySem.W.Frag} {mg : Str → Option Value} {base : Heap} {f : Addr} {fd : FuncData}
theorem ok_fi2 (F : FnM K "__init__" "Frame.__init__" sFrame_Init f fd) (Y : Fx w K mg) : FnOk P w K mg base (L2.CX P w) 4 f fd ["self", "sorts", "letters", "totals"] (spFI2 K) := by
  obtain ⟨d1, F1⟩ := Y.dCheckNames
  obtain ⟨d2, F2⟩ := Y.dCheckEnds
  obtain ⟨d3, F3⟩ := Y.dCheckTotals
  obtain ⟨d4, F4⟩ := Y.dCheckSteps
  obtain ⟨d5, F5⟩ := Y.dStepOf
  have b1 := FunD.bindsN (ps := ["lists"]) F1 fun _ _ _ _ _ _ us hl => match us, hl with | [_], _ => rfl
  have b2 := FunD.bindsN (ps := ["sorts", "letters", "totals"]) F2 fun _ _ _ _ _ _ us hl => match us, hl with | [_, _, _], _ => rfl
  have b3 := FunD.bindsN (ps := ["totals"]) F3 fun _ _ _ _ _ _ us hl => match us, hl with | [_], _ => rfl
  have b4 := FunD.bindsN (ps := ["sorts", "steps"]) F4 fun _ _ _ _ _ _ us hl => match us, hl with | [_, _], _ => rfl
  have b5 := FunD.bindsN (ps := ["ends", "total"]) F5 fun _ _ _ _ _ _ us hl => match us, hl with | [_, _], _ => rfl
  have G1 : FnOk P w K mg base (L2.CX P w) 3 _ d1 ["lists"] (spCk K) := ok_ck F1 Y
  have G2 : FnOk P w K mg base (L2.CX P w) 3 _ d2 ["sorts", "letters", "totals"] (spCE2 K) := ok_ce2 F2 Y
  have G3 : FnOk P w K mg base (L2.CX P w) 3 _ d3 ["totals"] (spCT2 K) := ok_ct2 F3 Y
  have G4 : FnOk P w K mg base (L2.CX P w) 3 _ d4 ["sorts", "steps"] (spCS2 K) := ok_cs2 F4 Y
  have G5 : FnOk P w K mg base CX0 1 _ d5 ["ends", "total"] (spSO K) := ok_so F5 Y
  refine F.ok scFI (fun vs H Q E h => ?_) (fun cdv A outer s H vs Q E hr h => ?_)
  · obtain ⟨x, a, l, t, dx, xs, ls, ts, rfl, _⟩ := h
    rfl
  · have nd := scFI.nd
    have hr1 : Room 1 _ := hr.mono (by decide)
    refine ⟨_, pss_cons (ps_expr (pe_callS G1 hr (by rfl) Y.gCheckNames F1.kp b1 (fun σ => passAt (takes_of rfl rfl rfl rfl) σ) (pa_cons (pe_lst (pa_cons (pv 1) (pa_cons
          (pe_lc (own := [("letter", 6)]) (g := gName 6) (tt := tYes) (te := tOp (rIxT K) (tVar 6) (tC (.int 0))) rfl nd (pi_seqA (pv 2)) (blkOk_by (N := NFI) (sc := defScope sFrame_Init) (by decide +kernel)) (fun _ _ _ _ _ => pg_name (i := 6) nd rfl (Or.inl rfl)) (fun _ _ _ _ _ => pts_nil) (fun _ _ _ _ _ => pe_ix ix_tup (pv 6) pe_int (fun _ _ => rfl))) pa_nil))) pa_nil)))
      (pss_cons (ps_expr (pe_callS G2 hr (by rfl) Y.gCheckEnds F2.kp b2 (fun σ => passAt (takes_of rfl rfl rfl rfl) σ) (pa_cons (pv 1) (pa_cons (pv 2) (pa_cons (pv 3) pa_nil)))))
      (pss_cons (ps_setLc (i := 4) (own := [("name", 7), ("word", 8)]) (g := gTup K 2 (gCons (gName 7) (gCons (gName 8) gNil))) (tt := tYes) (te := tTup (tCons (tVar 7) (tCons (tVar 8) tNil))) rfl nd rfl rfl (by rfl) (pi_seqA (pv 3)) (blkOk_by (N := NFI) (sc := defScope sFrame_Init) (by decide +kernel)) (fun _ _ _ _ _ => pg_tup rfl (pgs_cons (pg_name (i := 7) nd rfl (Or.inl rfl)) (pgs_cons (pg_name (i := 8) nd rfl (Or.inl rfl)) pgs_nil))) (fun _ _ _ _ _ => pts_nil) (fun _ _ _ _ _ => pe_tup (pa_cons (pv 7) (pa_cons (pv 8) pa_nil))))
      (pss_cons (ps_expr (pe_callS G3 hr (by rfl) Y.gCheckTotals F3.kp b3 (fun σ => passAt (takes_of rfl rfl rfl rfl) σ) (pa_cons (pv 4) pa_nil)))
      (pss_cons (ps_set (i := 5) nd rfl (Or.inr rfl) (pe_dc (own := [("name", 7), ("first", 9), ("second", 10)]) (g := gTup K 3 (gCons (gName 7) (gCons (gName 9) (gCons (gName 10) gNil)))) (tt := tYes) (tk := tVar 7) (tv := tTup (tCons (tVar 9) (tCons (tVar 10) tNil))) rfl nd (pi_seqA (pv 2)) (blkOk_by (N := NFI) (sc := defScope sFrame_Init) (by decide +kernel))
          (fun _ _ _ _ _ => pg_tup rfl (pgs_cons (pg_name (i := 7) nd rfl (Or.inl rfl)) (pgs_cons (pg_name (i := 9) nd rfl (Or.inl rfl)) (pgs_cons (pg_name (i := 10) nd rfl (Or.inl rfl)) pgs_nil)))) (fun _ _ _ _ _ => pts_nil) (fun _ _ _ _ _ => pv 7) (fun _ _ _ _ _ => pe_tup (pa_cons (pv 9) (pa_cons (pv 10) pa_nil)))))
      (pss_cons (ps_expr (pe_callS G4 hr (by rfl) Y.gCheckSteps F4.kp b4 (fun σ => passAt (takes_of rfl rfl rfl rfl) σ) (pa_cons (pv 1) (pa_cons
          (pe_lc (own := [("total", 11)]) (g := gName 11) (tt := tYes) (te := tCall (spSO K) [] E0 (tCons (tVar 5) (tCons (tVar 11) tNil))) rfl nd (pi_list (pv 4)) (blkOk_by (N := NFI) (sc := defScope sFrame_Init) (by decide +kernel)) (fun _ _ _ _ _ => pg_name (i := 11) nd rfl (Or.inl rfl)) (fun _ _ _ _ _ => pts_nil)
            (fun _ _ _ _ _ => pe_call G5 hr1 (by rfl) Y.gStepOf F5.kp b5 .nil pass0 (pa_cons (pv 5) (pa_cons (pv 11) pa_nil)))) pa_nil))))
      (pss_cons (ps_fld (pv 0) (pe_callTy call_tupA (by rfl) Y.bTuple (by decide +kernel) (pa_cons (pv 1) pa_nil)) rfl)
      (pss_cons (ps_fld (pv 0) (pe_callTy call_tupA (by rfl) Y.bTuple (by decide +kernel) (pa_cons
          (pe_lc (own := [("name", 7), ("first", 9), ("second", 10)]) (g := gTup K 3 (gCons (gName 7) (gCons (gName 9) (gCons (gName 10) gNil)))) (tt := tYes) (te := tTup (tCons (tVar 7) (tCons (tVar 9) (tCons (tVar 10) tNil)))) rfl nd (pi_seqA (pv 2)) (blkOk_by (N := NFI) (sc := defScope sFrame_Init) (by decide +kernel))
            (fun _ _ _ _ _ => pg_tup rfl (pgs_cons (pg_name (i := 7) nd rfl (Or.inl rfl)) (pgs_cons (pg_name (i := 9) nd rfl (Or.inl rfl)) (pgs_cons (pg_name (i := 10) nd rfl (Or.inl rfl)) pgs_nil)))) (fun _ _ _ _ _ => pts_nil) (fun _ _ _ _ _ => pe_tup (pa_cons (pv 7) (pa_cons (pv 9) (pa_cons (pv 10) pa_nil))))) pa_nil)) rfl)
      (pss_cons (ps_fld (pv 0) (pe_callTy call_tupA (by rfl) Y.bTuple (by decide +kernel) (pa_cons (pv 4) pa_nil)) rfl)
      (pss_one (ps_fld (pv 0) (pv 5) rfl)))))))))), ?_⟩
    obtain ⟨x, a, l, t, dx, xs, ls, ts, rfl, hx, hs, hl, ht, ok, kE, kQ⟩ := h
    obtain ⟨as, q, la, g⟩ := id hl
    rw [List.length_map] at la
    obtain ⟨bs, q2, lb, g2⟩ := id ht
    rw [List.length_map] at lb
    have n60 := ok.ll
    have t60 := ok.lt
    refine ⟨_, rfl, _, rfl, l, _, rfl, q, fun J GG wk gk D hD => ?_⟩
    refine lc_it wk (fun i G' => G' D = some (.lst (((ls.take i).map (·.1)).map V.str)) ∧ Same H G') ⟨upd_same, same_upd hD⟩ (fun i G' _ p => gk G' p.2) ?_ ?_
    · rintro i v G1 G' hi ⟨e, s2⟩ ⟨rfl, ev⟩
      obtain ⟨b, eb, rfl⟩ := ref_at ev
      obtain ⟨vs, e1, hT⟩ := g i b eb
      obtain ⟨lt, e2, rfl⟩ := lt_at e1
      have li := (List.getElem?_eq_some_iff.mp e2).1
      refine ⟨rfl, _, rfl, b, _, 0, _, rfl, rfl, sqt_same s2 hT, rfl, _, e, ?_, ?_, same_put hD s2⟩
      · rw [List.length_map, List.length_map, List.length_take]
        exact small1000 (by omega)
      · rw [upd_same, List.take_add_one, e2, List.map_append, List.map_append]
        rfl
    rintro G0 ⟨eD, s0⟩
    rw [List.length_map, la, List.take_length] at eD
    refine ⟨szl (by show 2 ≤ 1000; decide), fun p hp => ?_⟩
    have sp := s0.trans (same_upd (o := .lst [V.ref a, V.ref D]) hp)
    refine ⟨p, a, D, xs, ls.map (·.1), rfl, SqL.of upd_same, hs.same sp, .inl (SqL.of (same_upd hp _ _ eD)), fun x hx => ?_, by have := ok.lx; omega, by rw [List.length_map]; omega, ?_⟩
    · rcases List.mem_append.mp hx with z | z
      · exact (ok.ox x z).l
      · obtain ⟨q, hq, e⟩ := List.mem_map.mp z
        rw [← e]
        exact (ok.ol q hq).1.l
    clear eD s0 hD
    unfold dueF at kE kQ
    cases e1 : badN (xs ++ ls.map (·.1)) with
    | some z =>
      rw [e1] at kE
      exact fun d H' s hd e => kE _ rfl d H' (sp.trans s) (none_of sp hd) e
    | none =>
    rw [e1] at kE kQ
    dsimp only at kE kQ ⊢
    cases e2 : again xs with
    | some z =>
      rw [e2] at kE
      exact fun d H' s hd e => kE _ rfl d H' (sp.trans s) (none_of sp hd) e
    | none =>
    rw [e2] at kE kQ
    dsimp only at kE kQ ⊢
    cases e3 : again (ls.map (·.1)) with
    | some z =>
      rw [e3] at kE
      exact fun d H' s hd e => kE _ rfl d H' (sp.trans s) (none_of sp hd) e
    | none =>
    rw [e3] at kE kQ
    dsimp only at kE kQ ⊢
    intro H1 s1
    replace s1 := sp.trans s1
    clear sp hp
    refine ⟨_, rfl, _, rfl, _, rfl, a, l, t, xs, ls, ts, rfl, hs.same s1, hl.same s1, ht.same s1, n60, ?_⟩
    cases e4 : badE xs ls with
    | some z =>
      rw [e4] at kE
      exact fun d H' s hd e => kE _ rfl d H' (s1.trans s) (none_of s1 hd) e
    | none =>
    rw [e4] at kE kQ
    dsimp only at kE kQ ⊢
    cases e5 : badT (ls.map (·.1)) ts with
    | some z =>
      rw [e5] at kE
      exact fun d H' s hd e => kE _ rfl d H' (s1.trans s) (none_of s1 hd) e
    | none =>
    rw [e5] at kE kQ
    dsimp only at kE kQ ⊢
    intro H2 s2
    replace s2 := s1.trans s2
    clear s1
    refine ⟨_, rfl, t, _, rfl, q2.same s2, fun J GG wk gk T hT => ?_⟩
    refine lc_it wk (fun i G => ∃ us : List Addr, G T = some (.lst (us.map V.ref)) ∧ AllT K G us ((ts.take i).map ttV) ∧ Same H2 G) ⟨[], upd_same, AllT.nil, same_upd hT⟩ (fun i G _ ⟨_, _, _, p⟩ => gk G p) ?_ ?_
    · rintro i v G G' hi ⟨us, e, hA, s3⟩ ⟨rfl, ev⟩
      obtain ⟨b, eb, rfl⟩ := ref_at ev
      obtain ⟨vs, e1, hB⟩ := g2 i b eb
      obtain ⟨tt, e2, rfl⟩ := tt_at e1
      have li := (List.getElem?_eq_some_iff.mp e2).1
      refine ⟨b, _, rfl, sqt_same (s2.trans s3) hB, rfl, _, _, rfl, _, _, rfl, rfl, rfl, ?_⟩
      refine ⟨_, rfl, _, rfl, szl (by show 2 ≤ 1000; decide), fun T2 hT2 => ?_⟩
      have eT := same_upd (o := .tup [V.str tt.1, V.str tt.2]) hT2 _ _ e
      refine ⟨_, eT, ?_, us ++ [T2], ?_, ?_, same_put hT (s3.trans (same_upd hT2))⟩
      · have z := hA.1
        rw [List.length_map, List.length_take] at z
        rw [List.length_map]
        exact small1000 (by omega)
      · rw [upd_same, List.map_append]
        rfl
      · rw [List.take_add_one, e2, List.map_append]
        exact ((hA.same (same_upd hT2)).snoc (SqT.of upd_same)).put eT
    rintro G3 ⟨us, eT, hA, s3⟩
    rw [List.length_map, lb, List.take_length] at hA
    have hTt : TupsAt K G3 T (ts.map ttV) := hA.tups (SqL.of eT)
    replace s3 := s2.trans s3
    clear hT s2
    refine ⟨_, rfl, T, ts, rfl, hTt, ok.ot, ?_⟩
    cases e6 : badF ts with
    | some z =>
      rw [e6] at kE
      exact fun d H' s hd e => kE _ rfl d H' (s3.trans s) (none_of s3 hd) e
    | none =>
    rw [e6] at kE kQ
    dsimp only at kE kQ ⊢
    intro H4 s4
    replace eT := s4 _ _ eT
    replace hA := hA.same s4
    replace s4 := s3.trans s4
    clear s3 hTt
    have ndl : (ls.map (·.1)).Nodup := again_nodup.mp e3
    refine ⟨_, rfl, l, _, rfl, q.same s4, fun J GG wk gk N hN => ?_⟩
    refine dc_it wk (fun i G => ∃ ws : List Addr, G N = some (.dK (kvL (ls.take i) ws)) ∧ AllT K G ws ((ls.take i).map endV) ∧ Same H4 G) ⟨[], upd_same, AllT.nil, same_upd hN⟩ (fun i G _ ⟨_, _, _, p⟩ => gk G p) ?_ ?_
    · rintro i v G G' hi ⟨ws, e, hW, s5⟩ ⟨rfl, ev⟩
      obtain ⟨b, eb, rfl⟩ := ref_at ev
      obtain ⟨vs, e1, hB⟩ := g i b eb
      obtain ⟨lt, e2, rfl⟩ := lt_at e1
      have li := (List.getElem?_eq_some_iff.mp e2).1
      refine ⟨b, _, rfl, sqt_same (s4.trans s5) hB, rfl, _, _, rfl, _, _, rfl, _, _, rfl, rfl, rfl, _, rfl, _, rfl, _, rfl, szl (by show 2 ≤ 1000; decide), fun T2 hT2 => ?_⟩
      have eN := same_upd (o := .tup [V.str lt.2.1, V.str lt.2.2]) hT2 _ _ e
      have lw : ws.length = (ls.take i).length := by rw [hW.1, List.length_map]
      refine ⟨_, .inr lt.1, rfl, eN, ?_, ws ++ [T2], ?_, ?_, same_put hN (s5.trans (same_upd hT2))⟩
      · have := kvL_len (ls.take i) ws
        rw [List.length_take] at this
        exact small1000 (by omega)
      · have hno : lt.1 ∉ (ls.take i).map (·.1) := by
          intro z
          obtain ⟨i2, l2, e3⟩ := List.getElem_of_mem z
          rw [List.length_map, List.length_take] at l2
          refine List.pairwise_iff_getElem.mp ndl i2 i (by rw [List.length_map]; omega) (by rw [List.length_map]; omega) (by omega) ?_
          rw [List.getElem_map, List.getElem_take] at e3
          rw [List.getElem_map, List.getElem_map, e3]
          rw [List.getElem?_eq_getElem li] at e2
          rw [Option.some.inj e2]
        rw [upd_same, putK_new _ (kvL_no _ ws hno), List.take_add_one, e2]
        show some (HO.dK _) = some (.dK (kvL (ls.take i ++ [lt]) _))
        rw [kvL_snoc _ _ _ _ lw.symm]
      · rw [List.take_add_one, e2, List.map_append]
        exact ((hW.same (same_upd hT2)).snoc (SqT.of upd_same)).putD eN
    rintro G5 ⟨ws, eN, hW, s5⟩
    rw [List.length_map, la, List.take_length] at eN hW
    replace eT := s5 _ _ eT
    replace hA := hA.same s5
    replace s5 := s4.trans s5
    clear s4 hN
    have hN5 : LdAt K G5 N ls := ⟨ws, eN, by rw [hW.1, List.length_map], fun i u z => by
      obtain ⟨vs, a1, b1⟩ := hW.2 i u z
      rw [List.getElem?_map] at a1
      cases e : ls[i]? with
      | none => rw [e] at a1; cases a1
      | some q => rw [e] at a1; exact ⟨q, rfl, Option.some.inj a1 ▸ b1⟩⟩
    have mem5 : ∀ tt ∈ ts, tt.1 ∈ ls.map (·.1) := fun tt htt => by
      obtain ⟨i, li, e⟩ := List.getElem_of_mem htt
      have z := firstL_none e5 i tt (by rw [List.getElem?_eq_getElem li, e])
      by_cases c : tt.1 ∈ ls.map (·.1)
      · exact c
      · rw [if_pos c] at z
        cases z
    refine ⟨_, rfl, _, rfl, T, rfl, ⟨_, SqL.of eT⟩, fun U hU => ?_⟩
    have lu : us.length = ts.length := by rw [hA.1, List.length_map]
    refine lc_list (K := K) (a := T) (xs := us.map V.ref) (fun i G => ∃ zs : List Addr, G U = some (.lst (zs.map V.ref)) ∧ AllT K G zs (((stepsOf ls ts).take i).map ttV) ∧ Same G5 G) ⟨[], upd_same, AllT.nil, same_upd hU⟩ (fun i G _ ⟨_, _, _, p⟩ => p.seq (SqL.of eT)) ?_ ?_
    · rintro i v G hi ⟨zs, e, hZ, s6⟩
      obtain ⟨b, eb, rfl⟩ := ref_at hi
      obtain ⟨vs, e1, hB⟩ := hA.2 i b eb
      obtain ⟨tt, e2, rfl⟩ := tt_at e1
      have li := (List.getElem?_eq_some_iff.mp e2).1
      have mt := mem5 tt (List.mem_of_getElem? e2)
      obtain ⟨mq, nq⟩ := endOf_ok mt
      obtain ⟨j, lj, ej⟩ := List.getElem_of_mem mq
      obtain ⟨pa, dg, hp⟩ := (hN5.same s6).get ndl (show ls[j]? = some (endOf ls tt.1) by rw [List.getElem?_eq_getElem lj, ej])
      refine ⟨rfl, _, rfl, _, rfl, N, b, pa, endOf ls tt.1, tt, rfl, dg, hp, sqt_same s6 hB, nq.symm, fun T2 G' s7 hT2 => ?_⟩
      have eU := s7 _ _ e
      refine ⟨_, eU, ?_, zs ++ [T2], ?_, ?_, same_put hU (s6.trans s7)⟩
      · have z := hZ.1
        unfold stepsOf at z
        rw [List.length_map, List.length_take, List.length_map] at z
        rw [List.length_map]
        exact small1000 (by omega)
      · rw [upd_same, List.map_append]
        rfl
      · have es : (stepsOf ls ts)[i]? = some (stepOf (endOf ls tt.1) tt) := by
          unfold stepsOf
          rw [List.getElem?_map, e2]
          rfl
        rw [List.take_add_one, es, List.map_append]
        exact ((hZ.same s7).snoc hT2).put eU
    rintro G6 ⟨zs, eU, hZ, s6⟩
    rw [List.length_map, lu, show ts.length = (stepsOf ls ts).length by unfold stepsOf; rw [List.length_map], List.take_length] at hZ
    replace eT := s6 _ _ eT
    replace hA := hA.same s6
    replace hN5 := hN5.same s6
    replace s6 := s5.trans s6
    clear s5 hU
    refine ⟨a, U, xs, stepsOf ls ts, rfl, hs.same s6, ok.ox, by have := ok.lx; omega, hZ.tups (SqL.of eU), fun z hz => ?_, fun ne => ?_, fun em => ?_⟩
    · unfold stepsOf at hz
      obtain ⟨tt, htt, rfl⟩ := List.mem_map.mp hz
      exact ok_stepOf (ok.ol _ (endOf_ok (mem5 tt htt)).1)
    · rw [if_neg ne] at kE
      exact fun d T' H' s hd e hT' => kE _ rfl d T' H' (s6.trans s) (none_of s6 hd) e hT'
    rw [if_pos em] at kQ
    intro H7 s7
    replace eT := s7 _ _ eT
    replace hA := hA.same s7
    replace hN5 := hN5.same s7
    replace s7 := s6.trans s7
    clear s6 eU hZ
    have x1 := s7 _ _ hx
    have hs1 := hs.same s7
    have hl1 := hl.same s7
    have k1 : Keep x H H7 := .of s7
    clear s7
    -- the fields
    refine ⟨_, rfl, a, _, rfl, hs1, fun S G1 s8 hS => ⟨_, rfl, x, CFrame K, dx, _, rfl, s8 _ _ x1, Y.cFrame, Y.nFrameSorts, (by show 0 < 1000; decide), ?_⟩⟩
    have kk : Keep x H7 (upd G1 x (.ins (CFrame K) dx [("_sorts", .ref S)])) := (Keep.of s8).trans .put
    have hx7 : ∃ u, H7 x = some u ∧ isIns u = true := ⟨_, x1, rfl⟩
    replace hl1 := kk.tupsA hx7 hl1
    replace eT := kk.one hx7 eT rfl
    replace hA := kk.allT hx7 hA
    replace hN5 := kk.ld hx7 hN5
    replace hS := (Keep.put (x := x) (H := G1) (o := HO.ins (CFrame K) dx [("_sorts", .ref S)])).sqt ⟨_, s8 _ _ x1, rfl⟩ hS
    replace k1 := k1.trans kk
    replace x1 : upd G1 x (.ins (CFrame K) dx [("_sorts", .ref S)]) x = some (.ins (CFrame K) dx [("_sorts", .ref S)]) := upd_same
    obtain ⟨G2, e1⟩ : ∃ Z, Z = upd G1 x (.ins (CFrame K) dx [("_sorts", .ref S)]) := ⟨_, rfl⟩
    change tSeq _ _ _ _ (upd G1 x (.ins (CFrame K) dx [("_sorts", .ref S)]))
    rw [← e1] at hl1 eT hA hN5 hS k1 x1 ⊢
    clear kk e1 hs1 s8 hx7
    obtain ⟨as2, q2, la2, g2⟩ := hl1
    rw [List.length_map] at la2
    refine ⟨_, rfl, l, _, rfl, q2, fun J GG wk gk D hD => ?_⟩
    refine lc_it wk (fun i G => ∃ zs : List Addr, G D = some (.lst (zs.map V.ref)) ∧ AllT K G zs ((ls.take i).map ltV) ∧ Same G2 G) ⟨[], upd_same, AllT.nil, same_upd hD⟩ (fun i G _ ⟨_, _, _, p⟩ => gk G p) ?_ ?_
    · rintro i v G G' hi ⟨zs, e, hZ, s2⟩ ⟨rfl, ev⟩
      obtain ⟨b, eb, rfl⟩ := ref_at ev
      obtain ⟨vs, e1, hT⟩ := g2 i b eb
      obtain ⟨lt, e2, rfl⟩ := lt_at e1
      have li : i < ls.length := (List.getElem?_eq_some_iff.mp e2).1
      refine ⟨b, _, rfl, sqt_same s2 hT, rfl, _, _, rfl, _, _, rfl, _, _, rfl, rfl, rfl, ?_⟩
      refine ⟨_, rfl, _, rfl, _, rfl, szl (by show 3 ≤ 1000; decide), fun T2 hT2 => ?_⟩
      have eD := same_upd (o := .tup [V.str lt.1, V.str lt.2.1, V.str lt.2.2]) hT2 _ _ e
      refine ⟨_, eD, ?_, zs ++ [T2], ?_, ?_, same_put hD (s2.trans (same_upd hT2))⟩
      · have z := hZ.1
        rw [List.length_map, List.length_take] at z
        rw [List.length_map]
        exact small1000 (by omega)
      · rw [upd_same, List.map_append]
        rfl
      · rw [List.take_add_one, e2, List.map_append]
        exact ((hZ.same (same_upd hT2)).snoc (SqT.of upd_same)).put eD
    rintro G3 ⟨zs, eD, hZ, s2⟩
    rw [List.length_map, la2, List.take_length] at hZ
    replace x1 := s2 _ _ x1
    replace eT := s2 _ _ eT
    replace hA := hA.same s2
    replace hN5 := hN5.same s2
    replace hS := sqt_same s2 hS
    replace k1 := k1.trans (Keep.of s2)
    clear s2 hD q2 g2 la2
    refine ⟨D, _, rfl, .inl (SqL.of eD), fun L G4 s8 hL => ⟨_, rfl, x, CFrame K, dx, _, rfl, s8 _ _ x1, Y.cFrame, Y.nFrameLetters, (by show 1 < 1000; decide), ?_⟩⟩
    have kk : Keep x G3 (upd G4 x (.ins (CFrame K) dx [("_sorts", .ref S), ("_letters", .ref L)])) := (Keep.of s8).trans .put
    have hx7 : ∃ u, G3 x = some u ∧ isIns u = true := ⟨_, x1, rfl⟩
    replace eT := kk.one hx7 eT rfl
    replace hA := kk.allT hx7 hA
    replace hN5 := kk.ld hx7 hN5
    replace hS := kk.sqt hx7 hS
    have hL1 : TupsT K (upd G4 x (.ins (CFrame K) dx [("_sorts", .ref S), ("_letters", .ref L)])) L (ls.map ltV) :=
      ⟨zs, (Keep.put (x := x) (H := G4) (o := HO.ins (CFrame K) dx [("_sorts", .ref S), ("_letters", .ref L)])).sqt ⟨_, s8 _ _ x1, rfl⟩ hL, kk.allT hx7 hZ⟩
    replace k1 := k1.trans kk
    replace x1 : upd G4 x (.ins (CFrame K) dx [("_sorts", .ref S), ("_letters", .ref L)]) x = some (.ins (CFrame K) dx [("_sorts", .ref S), ("_letters", .ref L)]) := upd_same
    obtain ⟨G5, e1⟩ : ∃ Z, Z = upd G4 x (.ins (CFrame K) dx [("_sorts", .ref S), ("_letters", .ref L)]) := ⟨_, rfl⟩
    change tSeq _ _ _ _ (upd G4 x (.ins (CFrame K) dx [("_sorts", .ref S), ("_letters", .ref L)]))
    rw [← e1] at eT hA hN5 hS hL1 k1 x1 ⊢
    clear kk e1 s8 hx7 hL
    refine ⟨_, rfl, T, _, rfl, .inl (SqL.of eT), fun U G6 s8 hU => ⟨_, rfl, x, CFrame K, dx, _, rfl, s8 _ _ x1, Y.cFrame, Y.nFrameTotals, (by show 2 < 1000; decide), ?_⟩⟩
    refine ⟨_, rfl, _, rfl, x, CFrame K, dx, _, rfl, upd_same, Y.cFrame, Y.nFrameEnds, (by show 3 < 1000; decide), ?_⟩
    have kk := ((Keep.of (x := x) s8).trans (.put (o := .ins (CFrame K) dx [("_sorts", .ref S), ("_letters", .ref L), ("_totals", .ref U)]))).trans (.put (o := .ins (CFrame K) dx [("_sorts", .ref S), ("_letters", .ref L), ("_totals", .ref U), ("_ends", .ref N)]))
    have kk2 := ((Keep.refl (x := x) (H := G6)).trans (.put (o := .ins (CFrame K) dx [("_sorts", .ref S), ("_letters", .ref L), ("_totals", .ref U)]))).trans (.put (o := .ins (CFrame K) dx [("_sorts", .ref S), ("_letters", .ref L), ("_totals", .ref U), ("_ends", .ref N)]))
    have hx7 : ∃ u, G5 x = some u ∧ isIns u = true := ⟨_, x1, rfl⟩
    exact kQ rfl _ (k1.trans kk) ⟨dx, S, L, U, N, upd_same, kk.sqt hx7 hS, kk.tupsT hx7 hL1, ⟨us, kk2.sqt ⟨_, s8 _ _ x1, rfl⟩ hU, kk.allT hx7 hA⟩, kk.ld hx7 hN5⟩
end
end K43

namespace K43
open PySem PySem.Spec PyProof.Rows L2 Ow Xv
/-! ### the methods of a frame -/
theorem passX {X : Cx} : Passes (L2.CX X.prog X.w) X E0 := fun _ _ _ _ _ _ _ h => by
  obtain ⟨_, _, _, _, _, _, _, _, _, _, _, _, e⟩ := h
  exact e.elim
/-- a frame that has been made of these -/
structure GdF (xs : List Str) (ls : List Lt) (ts : List Tt) : Prop where
  fi : FrIn xs ls ts
  no : dueF xs ls ts = none
theorem GdF.parts {xs : List Str} {ls : List Lt} {ts : List Tt} (g : GdF xs ls ts) : badN (xs ++ ls.map (·.1)) = none ∧ again xs = none ∧ again (ls.map (·.1)) = none ∧ badE xs ls = none ∧ badT (ls.map (·.1)) ts = none ∧ badF ts = none ∧ rnd (stepsOf ls ts) xs = [] := by
  have h := g.no
  unfold dueF at h
  cases e1 : badN (xs ++ ls.map (·.1)) with
  | some z => rw [e1] at h; cases h
  | none =>
  rw [e1] at h
  cases e2 : again xs with
  | some z => rw [e2] at h; cases h
  | none =>
  rw [e2] at h
  cases e3 : again (ls.map (·.1)) with
  | some z => rw [e3] at h; cases h
  | none =>
  rw [e3] at h
  cases e4 : badE xs ls with
  | some z => rw [e4] at h; cases h
  | none =>
  rw [e4] at h
  cases e5 : badT (ls.map (·.1)) ts with
  | some z => rw [e5] at h; cases h
  | none =>
  rw [e5] at h
  cases e6 : badF ts with
  | some z => rw [e6] at h; cases h
  | none =>
  rw [e6] at h
  refine ⟨rfl, rfl, rfl, rfl, rfl, rfl, ?_⟩
  dsimp only at h
  by_cases em : rnd (stepsOf ls ts) xs = []
  · exact em
  · rw [if_neg em] at h
    cases h
theorem GdF.nd {xs : List Str} {ls : List Lt} {ts : List Tt} (g : GdF xs ls ts) : (ls.map (·.1)).Nodup := again_nodup.mp g.parts.2.2.1
theorem badT_mem {ls : List Lt} {ts : List Tt} (h : badT (ls.map (·.1)) ts = none) : ∀ tt ∈ ts, tt.1 ∈ ls.map (·.1) := fun tt htt => by
  obtain ⟨i, li, e⟩ := List.getElem_of_mem htt
  have z := firstL_none h i tt (by rw [List.getElem?_eq_getElem li, e])
  by_cases c : tt.1 ∈ ls.map (·.1)
  · exact c
  · rw [if_pos c] at z
    cases z
theorem GdF.mem {xs : List Str} {ls : List Lt} {ts : List Tt} (g : GdF xs ls ts) : ∀ tt ∈ ts, tt.1 ∈ ls.map (·.1) := badT_mem g.parts.2.2.2.2.1
theorem kvL_some {x : Str} : ∀ {ls : List Lt} {as : List Addr}, as.length = ls.length → x ∈ ls.map (·.1) → (valV (kvL ls as) (.inr x)).isSome = true
  | [], _, _, h => absurd h List.not_mem_nil
  | _ :: _, [], l, _ => by cases l
  | q :: ls, a :: as, l, h => by
    show (valV ((.inr q.1, .ref a) :: kvL ls as) (.inr x)).isSome = true
    by_cases e : (.inr q.1 : Key) = .inr x
    · rw [valV_pos (p := ((Sum.inr q.1 : Key), V.ref a)) e]
      rfl
    · rw [valV_neg e]
      refine kvL_some (by simpa using l) ?_
      rcases List.mem_cons.mp h with z | z
      · exact absurd (by rw [z]) e
      · exact z
theorem isTx_str (z : Str) (xs : List Str) : isTx (.str z) xs = decide (z ∈ xs) := by
  unfold isTx
  induction xs with
  | nil => rfl
  | cons x xs ih =>
    rw [List.any_cons, ih]
    by_cases h : z = x
    · subst h
      simp
    · have h2 : ¬ (V.str z = V.str x) := fun e => h (V.str.inj e)
      rw [decide_eq_false h2, Bool.false_or]
      simp [h]
theorem isTx_no {v : V} (h : ∀ z, v ≠ .str z) (xs : List Str) : isTx v xs = false := by
  unfold isTx
  rw [List.any_eq_false]
  intro z _
  simpa using h z
theorem scHS : FnScope ["self", "value"] ["self", "value"] (defScope sFrame_HasSort) := ⟨rfl, rfl, rfl, by decide +kernel, rfl, by decide +kernel, by decide +kernel⟩
theorem scHL : FnScope ["self", "value"] ["self", "value"] (defScope sFrame_HasLetter) := ⟨rfl, rfl, rfl, by decide +kernel, rfl, by decide +kernel, by decide +kernel⟩
theorem scEn : FnScope ["self", "name"] ["self", "name"] (defScope sFrame_Ends) := ⟨rfl, rfl, rfl, by decide +kernel, rfl, by decide +kernel, by decide +kernel⟩
def spHS (K : PySem.W.Frag) : Sp := fun vs H Q _ => ∃ (x : Addr) (v : V) (d : PyData) (xs : List Str) (ls : List Lt) (ts : List Tt), vs = [.ref x, v] ∧ FrmAt K H x xs ls ts ∧ Va K H v d ∧ Q (.bl (isTx v xs)) H
def spHL (K : PySem.W.Frag) : Sp := fun vs H Q _ => ∃ (x : Addr) (v : V) (d : PyData) (xs : List Str) (ls : List Lt) (ts : List Tt), vs = [.ref x, v] ∧ FrmAt K H x xs ls ts ∧ Va K H v d ∧ Q (.bl (isTx v (ls.map (·.1)))) H
def spEn (K : PySem.W.Frag) : Sp := fun vs H Q E => ∃ (x : Addr) (v : V) (d : PyData) (xs : List Str) (ls : List Lt) (ts : List Tt), vs = [.ref x, v] ∧ FrmAt K H x xs ls ts ∧ (ls.map (·.1)).Nodup ∧ Va K H v d ∧
  (isTx v (ls.map (·.1)) = false → ∀ (d : Addr) (H' : Hp), Same H H' → H d = none → H' d = some (.xd [("name", v)]) → E (.ref (CUnknownName K)) (some d) H') ∧ ∀ q ∈ ls, v = .str q.1 → ∀ t, SqT K H t (endV q) → Q (.ref t) H
section
variable {P : Program} {w : World} {K : PySem.W.Frag} {mg : Str → Option Value} {base : Heap} {f : Addr} {fd : FuncData}
theorem ok_hs (F : FnM K "has_sort" "Frame.has_sort" sFrame_HasSort f fd) (Y : Fx w K mg) : FnOk P w K mg base CX0 1 f fd ["self", "value"] (spHS K) := by
  refine okD F scHS (fun vs H Q E h => ?_) (fun cdv A outer s H vs Q E hr h => ?_)
  · obtain ⟨x, v, d, xs, ls, ts, rfl, _⟩ := h
    rfl
  · have hu := hu_of hr
    refine ⟨_, pss_one (ps_ret (pe_cmpR (op_inV hu) (pv 1) (pe_fld (pv 0) rfl) (by rfl))), ?_⟩
    obtain ⟨x, v, d, xs, ls, ts, rfl, ⟨dx, a, l, t, m, h1, h2, h3, h4, h5⟩, hv, k⟩ := h
    exact ⟨_, rfl, _, rfl, x, _, dx, _, _, rfl, h1, Y.cFrame, Y.nFrameSorts, rfl, d, a, xs, rfl, .inr h2, hv, k⟩
theorem ok_hl (F : FnM K "has_letter" "Frame.has_letter" sFrame_HasLetter f fd) (Y : Fx w K mg) : FnOk P w K mg base CX0 1 f fd ["self", "value"] (spHL K) := by
  refine okD F scHL (fun vs H Q E h => ?_) (fun cdv A outer s H vs Q E hr h => ?_)
  · obtain ⟨x, v, d, xs, ls, ts, rfl, _⟩ := h
    rfl
  · have hu := hu_of hr
    refine ⟨_, pss_one (ps_ret (pe_and (pe_callB call_isi (by rfl) Y.bIsinstance boot_isinstance (pa_cons (pv 1) (pa_cons (pe_bltn (v := .ty "str") (u := .type "str") (by rfl) Y.bStr (by decide +kernel) rfl) pa_nil)))
      (pe_one (pe_cmp (pc_din hu (pv 1) (pe_fld (pv 0) rfl)))))), ?_⟩
    obtain ⟨x, v, d, xs, ls, ts, rfl, ⟨dx, a, l, t, m, h1, h2, h3, h4, ⟨as, h5, h6, h7⟩⟩, hv, k⟩ := h
    obtain ⟨T, hT, kb, _⟩ := hv.ty
    refine ⟨_, rfl, _, _, _, _, kdStr d, rfl, .ty _, hT, kit_ty kb, _, rfl, ?_⟩
    rcases hv.strD with ⟨z, rfl, rfl⟩ | ⟨ez, hz⟩
    · rw [show kdStr (PyData.str z) = true from rfl, if_pos rfl]
      refine ⟨_, rfl, _, rfl, x, _, dx, _, _, rfl, h1, Y.cFrame, Y.nFrameEnds, rfl, m, _, rfl, DGet.k (k := .inr z) h5, ?_⟩
      rw [isTx_str] at k
      by_cases e : z ∈ ls.map (·.1)
      · rw [kvL_some h6 e]
        rw [decide_eq_true e] at k
        exact k
      · rw [kvL_no ls as e]
        rw [decide_eq_false e] at k
        exact k
    · rw [ez, if_neg Bool.false_ne_true]
      rw [isTx_no hz] at k
      exact k
theorem ok_en (F : FnM K "ends" "Frame.ends" sFrame_Ends f fd) (Y : Fx w K mg) : FnOk P w K mg base (L2.CX P w) 3 f fd ["self", "name"] (spEn K) := by
  obtain ⟨d1, F1⟩ := Y.dFrame_HasLetter
  have b1 := FunD.bindsN (ps := ["self", "value"]) F1 fun _ _ _ _ _ _ us hl => match us, hl with | [_, _], _ => rfl
  have G1 : FnOk P w K mg base CX0 1 _ d1 ["self", "value"] (spHL K) := ok_hl F1 Y
  refine F.ok scEn (fun vs H Q E h => ?_) (fun cdv A outer s H vs Q E hr h => ?_)
  · obtain ⟨x, v, d, xs, ls, ts, rfl, _⟩ := h
    rfl
  · have hu := hu_of hr
    have hr1 : Room 1 _ := hr.mono (by decide)
    refine ⟨_, pss_cons (ps_if (pt_not (pt_val (pe_meth (pv 0) Y.cFrame Y.mFrame_HasLetter G1 hr1 b1 .nil pass0 (pa_cons (pv 1) pa_nil)))) (pss_one (ps_raise rfl (takes_of rfl rfl rfl rfl) (pmk_ra (raUN Y) hr (by rfl) Y.gUnknownName (pa_cons (pv 1) pa_nil)))) pss_nil)
      (pss_one (ps_ret (pe_dget hu (pe_fld (pv 0) rfl) (pv 1) nosl))), ?_⟩
    obtain ⟨x, v, d, xs, ls, ts, rfl, hF, nd, hv, kE, kQ⟩ := h
    obtain ⟨dx, a, l, t, m, h1, h2, h3, h4, h5⟩ := id hF
    refine ⟨_, rfl, x, dx, _, rfl, h1, rfl, _, rfl, x, v, d, xs, ls, ts, rfl, hF, hv, _, rfl, ?_⟩
    cases c : isTx v (ls.map (·.1)) with
    | false =>
      refine iteT ?_
      exact ⟨_, rfl, (by show 1 ≤ 1000; decide), fun q hq => mkO_at (fun d H' s hd e => kE c d H' s hd e) q hq⟩
    | true =>
      refine iteF ?_
      obtain ⟨z, hz, e⟩ := List.any_eq_true.mp c
      obtain rfl : v = .str z := of_decide_eq_true e
      obtain ⟨q, hq, rfl⟩ := List.mem_map.mp hz
      obtain ⟨i, li, ei⟩ := List.getElem_of_mem hq
      obtain ⟨p, dg, hp⟩ := h5.get nd (show ls[i]? = some q by rw [List.getElem?_eq_getElem li, ei])
      exact ⟨_, rfl, x, _, dx, _, _, rfl, h1, Y.cFrame, Y.nFrameEnds, rfl, _, rfl, m, .ref p, rfl, dg, kQ q hq rfl p hp⟩
end
end K43

namespace K43
open PySem PySem.Spec PyProof.Rows L2 Ow
/-! ### terms -/
inductive Tm where
  | leaf (w : Str) (ss : List Str)
  | one (w : Str) (t : Tm)
  | two (w : Str) (s t : Tm)
def Tm.sz : Tm → Nat
  | .leaf _ _ => 1
  | .one _ t => 1 + t.sz
  | .two _ s t => 1 + s.sz + t.sz
/-- at a stands the term -/
def TmAt (K : PySem.W.Frag) (H : Hp) : Addr → Tm → Prop
  | a, .leaf w ss => SqT K H a (.str w :: ss.map V.str)
  | a, .one w t => ∃ b, SqT K H a [.str w, .ref b] ∧ TmAt K H b t
  | a, .two w s t => ∃ b c, SqT K H a [.str w, .ref b, .ref c] ∧ TmAt K H b s ∧ TmAt K H c t
theorem TmAt.same {K : PySem.W.Frag} {H H' : Hp} (s : Same H H') : ∀ {t : Tm} {a : Addr}, TmAt K H a t → TmAt K H' a t
  | .leaf _ _, _, h => sqt_same s h
  | .one _ _, _, ⟨b, h, g⟩ => ⟨b, sqt_same s h, g.same s⟩
  | .two _ _ _, _, ⟨b, c, h, g, g2⟩ => ⟨b, c, sqt_same s h, g.same s, g2.same s⟩
theorem TmAt.put {K : PySem.W.Frag} {H : Hp} {D : Addr} {l : List V} {o : HO} (e : H D = some (.lst l)) : ∀ {t : Tm} {a : Addr}, TmAt K H a t → TmAt K (upd H D o) a t
  | .leaf _ _, _, h => sqt_put e h
  | .one _ _, _, ⟨b, h, g⟩ => ⟨b, sqt_put e h, g.put e⟩
  | .two _ _ _, _, ⟨b, c, h, g, g2⟩ => ⟨b, c, sqt_put e h, g.put e, g2.put e⟩
/-- right terms of a frame, with their ends -/
inductive Ty (xs : List Str) (ls : List Lt) : Tm → Str → Str → Prop
  | letter {q : Lt} : q ∈ ls → Ty xs ls (.leaf "letter" [q.1]) q.2.1 q.2.2
  | same {a : Str} : a ∈ xs → Ty xs ls (.leaf "same" [a]) a a
  | other {a : Str} : a ∈ xs → Ty xs ls (.leaf "other" [a]) a a
  | none {a b : Str} : a ∈ xs → b ∈ xs → Ty xs ls (.leaf "none" [a, b]) a b
  | all {a b : Str} : a ∈ xs → b ∈ xs → Ty xs ls (.leaf "all" [a, b]) a b
  | rest {t : Tm} {a b : Str} : Ty xs ls t a b → Ty xs ls (.one "rest" t) a b
  | turned {t : Tm} {a b : Str} : Ty xs ls t b a → Ty xs ls (.one "turned" t) a b
  | closed {t : Tm} {a : Str} : Ty xs ls t a a → Ty xs ls (.one "closed" t) a a
  | walked {t : Tm} {a : Str} : Ty xs ls t a a → Ty xs ls (.one "walked" t) a a
  | joined {s t : Tm} {a b : Str} : Ty xs ls s a b → Ty xs ls t a b → Ty xs ls (.two "joined" s t) a b
  | cut {s t : Tm} {a b : Str} : Ty xs ls s a b → Ty xs ls t a b → Ty xs ls (.two "cut" s t) a b
  | then_ {s t : Tm} {a m b : Str} : Ty xs ls s a m → Ty xs ls t m b → Ty xs ls (.two "then" s t) a b
/-- flat terms -/
def FlT : Tm → Prop
  | .leaf _ _ => True
  | .one w t => (w = "rest" ∨ w = "turned") ∧ FlT t
  | .two w s t => (w = "joined" ∨ w = "cut") ∧ FlT s ∧ FlT t
def fB : Tm → Bool
  | .leaf _ _ => true
  | .one w t => decide (w = "rest" ∨ w = "turned") && fB t
  | .two w s t => decide (w = "joined" ∨ w = "cut") && (fB s && fB t)
theorem fB_iff : ∀ t : Tm, fB t = true ↔ FlT t
  | .leaf _ _ => ⟨fun _ => trivial, fun _ => rfl⟩
  | .one w t => by
    have := fB_iff t
    simp only [fB, FlT, Bool.and_eq_true, decide_eq_true_eq, this]
  | .two w s t => by
    have h1 := fB_iff s
    have h2 := fB_iff t
    simp only [fB, FlT, Bool.and_eq_true, decide_eq_true_eq, h1, h2]
/-- how many ways -/
def cnt : Tm → Nat
  | .leaf _ _ => 1
  | .one w t => if fB (.one w t) then 1 else cnt t
  | .two w s t => if fB (.two w s t) then 1 else if w = "joined" then cnt s + cnt t else cnt s * cnt t
theorem cnt_flat {t : Tm} (h : FlT t) : cnt t = 1 := by
  have e := (fB_iff t).mpr h
  cases t with
  | leaf w ss => rfl
  | one w t => unfold cnt; rw [if_pos e]
  | two w s t => unfold cnt; rw [if_pos e]
inductive Short : Tm → Prop
  | leaf {w : Str} {ss : List Str} : Short (.leaf w ss)
  | rest {t : Tm} : FlT t → Short (.one "rest" t)
  | turned {t : Tm} : Short t → Short (.one "turned" t)
  | joined {s t : Tm} : Short s → Short t → Short (.two "joined" s t)
  | cut {s t : Tm} : Short s → Short t → Short (.two "cut" s t)
  | then_ {s t : Tm} : Short s → Short t → Short (.two "then" s t)
theorem FlT.short : ∀ {t : Tm}, FlT t → Short t
  | .leaf _ _, _ => .leaf
  | .one w t, h => by
    rcases h.1 with rfl | rfl
    · exact .rest h.2
    · exact .turned (FlT.short h.2)
  | .two w s t, h => by
    rcases h.1 with rfl | rfl
    · exact .joined (FlT.short h.2.1) (FlT.short h.2.2)
    · exact .cut (FlT.short h.2.1) (FlT.short h.2.2)
def ShK (kd : Str) (n : Nat) (t : Tm) : Prop := kd = "short" → Short t ∧ cnt t ≤ 2 ^ (n / 2)
theorem ShK.flat {kd : Str} {n : Nat} {t : Tm} (h : FlT t) : ShK kd n t := fun _ => ⟨h.short, by rw [cnt_flat h]; exact Nat.one_le_two_pow⟩
theorem ShK.turned {kd : Str} {n : Nat} {t : Tm} (h : ShK kd (n - 1) t) : ShK kd n (.one "turned" t) := fun e => by
  obtain ⟨h1, h2⟩ := h e
  refine ⟨.turned h1, ?_⟩
  unfold cnt
  split
  · exact Nat.one_le_two_pow
  · exact Nat.le_trans h2 (Nat.pow_le_pow_right (by decide) (by omega))
theorem cnt_two {w : Str} {n a b : Nat} (h1 : a ≤ 2 ^ (n / 2 / 2)) (h2 : b ≤ 2 ^ (n / 2 / 2)) (n2 : 2 ≤ n) : a + b ≤ 2 ^ (n / 2) ∧ a * b ≤ 2 ^ (n / 2) := by
  have e1 : 2 ^ (n / 2 / 2 + 1) ≤ 2 ^ (n / 2) := Nat.pow_le_pow_right (by decide) (by omega)
  have e2 : 2 ^ (n / 2 / 2 + n / 2 / 2) ≤ 2 ^ (n / 2) := Nat.pow_le_pow_right (by decide) (by omega)
  have e3 := Nat.mul_le_mul h1 h2
  rw [← Nat.pow_add] at e3
  rw [Nat.pow_succ] at e1
  omega
theorem ShK.two {kd w : Str} {n : Nat} {s t : Tm} (hw : w = "joined" ∨ w = "cut" ∨ w = "then") (n2 : 2 ≤ n) (h1 : ShK kd (n / 2) s) (h2 : ShK kd (n / 2) t) : ShK kd n (.two w s t) := fun e => by
  obtain ⟨a1, a2⟩ := h1 e
  obtain ⟨b1, b2⟩ := h2 e
  obtain ⟨c1, c2⟩ := cnt_two (w := w) a2 b2 n2
  refine ⟨?_, ?_⟩
  · rcases hw with rfl | rfl | rfl
    · exact .joined a1 b1
    · exact .cut a1 b1
    · exact .then_ a1 b1
  · unfold cnt
    split
    · exact Nat.one_le_two_pow
    · split
      · exact c1
      · exact c2
/-- at u stands a right term of these ends, not greater than n -/
def Good (K : PySem.W.Frag) (xs : List Str) (ls : List Lt) (x y : Str) (n : Nat) (H : Hp) (u : Addr) : Prop := ∃ t, TmAt K H u t ∧ Ty xs ls t x y ∧ (t.sz ≤ n ∧ FlT t)
/-- at L stands a list of such -/
def GoodL (K : PySem.W.Frag) (xs : List Str) (ls : List Lt) (x y : Str) (n : Nat) (H : Hp) (L : Addr) (N : Nat) : Prop := ∃ us : List Addr, H L = some (.lst (us.map V.ref)) ∧ us.length ≤ N ∧ ∀ u ∈ us, Good K xs ls x y n H u
section
variable {K : PySem.W.Frag} {xs : List Str} {ls : List Lt} {x y : Str} {n N : Nat} {H H' : Hp} {u D L : Addr}
theorem Good.same (s : Same H H') (h : Good K xs ls x y n H u) : Good K xs ls x y n H' u := let ⟨t, a, b, c⟩ := h; ⟨t, a.same s, b, c⟩
theorem Good.put {l : List V} {o : HO} (e : H D = some (.lst l)) (h : Good K xs ls x y n H u) : Good K xs ls x y n (upd H D o) u := let ⟨t, a, b, c⟩ := h; ⟨t, a.put e, b, c⟩
theorem GoodL.same (s : Same H H') (h : GoodL K xs ls x y n H L N) : GoodL K xs ls x y n H' L N := let ⟨us, a, b, c⟩ := h; ⟨us, s _ _ a, b, fun u hu => (c u hu).same s⟩
/-- one more -/
theorem GoodL.snoc {us : List Addr} (e : H L = some (.lst (us.map V.ref))) (l : us.length ≤ N) (g : ∀ u ∈ us, Good K xs ls x y n H u) (h : Good K xs ls x y n H u) : GoodL K xs ls x y n (upd H L (.lst (us.map V.ref ++ [.ref u]))) L (N + 1) := by
  refine ⟨us ++ [u], by rw [upd_same, List.map_append]; rfl, by rw [List.length_append]; exact Nat.succ_le_succ l, fun v hv => ?_⟩
  rcases List.mem_append.mp hv with z | z
  · exact (g v z).put e
  · rw [List.mem_singleton.mp z]
    exact h.put e
end
/-- a letter's ends compared with others -/
theorem eq_ends {K : PySem.W.Frag} {H : Hp} {a b : Addr} {p q x y : Str} {Q : VK} (wp : Wd p) (wq : Wd q) (wx : Wd x) (wy : Wd y) (h1 : SqT K H a [.str p, .str q]) (h2 : SqT K H b [.str x, .str y]) (k : Q (.bl (decide (p = x ∧ q = y))) H) : rEqD K (.ref a) (.ref b) H Q := by
  refine ⟨.tuple [.str p, .str q], .tuple [.str x, .str y], .tup h1 (.cons (.str _) (.cons (.str _) .nil)), .tup h2 (.cons (.str _) (.cons (.str _) .nil)), shp_pair wp wq, shp_pair wx wy, ?_⟩
  rw [show PyData.eqv (.tuple [.str p, .str q]) (.tuple [.str x, .str y]) = decide ([p, q] = [x, y]) from eqv_strs [p, q] [x, y]]
  rw [show decide ([p, q] = [x, y]) = decide (p = x ∧ q = y) by simp]
  exact k
end K43

namespace K43
open PySem PySem.Spec PyProof.Rows L2 Ow
/-- a new object, the source hidden -/
structure NewH (d c : Addr) (G : Hp) (T : Addr) (o : HO) : Prop where
  src : SrcAt (upd G T o) d c
  nd : T ≠ d
  nc : T ≠ c
  sm : Same (hid d c G) (hid d c (upd G T o))
  at_ : hid d c (upd G T o) T = some o
theorem new_h {d c T : Addr} {G : Hp} (o : HO) (src : SrcAt G d c) (hT : G T = none) : NewH d c G T o := by
  obtain ⟨n1, n2⟩ := src_ne src hT
  exact ⟨src_same (same_upd hT) src, n1, n2, hid_same (same_upd hT), (hid_at n1 n2).trans upd_same⟩
theorem dget_mono {H H' : Hp} {a : Addr} {y : V} {r : Option V} (s : Same H H') (h : DGet H a y r) : DGet H' a y r := by
  have rd : ∀ {u : HO}, Rd H a u → Rd H' a u := fun {u} z => z.elim (fun z => .inl (s _ _ z)) fun ⟨o, z⟩ => .inr ⟨o, s _ _ z⟩
  rcases h with ⟨kvs, k, e, g⟩ | ⟨kvs, k, b, e, ey, eb, l⟩
  · exact .inl ⟨kvs, k, rd e, g⟩
  · exact .inr ⟨kvs, k, b, rd e, ey, s _ _ eb, l⟩
theorem FrAt.fr {K : PySem.W.Frag} {H : Hp} {d : Addr} {xs : List Str} {ls : List Lt} (h : FrAt K H d xs ls) : ∃ s m o, DGet H d (.str "sorts") (some (.ref s)) ∧ DGet H d (.str "letters") (some (.ref m)) ∧ DGet H d (.str "order") (some (.ref o)) ∧ H s = some (.lst (xs.map V.str)) ∧ LdAt K H m ls ∧ SqL K H o ((ls.map (·.1)).map V.str) := by
  obtain ⟨⟨s, m, o, t, b, h1, h2, h3, h4⟩, _⟩ := h
  exact ⟨s, m, o, fr_sorts h1, fr_letters h1, fr_order h1, h2, h3, h4⟩
theorem name_at {ls : List Lt} {i : Nat} {v : V} (hi : ((ls.map (·.1)).map V.str)[i]? = some v) : ∃ q, ls[i]? = some q ∧ v = .str q.1 := by
  obtain ⟨x, ex, rfl⟩ := str_at hi
  rw [List.getElem?_map] at ex
  cases z : ls[i]? with
  | none => rw [z] at ex; cases ex
  | some q => rw [z] at ex; exact ⟨q, rfl, by rw [← Option.some.inj ex]⟩
theorem seq_if {tc : TT} {a b u : TS} {D : Ends} {σ : L2.St} {H : Hp} (I : Hp → Prop) (hu : ∀ H', I H' → u D σ H') (h : (∀ H', I H' → u D σ H') → tc σ H fun k H1 => if k = true then a { D with nx := u D } σ H1 else b { D with nx := u D } σ H1) : tSeq (tIfS tc a b) u D σ H := h hu
/-- a list of good terms that grows -/
structure LfI (K : PySem.W.Frag) (xs : List Str) (ls : List Lt) (x y : Str) (d c L : Addr) (H : Hp) (N : Nat) (G : Hp) : Prop where
  src : SrcAt G d c
  sm : Same (hid d c H) (hid d c G)
  ex : ∃ us : List Addr, hid d c G L = some (.lst (us.map V.ref)) ∧ us.length ≤ N ∧ 1 ≤ us.length ∧ ∀ u ∈ us, Good K xs ls x y 2 (hid d c G) u
theorem LfI.le {K : PySem.W.Frag} {xs : List Str} {ls : List Lt} {x y : Str} {d c L : Addr} {H G : Hp} {N M : Nat} (h : LfI K xs ls x y d c L H N G) (l : N ≤ M) : LfI K xs ls x y d c L H M G := ⟨h.src, h.sm, let ⟨us, a, b, e, g⟩ := h.ex; ⟨us, a, Nat.le_trans b l, e, g⟩⟩
/-- one more term in it -/
theorem LfI.app {K : PySem.W.Frag} {xs : List Str} {ls : List Lt} {x y : Str} {d c L T : Addr} {H G G' : Hp} {N : Nat} (n1 : L ≠ d) (n2 : L ≠ c) (h0 : hid d c H L = none) (h : LfI K xs ls x y d c L H N G) (src : SrcAt G' d c) (s : Same (hid d c G) (hid d c G')) (g : Good K xs ls x y 2 (hid d c G') T) (hN : N ≤ 900) {Q : Hp → Prop}
    (k : ∀ us : List Addr, us.length ≤ N → G' L = some (.lst (us.map V.ref)) → LfI K xs ls x y d c L H (N + 1) (upd G' L (.lst (us.map V.ref ++ [.ref T]))) → Q (upd G' L (.lst (us.map V.ref ++ [.ref T])))) : ∃ us : List V, G' L = some (.lst us) ∧ us.length < sizeLine ∧ Q (upd G' L (.lst (us ++ [.ref T]))) := by
  obtain ⟨us, e, l1, l2, gu⟩ := h.ex
  have e2 := s _ _ e
  refine ⟨us.map V.ref, hid_sub _ _ e2, by rw [List.length_map]; exact small1000 (by omega), k us l1 (hid_sub _ _ e2) ⟨src_put n1 n2 src, ?_, us ++ [T], ?_, by rw [List.length_append]; exact Nat.succ_le_succ l1, by rw [List.length_append]; omega, fun u hu => ?_⟩⟩
  · rw [hid_upd n1 n2]
    exact same_put h0 (h.sm.trans s)
  · rw [hid_upd n1 n2, upd_same, List.map_append]
    rfl
  · rw [hid_upd n1 n2]
    rcases List.mem_append.mp hu with z | z
    · exact ((gu u z).same s).put e2
    · rw [List.mem_singleton.mp z]
      exact g.put e2
abbrev NLf : List Str := ["_law_source_here", "_law_frame_here", "_law_ends_here", "_law_plain", "_law_some", "_law_name"]
theorem scLf : FnScope NLf ["_law_source_here", "_law_frame_here", "_law_ends_here", "_law_plain"] (defScope sLawLeaf) := ⟨rfl, rfl, rfl, by decide +kernel, rfl, by decide +kernel, by decide +kernel⟩
def spLf (K : PySem.W.Frag) : Sp := fun vs H Q _ => ∃ (d c e a : Addr) (pl : Bool) (xs : List Str) (ls : List Lt) (x y : Str), vs = [.ref d, .ref e, .ref a, .bl pl] ∧ SrcAt H d c ∧ FrAt K (hid d c H) e xs ls ∧ SqT K (hid d c H) a [.str x, .str y] ∧ x ∈ xs ∧ y ∈ xs ∧
  ∀ (u : Addr) (H' : Hp), SrcAt H' d c → Same (hid d c H) (hid d c H') → Good K xs ls x y 2 (hid d c H') u → Q (.ref u) H'
def ttL1 (K : PySem.W.Frag) : TT := tTest (tOp (rEqD K) (tDGet (tDGet (tVar 1) (tC (.str "letters"))) (tVar 5)) (tVar 2))
def teL1 : TE := tTup (tCons (tC (.str "letter")) (tCons (tVar 5) tNil))
def ttL2 (K : PySem.W.Frag) : TT := tTest (tOp (rEqD K) (tDGet (tDGet (tVar 1) (tC (.str "letters"))) (tVar 5)) (tRev K (tVar 2) (tUn (rU fun i => .int (-i)) (tC (.int 1)))))
def teL2 : TE := tTup (tCons (tC (.str "turned")) (tCons (tTup (tCons (tC (.str "letter")) (tCons (tVar 5) tNil))) tNil))
section
variable {P : Program} {w : World} {K : PySem.W.Frag} {mg : Str → Option Value} {base : Heap} {f : Addr} {fd : FuncData}
theorem ok_lf (F : FnP K "_law_leaf" sLawLeaf f fd) (Y : Fx w K mg) : FnOk P w K mg base CX0 2 f fd ["_law_source_here", "_law_frame_here", "_law_ends_here", "_law_plain"] (spLf K) := by
  obtain ⟨d1, F1⟩ := Y.dLawPick
  have b1 := FunD.bindsN (ps := ["_law_source_here", "_law_many"]) F1 fun _ _ _ _ _ _ us hl => match us, hl with | [_, _], _ => rfl
  have G1 : FnOk P w K mg base CX0 1 _ d1 ["_law_source_here", "_law_many"] spPick := ok_pick F1 Y.bl
  refine okD F scLf (fun vs H Q E h => ?_) (fun cdv A outer s H vs Q E hr h => ?_)
  · obtain ⟨d, c, e, a, pl, xs, ls, x, y, rfl, _⟩ := h
    rfl
  · have nd := scLf.nd
    have hu := hu_of hr
    have hu64 := hu64_of hr
    refine ⟨_, pss_cons (ps_setLc (i := 4) (own := [("_law_name", 5)]) (g := gName 5) (tt := ttL1 K) (te := teL1) rfl nd rfl rfl (by rfl) (pi_list (pe_dget hu (pv 1) pe_str nosl)) (blkOk_by (N := NLf) (sc := defScope sLawLeaf) (by decide +kernel)) (fun _ _ _ _ _ => pg_name (i := 5) nd rfl (Or.inl rfl))
        (fun _ _ _ _ _ => pts_one (pt_cmpR (op_eqD hu64) (pe_dget hu (pe_dget hu (pv 1) pe_str nosl) (pv 5) nosl) (pv 2) (nomark _))) (fun _ _ _ _ _ => pe_tup (pa_cons pe_str (pa_cons (pv 5) pa_nil))))
      (pss_cons (ps_set (i := 4) nd rfl (Or.inl rfl) (pe_op op_cat (pv 4)
        (pe_lc (own := [("_law_name", 5)]) (g := gName 5) (tt := ttL2 K) (te := teL2) rfl nd (pi_list (pe_dget hu (pv 1) pe_str nosl)) (blkOk_by (N := NLf) (sc := defScope sLawLeaf) (by decide +kernel)) (fun _ _ _ _ _ => pg_name (i := 5) nd rfl (Or.inl rfl))
        (fun _ _ _ _ _ => pts_one (pt_cmpR (op_eqD hu64) (pe_dget hu (pe_dget hu (pv 1) pe_str nosl) (pv 5) nosl) (pe_rev (pv 2) (pe_un un_neg pe_int)) (nomark _))) (fun _ _ _ _ _ => pe_tup (pa_cons pe_str (pa_cons (pe_tup (pa_cons pe_str (pa_cons (pv 5) pa_nil))) pa_nil))))))
      (pss_cons (ps_set (i := 4) nd rfl (Or.inl rfl) (pe_op op_cat (pe_op op_rep (pv 4) pe_int) (pe_lst (pa_cons (pe_op op_catT (pe_tup (pa_cons pe_str pa_nil)) (pv 2)) pa_nil))))
      (pss_cons (ps_if (pt_cmpR op_eq (pe_ix ix_tup (pv 2) pe_int (fun _ _ => rfl)) (pe_ix ix_tup (pv 2) pe_int (fun _ _ => rfl)) (nomark _))
        (pss_one (ps_expr (pe_bm PySem.F.plainAttrs_list PySem.F.slot_list_append PySem.F.type_list_append mt_append (pv 4) (pa_cons (pe_tup (pa_cons pe_str (pa_cons (pe_ix ix_tup (pv 2) pe_int (fun _ _ => rfl)) pa_nil))) pa_nil)))) pss_nil)
      (pss_cons (ps_if (pw_and (pt_not (pt_val (pv 3))) (pw_and1 (pt_cmpR op_eq (pe_ix ix_tup (pv 2) pe_int (fun _ _ => rfl)) (pe_ix ix_tup (pv 2) pe_int (fun _ _ => rfl)) (nomark _)))).pt
        (pss_one (ps_expr (pe_bm PySem.F.plainAttrs_list PySem.F.slot_list_append PySem.F.type_list_append mt_append (pv 4) (pa_cons (pe_tup (pa_cons pe_str (pa_cons (pe_ix ix_tup (pv 2) pe_int (fun _ _ => rfl)) pa_nil))) pa_nil)))) pss_nil)
      (pss_cons (ps_if (pw_and (pt_not (pt_val (pv 3))) (pw_and1 (pt_cmpR op_eq (pe_call G1 hr (by rfl) Y.gLawPick F1.kp b1 .nil pass0 (pa_cons (pv 0) (pa_cons pe_int pa_nil))) pe_int (nomark _)))).pt
        (pss_one (ps_expr (pe_bm PySem.F.plainAttrs_list PySem.F.slot_list_append PySem.F.type_list_append mt_append (pv 4) (pa_cons (pe_op op_catT (pe_tup (pa_cons pe_str pa_nil)) (pv 2)) pa_nil)))) pss_nil)
      (pss_one (ps_ret (pe_ix ix_list (pv 4) (pe_call G1 hr (by rfl) Y.gLawPick F1.kp b1 .nil pass0 (pa_cons (pv 0) (pa_cons (pe_callB call_len_seq (by rfl) Y.bLen PySem.boot_len (pa_cons (pv 4) pa_nil)) pa_nil))) (fun _ _ => rfl))))))))), ?_⟩
    obtain ⟨d, c, e, a, pl, xs, ls, x, y, rfl, src, fr, ha, hx, hy, k⟩ := h
    obtain ⟨_, m, o, _, gm, go, _, lm, lo⟩ := fr.fr
    have ok := fr.ok
    have wx := ok.nx.w x hx
    have wy := ok.nx.w y hy
    have l16 := ok.nl.n
    rw [List.length_map] at l16
    have at_ : ∀ {G : Hp}, Same (hid d c H) (hid d c G) → DGet G e (.str "order") (some (.ref o)) ∧ DGet G e (.str "letters") (some (.ref m)) ∧ LdAt K G m ls ∧ SqL K G o ((ls.map (·.1)).map V.str) ∧ SqT K G a [.str x, .str y] := fun sm =>
      ⟨dget_mono hid_sub (dget_mono sm go), dget_mono hid_sub (dget_mono sm gm), (lm.same sm).same hid_sub, hid_sub.seq (sm.seq lo), sqt_same hid_sub (sqt_same sm ha)⟩
    obtain ⟨a1, a2, a3, a4, a5⟩ := at_ (Same.refl _)
    refine ⟨_, rfl, e, .ref o, rfl, a1, o, rfl, ⟨_, a4⟩, fun D hD => ?_⟩
    have nD := new_h (.lst []) src hD
    have hDh : hid d c H D = none := (hid_at nD.nd nD.nc).trans hD
    refine lc_list (K := K) (a := o) (xs := (ls.map (·.1)).map V.str) (fun i G => SrcAt G d c ∧ Same (hid d c H) (hid d c G) ∧ GoodL K xs ls x y 2 (hid d c G) D i) ⟨nD.src, nD.sm, [], nD.at_, Nat.le_refl _, fun u hu => absurd hu List.not_mem_nil⟩ (fun i G _ p => (at_ p.2.1).2.2.2.1) ?_ ?_
    · rintro i v G hi ⟨srcG, smG, us, eD, lu, gu⟩
      obtain ⟨q, eq, rfl⟩ := name_at hi
      obtain ⟨_, b2, b3, _, b5⟩ := at_ smG
      obtain ⟨tt, dg, st⟩ := b3.get ok.nl.nd eq
      obtain ⟨m1, m2⟩ := ok.ends q (List.mem_of_getElem? eq)
      have li := (List.getElem?_eq_some_iff.mp eq).1
      refine ⟨rfl, ?_⟩
      show tTest (tOp (rEqD K) (tDGet (tDGet (tVar 1) (tC (.str "letters"))) (tVar 5)) (tVar 2)) _ _ _
      refine ⟨_, rfl, e, .ref m, rfl, b2, _, rfl, m, .ref tt, rfl, dg, _, rfl, eq_ends (ok.nx.w _ m1) (ok.nx.w _ m2) wx wy st b5 ⟨_, rfl, ite2 (fun hc => ?_) (fun _ => ?_)⟩⟩
      · obtain ⟨e1, e2⟩ := of_decide_eq_true hc
        refine ⟨_, rfl, szl (by show 2 ≤ 1000; decide), fun T hT => ?_⟩
        have nT := new_h (.tup [V.str "letter", V.str q.1]) srcG hT
        have eD2 : hid d c (upd G T (.tup [V.str "letter", V.str q.1])) D = some (.lst (us.map V.ref)) := nT.sm _ _ eD
        have eD3 := hid_sub _ _ eD2
        refine ⟨_, eD3, ?_, src_put nD.nd nD.nc nT.src, ?_, ?_⟩
        · rw [List.length_map]
          exact small1000 (by omega)
        · rw [hid_upd nD.nd nD.nc]
          exact same_put hDh (smG.trans nT.sm)
        · rw [hid_upd nD.nd nD.nc]
          refine GoodL.snoc eD2 lu (fun u hu => (gu u hu).same nT.sm) ⟨.leaf "letter" [q.1], SqT.of nT.at_, ?_, ⟨by show 1 ≤ 2; decide, trivial⟩⟩
          have z : Ty xs ls (.leaf "letter" [q.1]) q.2.1 q.2.2 := .letter (List.mem_of_getElem? eq)
          rw [e1, e2] at z
          exact z
      · exact ⟨srcG, smG, us, eD, Nat.le_succ_of_le lu, gu⟩
    rintro G0 ⟨srcG0, smG0, us, eD, lu, gu⟩
    rw [List.length_map, List.length_map] at lu
    obtain ⟨a1, a2, a3, a4, a5⟩ := at_ smG0
    refine ⟨_, rfl, _, rfl, e, .ref o, rfl, a1, o, rfl, ⟨_, a4⟩, fun D2 hD2 => ?_⟩
    have nD2 := new_h (.lst []) srcG0 hD2
    have hDh2 : hid d c G0 D2 = none := (hid_at nD2.nd nD2.nc).trans hD2
    refine lc_list (K := K) (a := o) (xs := (ls.map (·.1)).map V.str) (fun i G => SrcAt G d c ∧ Same (hid d c G0) (hid d c G) ∧ GoodL K xs ls x y 2 (hid d c G) D2 i) ⟨nD2.src, nD2.sm, [], nD2.at_, Nat.le_refl _, fun u hu => absurd hu List.not_mem_nil⟩ (fun i G _ p => (at_ (smG0.trans p.2.1)).2.2.2.1) ?_ ?_
    · rintro i v G hi ⟨srcG, smG, us2, eD2, lu2, gu2⟩
      obtain ⟨q, eq, rfl⟩ := name_at hi
      obtain ⟨_, b2, b3, _, b5⟩ := at_ (smG0.trans smG)
      obtain ⟨tt, dg, st⟩ := b3.get ok.nl.nd eq
      obtain ⟨m1, m2⟩ := ok.ends q (List.mem_of_getElem? eq)
      have li := (List.getElem?_eq_some_iff.mp eq).1
      refine ⟨rfl, ?_⟩
      show tTest (tOp (rEqD K) (tDGet (tDGet (tVar 1) (tC (.str "letters"))) (tVar 5)) (tRev K (tVar 2) (tUn (rU fun i => .int (-i)) (tC (.int 1))))) _ _ _
      refine ⟨_, rfl, e, .ref m, rfl, b2, _, rfl, m, .ref tt, rfl, dg, _, rfl, _, rfl, rfl, a, _, rfl, .inr ⟨b5, fun p hp => ?_⟩⟩
      have np := new_h (.tup [V.str y, V.str x]) srcG hp
      refine eq_ends (ok.nx.w _ m1) (ok.nx.w _ m2) wy wx (sqt_same (same_upd hp) st) (SqT.of upd_same) ⟨_, rfl, ite2 (fun hc => ?_) (fun _ => ?_)⟩
      · obtain ⟨e1, e2⟩ := of_decide_eq_true hc
        refine ⟨_, rfl, szl (by show 2 ≤ 1000; decide), fun T1 hT1 => ⟨szl (by show 2 ≤ 1000; decide), fun T hT => ?_⟩⟩
        have nT1 := new_h (.tup [V.str "letter", V.str q.1]) np.src hT1
        have nT := new_h (.tup [V.str "turned", V.ref T1]) nT1.src hT
        have sT := np.sm.trans (nT1.sm.trans nT.sm)
        have eD3 := sT _ _ eD2
        have eD4 := hid_sub _ _ eD3
        refine ⟨_, eD4, ?_, src_put nD2.nd nD2.nc nT.src, ?_, ?_⟩
        · rw [List.length_map]
          exact small1000 (by omega)
        · rw [hid_upd nD2.nd nD2.nc]
          exact same_put hDh2 (smG.trans sT)
        · rw [hid_upd nD2.nd nD2.nc]
          refine GoodL.snoc eD3 lu2 (fun u hu => (gu2 u hu).same sT) ⟨.one "turned" (.leaf "letter" [q.1]), ⟨T1, SqT.of nT.at_, SqT.of (nT.sm _ _ nT1.at_)⟩, ?_, ⟨by show 1 + 1 ≤ 2; decide, .inr rfl, trivial⟩⟩
          have z : Ty xs ls (.leaf "letter" [q.1]) q.2.1 q.2.2 := .letter (List.mem_of_getElem? eq)
          rw [e1, e2] at z
          exact .turned z
      · exact ⟨np.src, smG.trans np.sm, us2, np.sm _ _ eD2, Nat.le_succ_of_le lu2, fun u hu => (gu2 u hu).same np.sm⟩
    rintro G1 ⟨srcG1, smG1, us2, eD2, lu2, gu2⟩
    rw [List.length_map, List.length_map] at lu2
    have eDg := smG1 _ _ eD
    refine ⟨D, D2, _, _, rfl, rfl, hid_sub _ _ eDg, hid_sub _ _ eD2, by rw [List.length_map, List.length_map]; exact szl (by omega), fun L1 hL1 => ?_⟩
    have nL1 := new_h (.lst (us.map V.ref ++ us2.map V.ref)) srcG1 hL1
    obtain ⟨G2, src2, sm2, us3, eL1, lu3, gu3, eg⟩ : ∃ G2, SrcAt G2 d c ∧ Same (hid d c H) (hid d c G2) ∧ ∃ us3 : List Addr, hid d c G2 L1 = some (.lst (us3.map V.ref)) ∧ us3.length ≤ 32 ∧ (∀ u ∈ us3, Good K xs ls x y 2 (hid d c G2) u) ∧ G2 = upd G1 L1 (.lst (us.map V.ref ++ us2.map V.ref)) :=
      ⟨_, nL1.src, smG0.trans (smG1.trans nL1.sm), us ++ us2, by rw [nL1.at_, List.map_append], by rw [List.length_append]; omega, fun u hu => (List.mem_append.mp hu).elim (fun z => (gu u z).same (smG1.trans nL1.sm)) fun z => (gu2 u z).same nL1.sm, rfl⟩
    change tSeq _ _ _ _ (upd G1 L1 (.lst (us.map V.ref ++ us2.map V.ref)))
    rw [← eg]
    clear eg nL1 hL1 eD2 gu2 lu2 eDg smG1 srcG1 gu lu eD smG0 srcG0 a1 a2 a3 a4 a5 hD2 nD2 hDh2 hD nD hDh
    refine ⟨_, rfl, L1, 3, _, rfl, rfl, hid_sub _ _ eL1, by decide, by decide, by rw [List.length_map]; exact szl (by show us3.length * 3 ≤ 1000; omega), fun L2 hL2 => ⟨szl (by show 1 ≤ 1000; decide), fun t1 ht1 => ?_⟩⟩
    have nL2 := new_h (.lst (List.replicate (3 : Int).toNat (us3.map V.ref)).flatten) src2 hL2
    have nt1 := new_h (.tup [V.str "all"]) nL2.src ht1
    obtain ⟨_, _, _, _, a5⟩ := at_ (sm2.trans (nL2.sm.trans nt1.sm))
    refine ⟨_, rfl, t1, a, _, _, rfl, rfl, SqT.of (hid_sub _ _ nt1.at_), a5, by simp, szl (by show 3 ≤ 1000; decide), fun z => absurd z (List.cons_ne_nil _ _), fun _ t2 ht2 => ⟨szl (by show 1 ≤ 1000; decide), fun l hl => ?_⟩⟩
    have nt2 := new_h (.tup ([V.str "all"] ++ [V.str x, V.str y])) nt1.src ht2
    have nl := new_h (.lst [V.ref t2]) nt2.src hl
    have s2l := nL2.sm.trans (nt1.sm.trans (nt2.sm.trans nl.sm))
    have eL2 := (nt1.sm.trans (nt2.sm.trans nl.sm)) _ _ nL2.at_
    refine ⟨L2, l, _, _, rfl, rfl, hid_sub _ _ eL2, hid_sub _ _ nl.at_, ?_, fun L3 hL3 => ?_⟩
    · have z : ((List.replicate (3 : Int).toNat (us3.map V.ref)).flatten).length = 3 * us3.length := by
        show (List.replicate 3 (us3.map V.ref)).flatten.length = _
        simp [List.replicate]
        omega
      rw [z]
      exact szl (by show 3 * us3.length + 1 ≤ 1000; omega)
    have nL3 := new_h (.lst ((List.replicate (3 : Int).toNat (us3.map V.ref)).flatten ++ [V.ref t2])) nl.src hL3
    have hL3n : hid d c H L3 = none := none_of (sm2.trans s2l) ((hid_at nL3.nd nL3.nc).trans hL3)
    have iv3 : LfI K xs ls x y d c L3 H 97 (upd (upd (upd (upd (upd G2 L2 (.lst (List.replicate (3 : Int).toNat (us3.map V.ref)).flatten)) t1 (.tup [V.str "all"])) t2 (.tup ([V.str "all"] ++ [V.str x, V.str y]))) l (.lst [V.ref t2])) L3 (.lst ((List.replicate (3 : Int).toNat (us3.map V.ref)).flatten ++ [V.ref t2]))) :=
      ⟨nL3.src, sm2.trans (s2l.trans nL3.sm), ⟨us3 ++ us3 ++ us3 ++ [t2], by rw [nL3.at_]; simp [List.replicate], by simp only [List.length_append, List.length_cons, List.length_nil]; omega, by simp only [List.length_append, List.length_cons, List.length_nil]; omega, fun u hu => by
        rcases List.mem_append.mp hu with z | z
        · have z3 : u ∈ us3 := by simpa using z
          exact (gu3 u z3).same (s2l.trans nL3.sm)
        · rw [List.mem_singleton.mp z]
          exact ⟨.leaf "all" [x, y], SqT.of ((nl.sm.trans nL3.sm) _ _ nt2.at_), .all hx hy, ⟨by show 1 ≤ 2; decide, trivial⟩⟩⟩⟩
    obtain ⟨G3, eg⟩ : ∃ G3, G3 = upd (upd (upd (upd (upd G2 L2 (.lst (List.replicate (3 : Int).toNat (us3.map V.ref)).flatten)) t1 (.tup [V.str "all"])) t2 (.tup ([V.str "all"] ++ [V.str x, V.str y]))) l (.lst [V.ref t2])) L3 (.lst ((List.replicate (3 : Int).toNat (us3.map V.ref)).flatten ++ [V.ref t2])) := ⟨_, rfl⟩
    dsimp only [gName]
    change tSeq (tIfS _ _ _) _ _ [some (.ref d), some (.ref e), some (.ref a), some (.bl pl), some (.ref L3), none] (upd (upd (upd (upd (upd G2 L2 (.lst (List.replicate (3 : Int).toNat (us3.map V.ref)).flatten)) t1 (.tup [V.str "all"])) t2 (.tup ([V.str "all"] ++ [V.str x, V.str y]))) l (.lst [V.ref t2])) L3 (.lst ((List.replicate (3 : Int).toNat (us3.map V.ref)).flatten ++ [V.ref t2])))
    rw [← eg] at iv3 ⊢
    have n1 := nL3.nd
    have n2 := nL3.nc
    clear eg nL3 hL3 eL2 s2l nl nt2 nt1 nL2 a5 hl ht2 ht1 hL2 gu3 lu3 eL1 src2 sm2
    refine seq_if (LfI K xs ls x y d c L3 H 98) (fun G4 iv4 => ?_) (fun nx => ?_)
    · refine seq_if (LfI K xs ls x y d c L3 H 99) (fun G5 iv5 => ?_) (fun nx => ?_)
      · refine seq_if (LfI K xs ls x y d c L3 H 100) (fun G6 iv6 => ?_) (fun nx => ?_)
        · obtain ⟨us, eL, u1, u2, gu⟩ := iv6.ex
          have eL' := hid_sub _ _ eL
          refine ⟨_, rfl, _, rfl, _, rfl, L3, _, rfl, .inl (SqL.of eL'), ?_⟩
          rw [List.length_map]
          refine ⟨d, c, (us.length : Int), rfl, iv6.src, by omega, by omega, fun r G7 r0 r1 src7 keep => ?_⟩
          obtain ⟨j, rfl⟩ : ∃ j : Nat, r = (j : Int) := ⟨r.toNat, by omega⟩
          have eh : hid d c G7 = hid d c G6 := hid_pick keep
          have lj : j < us.length := by omega
          refine ⟨L3, _, _, .ref us[j], rfl, rfl, SqL.of ((keep L3 n1 n2).trans eL'), atI_nat (by rw [List.getElem?_map, List.getElem?_eq_getElem lj]; rfl), ?_⟩
          exact k us[j] G7 src7 (by rw [eh]; exact iv6.sm) (by rw [eh]; exact gu _ (List.getElem_mem _))
        · refine ⟨_, rfl, _, rfl, ?_⟩
          cases pl with
          | true => exact iteF (iteF (nx _ (iv5.le (by decide))))
          | false =>
            refine iteT ⟨_, rfl, d, c, 6, rfl, iv5.src, by decide, by decide, fun r G6 r0 r1 src6 keep => ?_⟩
            have eh : hid d c G6 = hid d c G5 := hid_pick keep
            have iv6 : LfI K xs ls x y d c L3 H 99 G6 := ⟨src6, by rw [eh]; exact iv5.sm, by rw [eh]; exact iv5.ex⟩
            refine ⟨rfl, _, rfl, ite2 (fun _ => ?_) (fun _ => nx _ (iv6.le (by decide)))⟩
            obtain ⟨us, eL, u1, u2, gu⟩ := id iv6.ex
            refine ⟨_, rfl, .inl ⟨rfl, _, SqL.of (hid_sub _ _ eL)⟩, szl (by show 1 ≤ 1000; decide), fun t1 ht1 => ?_⟩
            have nt1 := new_h (.tup [V.str "none"]) src6 ht1
            obtain ⟨_, _, _, _, a5⟩ := at_ (iv6.sm.trans nt1.sm)
            refine ⟨_, rfl, t1, a, _, _, rfl, rfl, SqT.of (hid_sub _ _ nt1.at_), a5, by simp, szl (by show 3 ≤ 1000; decide), fun z => absurd z (List.cons_ne_nil _ _), fun _ t2 ht2 => ?_⟩
            have nt2 := new_h (.tup ([V.str "none"] ++ [V.str x, V.str y])) nt1.src ht2
            obtain ⟨vs, e, lz, q⟩ := LfI.app n1 n2 hL3n iv6 nt2.src (nt1.sm.trans nt2.sm) (T := t2) ⟨.leaf "none" [x, y], SqT.of nt2.at_, .none hx hy, ⟨by show 1 ≤ 2; decide, trivial⟩⟩ (by decide) (Q := _) fun _ _ _ i => nx _ i
            exact ⟨L3, vs, _, rfl, rfl, e, lz, q⟩
      · obtain ⟨_, _, _, _, a5⟩ := at_ iv4.sm
        refine ⟨_, rfl, _, rfl, ?_⟩
        cases pl with
        | true => exact iteF (iteF (nx _ (iv4.le (by decide))))
        | false =>
          refine iteT ⟨_, rfl, a, _, 0, _, rfl, rfl, a5, rfl, _, rfl, a, _, 1, _, rfl, rfl, a5, rfl, rfl, _, rfl, ite2 (fun hc => ?_) (fun _ => nx _ (iv4.le (by decide)))⟩
          have exy : x = y := by simpa using hc
          obtain ⟨us, eL, u1, u2, gu⟩ := id iv4.ex
          refine ⟨_, rfl, .inl ⟨rfl, _, SqL.of (hid_sub _ _ eL)⟩, _, rfl, a, _, 0, _, rfl, rfl, a5, rfl, szl (by show 2 ≤ 1000; decide), fun T hT => ?_⟩
          have nT := new_h (.tup [V.str "other", V.str x]) iv4.src hT
          obtain ⟨vs, e, lz, q⟩ := LfI.app n1 n2 hL3n iv4 nT.src nT.sm (T := T) ⟨.leaf "other" [x], SqT.of nT.at_, by rw [← exy]; exact .other hx, ⟨by show 1 ≤ 2; decide, trivial⟩⟩ (by decide) (Q := _) fun _ _ _ i => nx _ i
          exact ⟨L3, vs, _, rfl, rfl, e, lz, q⟩
    · obtain ⟨_, _, _, _, a5⟩ := at_ iv3.sm
      refine ⟨_, rfl, a, _, 0, _, rfl, rfl, a5, rfl, _, rfl, a, _, 1, _, rfl, rfl, a5, rfl, rfl, _, rfl, ite2 (fun hc => ?_) (fun _ => nx _ (iv3.le (by decide)))⟩
      have exy : x = y := by simpa using hc
      obtain ⟨us, eL, u1, u2, gu⟩ := id iv3.ex
      refine ⟨_, rfl, .inl ⟨rfl, _, SqL.of (hid_sub _ _ eL)⟩, _, rfl, a, _, 0, _, rfl, rfl, a5, rfl, szl (by show 2 ≤ 1000; decide), fun T hT => ?_⟩
      have nT := new_h (.tup [V.str "same", V.str x]) iv3.src hT
      obtain ⟨vs, e, lz, q⟩ := LfI.app n1 n2 hL3n iv3 nT.src nT.sm (T := T) ⟨.leaf "same" [x], SqT.of nT.at_, by rw [← exy]; exact .same hx, ⟨by show 1 ≤ 2; decide, trivial⟩⟩ (by decide) (Q := _) fun _ _ _ i => nx _ i
      exact ⟨L3, vs, _, rfl, rfl, e, lz, q⟩
end
end K43

namespace K43
open PySem PySem.Spec PyProof.Rows L2 Ow
abbrev NFl : List Str := ["_law_source_here", "_law_frame_here", "_law_ends_here", "_law_room", "_law_pick_here", "_law_half", "_law_one"]
theorem scFl : FnScope NFl ["_law_source_here", "_law_frame_here", "_law_ends_here", "_law_room"] (defScope sLawFlat) := ⟨rfl, rfl, rfl, by decide +kernel, rfl, by decide +kernel, by decide +kernel⟩
/-- the parts of a term drawn with so much room -/
def szR (n : Nat) : Nat := 3 * n - 1
def spFl (K : PySem.W.Frag) (N : Nat) : Sp := fun vs H Q _ => ∃ (d c e a : Addr) (n : Nat) (xs : List Str) (ls : List Lt) (x y : Str), vs = [.ref d, .ref e, .ref a, .int (n : Int)] ∧ 1 ≤ n ∧ n ≤ N ∧ n ≤ 20 ∧ SrcAt H d c ∧ FrAt K (hid d c H) e xs ls ∧ SqT K (hid d c H) a [.str x, .str y] ∧ x ∈ xs ∧ y ∈ xs ∧
  ∀ (u : Addr) (H' : Hp), SrcAt H' d c → Same (hid d c H) (hid d c H') → Good K xs ls x y (szR n) (hid d c H') u → Q (.ref u) H'
theorem Good.le {K : PySem.W.Frag} {xs : List Str} {ls : List Lt} {x y : Str} {n m : Nat} {H : Hp} {u : Addr} (h : Good K xs ls x y n H u) (l : n ≤ m) : Good K xs ls x y m H u := let ⟨t, a, b, c⟩ := h; ⟨t, a, b, Nat.le_trans c.1 l, c.2⟩
theorem seq_asg {t : TE} {i : Nat} {u : TS} {D : Ends} {σ : L2.St} {H : Hp} (I : V → Hp → Prop) (hu : ∀ v H', I v H' → u D (σ.set i (some v)) H') (h : ∀ Q : VK, (∀ v H', I v H' → Q v H') → t σ H Q) : tSeq (tAsg t (gName i)) u D σ H := h _ hu
section
variable {P : Program} {w : World} {K : PySem.W.Frag} {mg : Str → Option Value} {base : Heap} {f : Addr} {fd : FuncData}
/-- one level: the def's own calls keep the promise for less room -/
theorem fl_step {N k : Nat} (F : FnP K "_law_flat" sLawFlat (He.ga K "_law_flat") fd) (Y : Fx w K mg) (G0 : FnOk P w K mg base CX0 k (He.ga K "_law_flat") fd ["_law_source_here", "_law_frame_here", "_law_ends_here", "_law_room"] (spFl K N)) (hk : 2 ≤ k) :
    FnOk P w K mg base CX0 (k + 1) (He.ga K "_law_flat") fd ["_law_source_here", "_law_frame_here", "_law_ends_here", "_law_room"] (spFl K (N + 1)) := by
  obtain ⟨d1, F1⟩ := Y.dLawPick
  obtain ⟨d2, F2⟩ := Y.dLawLeaf
  have b0 := FunD.bindsN (ps := ["_law_source_here", "_law_frame_here", "_law_ends_here", "_law_room"]) F fun _ _ _ _ _ _ us hl => match us, hl with | [_, _, _, _], _ => rfl
  have b1 := FunD.bindsN (ps := ["_law_source_here", "_law_many"]) F1 fun _ _ _ _ _ _ us hl => match us, hl with | [_, _], _ => rfl
  have b2 := FunD.bindsN (ps := ["_law_source_here", "_law_frame_here", "_law_ends_here", "_law_plain"]) F2 fun _ _ _ _ _ _ us hl => match us, hl with | [_, _, _, _], _ => rfl
  have G1 : FnOk P w K mg base CX0 1 _ d1 ["_law_source_here", "_law_many"] spPick := ok_pick F1 Y.bl
  have G2 : FnOk P w K mg base CX0 2 _ d2 ["_law_source_here", "_law_frame_here", "_law_ends_here", "_law_plain"] (spLf K) := ok_lf F2 Y
  refine okD F scFl (fun vs H Q E h => ?_) (fun cdv A outer s H vs Q E hr h => ?_)
  · obtain ⟨d, c, e, a, n, xs, ls, x, y, rfl, _⟩ := h
    rfl
  · have nd := scFl.nd
    have hu := hu_of hr
    have hr1 : Room 1 _ := hr.mono (by omega)
    have hr2 : Room 2 _ := hr.mono hk
    refine ⟨_, pss_cons (ps_set (i := 4) nd rfl (Or.inl rfl) (pe_ifExp (pt_cmpR op_gt (pv 3) pe_int (nomark _)) (pe_call G1 hr1 (by rfl) Y.gLawPick F1.kp b1 .nil pass0 (pa_cons (pv 0) (pa_cons pe_int pa_nil))) pe_int))
      (pss_cons (ps_if (pt_cmpR op_lt (pv 4) pe_int (nomark _)) (pss_one (ps_ret (pe_call G2 hr2 (by rfl) Y.gLawLeaf F2.kp b2 .nil pass0 (pa_cons (pv 0) (pa_cons (pv 1) (pa_cons (pv 2) (pa_cons pe_bl pa_nil))))))) pss_nil)
      (pss_cons (ps_if (pt_cmpR op_eq (pv 4) pe_int (nomark _)) (pss_one (ps_ret (pe_tup (pa_cons pe_str (pa_cons (pe_call G0 hr (by rfl) Y.gLawFlat F.kp b0 .nil pass0 (pa_cons (pv 0) (pa_cons (pv 1) (pa_cons (pv 2) (pa_cons (pe_op op_sub (pv 3) pe_int) pa_nil))))) pa_nil))))) pss_nil)
      (pss_cons (ps_if (pt_cmpR op_eq (pv 4) pe_int (nomark _)) (pss_one (ps_ret (pe_tup (pa_cons pe_str (pa_cons (pe_call G0 hr (by rfl) Y.gLawFlat F.kp b0 .nil pass0 (pa_cons (pv 0) (pa_cons (pv 1) (pa_cons (pe_rev (pv 2) (pe_un un_neg pe_int)) (pa_cons (pe_op op_sub (pv 3) pe_int) pa_nil))))) pa_nil))))) pss_nil)
      (pss_cons (ps_set (i := 5) nd rfl (Or.inl rfl) (pe_op op_fdiv (pv 3) pe_int))
      (pss_cons (ps_set (i := 6) nd rfl (Or.inl rfl) (pe_call G0 hr (by rfl) Y.gLawFlat F.kp b0 .nil pass0 (pa_cons (pv 0) (pa_cons (pv 1) (pa_cons (pv 2) (pa_cons (pv 5) pa_nil))))))
      (pss_one (ps_ret (pe_tup (pa_cons (pe_ix ix_list (pe_lst (pa_cons pe_str (pa_cons pe_str pa_nil))) (pe_op op_mod (pe_callTy call_int1 (by rfl) Y.bInt boot_int (pa_cons (pv 4) pa_nil)) pe_int) (fun _ _ => rfl)) (pa_cons (pv 6) (pa_cons (pe_call G0 hr (by rfl) Y.gLawFlat F.kp b0 .nil pass0 (pa_cons (pv 0) (pa_cons (pv 1) (pa_cons (pv 2) (pa_cons (pv 5) pa_nil))))) pa_nil))))))))))), ?_⟩
    obtain ⟨d, c, e, a, n, xs, ls, x, y, rfl, n1, nN, n20, src, fr, ha, hx, hy, k⟩ := h
    refine seq_asg (fun v G => ∃ r : Int, v = .int r ∧ 0 ≤ r ∧ r < 6 ∧ (2 ≤ r → 2 ≤ n) ∧ SrcAt G d c ∧ hid d c G = hid d c H) ?_ fun Q hQ => ?_
    · rintro v G ⟨r, rfl, r0, r6, hn, src1, eh⟩
      rw [← eh] at fr ha
      have k' : ∀ (u : Addr) (H' : Hp), SrcAt H' d c → Same (hid d c G) (hid d c H') → Good K xs ls x y (szR n) (hid d c H') u → Q (.ref u) H' := by rw [eh]; exact k
      clear k eh src
      refine ⟨_, rfl, _, _, rfl, rfl, _, rfl, ite2 (fun hc => ?_) (fun hc => ?_)⟩
      · exact ⟨_, rfl, _, rfl, _, rfl, d, c, e, a, false, xs, ls, x, y, rfl, src1, fr, ha, hx, hy, fun u H' s1 s2 g => k' u H' s1 s2 (g.le (by unfold szR; omega))⟩
      have r2 : 2 ≤ r := by simpa using hc
      have n2 := hn r2
      refine ⟨_, rfl, rfl, _, rfl, ite2 (fun hc => ?_) (fun hc => ?_)⟩
      · refine ⟨_, rfl, _, rfl, _, rfl, _, rfl, _, _, rfl, rfl, d, c, e, a, n - 1, xs, ls, x, y, by rw [show ((n - 1 : Nat) : Int) = (n : Int) - 1 by omega]; rfl, by omega, by omega, by omega, src1, fr, ha, hx, hy, fun u H' s1 sm g => ⟨szl (by show 2 ≤ 1000; decide), fun T hT => ?_⟩⟩
        obtain ⟨t, h1, h2, h3, hf⟩ := g
        have nT := new_h (.tup [V.str "rest", V.ref u]) s1 hT
        exact k' T _ nT.src (sm.trans nT.sm) ⟨.one "rest" t, ⟨u, SqT.of nT.at_, h1.same nT.sm⟩, .rest h2, ⟨by unfold szR at h3 ⊢; show 1 + t.sz ≤ _; omega, .inl rfl, hf⟩⟩
      refine ⟨_, rfl, rfl, _, rfl, ite2 (fun hc2 => ?_) (fun hc2 => ?_)⟩
      · refine ⟨_, rfl, _, rfl, _, rfl, _, rfl, rfl, a, _, rfl, .inr ⟨sqt_same hid_sub ha, fun p hp => ?_⟩⟩
        have np := new_h (.tup [V.str y, V.str x]) src1 hp
        refine ⟨_, rfl, _, _, rfl, rfl, d, c, e, p, n - 1, xs, ls, y, x, by rw [show ((n - 1 : Nat) : Int) = (n : Int) - 1 by omega]; rfl, by omega, by omega, by omega, np.src, fr.same np.sm, SqT.of np.at_, hy, hx, fun u H' s1 sm g => ⟨szl (by show 2 ≤ 1000; decide), fun T hT => ?_⟩⟩
        obtain ⟨t, h1, h2, h3, hf⟩ := g
        have nT := new_h (.tup [V.str "turned", V.ref u]) s1 hT
        exact k' T _ nT.src (np.sm.trans (sm.trans nT.sm)) ⟨.one "turned" t, ⟨u, SqT.of nT.at_, h1.same nT.sm⟩, .turned h2, ⟨by unfold szR at h3 ⊢; show 1 + t.sz ≤ _; omega, .inr rfl, hf⟩⟩
      have r45 : r = 4 ∨ r = 5 := by
        have z1 : r ≠ 2 := fun z => hc (by rw [z]; rfl)
        have z2 : r ≠ 3 := fun z => hc2 (by rw [z]; rfl)
        omega
      refine ⟨_, rfl, _, _, rfl, rfl, ⟨by decide, by decide⟩, ?_⟩
      have eh2 : (n : Int) / 2 = ((n / 2 : Nat) : Int) := by omega
      refine ⟨_, rfl, _, rfl, _, rfl, _, rfl, d, c, e, a, n / 2, xs, ls, x, y, by rw [← eh2]; rfl, by omega, by omega, by omega, src1, fr, ha, hx, hy, fun u1 G1 s1 sm1 g1 => ?_⟩
      refine ⟨szl (by show 2 ≤ 1000; decide), fun l hl => ?_⟩
      have nl := new_h (.lst [V.str "joined", V.str "cut"]) s1 hl
      obtain ⟨t1, a1, a2, a3, af⟩ := g1
      rcases r45 with rfl | rfl
      · refine ⟨_, rfl, .inl ⟨_, rfl, _, _, rfl, rfl, (show (0 : Int) < 2 by decide), l, _, _, .str "joined", rfl, rfl, SqL.of upd_same, rfl, ?_⟩⟩
        refine ⟨_, rfl, _, rfl, _, rfl, _, rfl, _, rfl, d, c, e, a, n / 2, xs, ls, x, y, by rw [← eh2]; rfl, by omega, by omega, by omega, nl.src, fr.same (sm1.trans nl.sm), sqt_same (sm1.trans nl.sm) ha, hx, hy, fun u2 G2 s2 sm2 g2 => ⟨szl (by show 3 ≤ 1000; decide), fun T hT => ?_⟩⟩
        obtain ⟨t2, c1, c2, c3, cf⟩ := g2
        have nT := new_h (.tup [V.str "joined", V.ref u1, V.ref u2]) s2 hT
        exact k' T _ nT.src (sm1.trans (nl.sm.trans (sm2.trans nT.sm))) ⟨.two "joined" t1 t2, ⟨u1, u2, SqT.of nT.at_, a1.same (nl.sm.trans (sm2.trans nT.sm)), c1.same nT.sm⟩, .joined a2 c2, ⟨by unfold szR at a3 c3 ⊢; show 1 + t1.sz + t2.sz ≤ _; omega, .inl rfl, af, cf⟩⟩
      · refine ⟨_, rfl, .inl ⟨_, rfl, _, _, rfl, rfl, (show (0 : Int) < 2 by decide), l, _, _, .str "cut", rfl, rfl, SqL.of upd_same, rfl, ?_⟩⟩
        refine ⟨_, rfl, _, rfl, _, rfl, _, rfl, _, rfl, d, c, e, a, n / 2, xs, ls, x, y, by rw [← eh2]; rfl, by omega, by omega, by omega, nl.src, fr.same (sm1.trans nl.sm), sqt_same (sm1.trans nl.sm) ha, hx, hy, fun u2 G2 s2 sm2 g2 => ⟨szl (by show 3 ≤ 1000; decide), fun T hT => ?_⟩⟩
        obtain ⟨t2, c1, c2, c3, cf⟩ := g2
        have nT := new_h (.tup [V.str "cut", V.ref u1, V.ref u2]) s2 hT
        exact k' T _ nT.src (sm1.trans (nl.sm.trans (sm2.trans nT.sm))) ⟨.two "cut" t1 t2, ⟨u1, u2, SqT.of nT.at_, a1.same (nl.sm.trans (sm2.trans nT.sm)), c1.same nT.sm⟩, .cut a2 c2, ⟨by unfold szR at a3 c3 ⊢; show 1 + t1.sz + t2.sz ≤ _; omega, .inr rfl, af, cf⟩⟩
    · refine ⟨_, rfl, _, _, rfl, rfl, _, rfl, ite2 (fun hc => ?_) (fun hc => ?_)⟩
      · have n2 : 1 < (n : Int) := of_decide_eq_true hc
        exact ⟨_, rfl, d, c, 6, rfl, src, by decide, by decide, fun r G r0 r1 src1 keep => hQ _ _ ⟨r, rfl, r0, r1, fun _ => by omega, src1, hid_pick keep⟩⟩
      · exact hQ _ _ ⟨0, rfl, by decide, by decide, fun z => absurd z (by decide), src, rfl⟩
theorem fl_none {fd : FuncData} : FnOk P w K mg base CX0 2 (He.ga K "_law_flat") fd ["_law_source_here", "_law_frame_here", "_law_ends_here", "_law_room"] (spFl K 0) := by
  refine ⟨fun vs H Q E h => ?_, fun A outer s H args us vs Q E hr e0 bt r h => ?_⟩
  · obtain ⟨_, _, _, _, n, _, _, _, _, _, h1, h2, _⟩ := h
    omega
  · obtain ⟨_, _, _, _, n, _, _, _, _, _, h1, h2, _⟩ := h
    omega
/-- the def with so much room -/
theorem ok_fl (F : FnP K "_law_flat" sLawFlat (He.ga K "_law_flat") fd) (Y : Fx w K mg) : ∀ N, FnOk P w K mg base CX0 (N + 2) (He.ga K "_law_flat") fd ["_law_source_here", "_law_frame_here", "_law_ends_here", "_law_room"] (spFl K N)
  | 0 => fl_none
  | N + 1 => fl_step F Y (ok_fl F Y N) (by omega)
end
end K43

namespace K43
open PySem PySem.Spec PyProof.Rows L2 Ow
/-- .. and short, where so is drawn -/
def GoodS (K : PySem.W.Frag) (xs : List Str) (ls : List Lt) (x y : Str) (n : Nat) (kd : Str) (H : Hp) (u : Addr) : Prop := ∃ t, TmAt K H u t ∧ Ty xs ls t x y ∧ (t.sz ≤ szR n ∧ ShK kd n t)
theorem Good.toS {K : PySem.W.Frag} {xs : List Str} {ls : List Lt} {x y : Str} {m n : Nat} {kd : Str} {H : Hp} {u : Addr} (h : Good K xs ls x y m H u) (l : m ≤ szR n) : GoodS K xs ls x y n kd H u := let ⟨t, a, b, c⟩ := h; ⟨t, a, b, Nat.le_trans c.1 l, .flat c.2⟩
abbrev NTm : List Str := ["_law_source_here", "_law_frame_here", "_law_ends_here", "_law_room", "_law_kind", "_law_pick_here", "_law_plain", "_law_half", "_law_one", "_law_middle"]
abbrev PTm : List Str := ["_law_source_here", "_law_frame_here", "_law_ends_here", "_law_room", "_law_kind"]
theorem scTm : FnScope NTm PTm (defScope sLawTerm) := ⟨rfl, rfl, rfl, by decide +kernel, rfl, by decide +kernel, by decide +kernel⟩
def spTm (K : PySem.W.Frag) (N : Nat) : Sp := fun vs H Q _ => ∃ (d c e a : Addr) (n : Nat) (kd : Str) (xs : List Str) (ls : List Lt) (x y : Str), vs = [.ref d, .ref e, .ref a, .int (n : Int), .str kd] ∧ 1 ≤ n ∧ n ≤ N ∧ n ≤ 20 ∧ SrcAt H d c ∧ FrAt K (hid d c H) e xs ls ∧ SqT K (hid d c H) a [.str x, .str y] ∧ x ∈ xs ∧ y ∈ xs ∧
  ∀ (u : Addr) (H' : Hp), SrcAt H' d c → Same (hid d c H) (hid d c H') → GoodS K xs ls x y n kd (hid d c H') u → Q (.ref u) H'
section
variable {P : Program} {w : World} {K : PySem.W.Frag} {mg : Str → Option Value} {base : Heap} {f : Addr} {fd : FuncData}
/-- one level: the def's own calls keep the promise for less room -/
theorem tm_step {N k : Nat} (F : FnP K "_law_term" sLawTerm (He.ga K "_law_term") fd) (Y : Fx w K mg) (G0 : FnOk P w K mg base CX0 k (He.ga K "_law_term") fd PTm (spTm K N)) (hk : 22 ≤ k) :
    FnOk P w K mg base CX0 (k + 1) (He.ga K "_law_term") fd PTm (spTm K (N + 1)) := by
  obtain ⟨d1, F1⟩ := Y.dLawPick
  obtain ⟨d2, F2⟩ := Y.dLawLeaf
  obtain ⟨d3, F3⟩ := Y.dLawFlat
  have b0 := FunD.bindsN (ps := PTm) F fun _ _ _ _ _ _ us hl => match us, hl with | [_, _, _, _, _], _ => rfl
  have b1 := FunD.bindsN (ps := ["_law_source_here", "_law_many"]) F1 fun _ _ _ _ _ _ us hl => match us, hl with | [_, _], _ => rfl
  have b2 := FunD.bindsN (ps := ["_law_source_here", "_law_frame_here", "_law_ends_here", "_law_plain"]) F2 fun _ _ _ _ _ _ us hl => match us, hl with | [_, _, _, _], _ => rfl
  have b3 := FunD.bindsN (ps := ["_law_source_here", "_law_frame_here", "_law_ends_here", "_law_room"]) F3 fun _ _ _ _ _ _ us hl => match us, hl with | [_, _, _, _], _ => rfl
  have G1 : FnOk P w K mg base CX0 1 _ d1 ["_law_source_here", "_law_many"] spPick := ok_pick F1 Y.bl
  have G2 : FnOk P w K mg base CX0 2 _ d2 ["_law_source_here", "_law_frame_here", "_law_ends_here", "_law_plain"] (spLf K) := ok_lf F2 Y
  have G3 : FnOk P w K mg base CX0 22 _ d3 ["_law_source_here", "_law_frame_here", "_law_ends_here", "_law_room"] (spFl K 20) := ok_fl F3 Y 20
  refine okD F scTm (fun vs H Q E h => ?_) (fun cdv A outer s H vs Q E hr h => ?_)
  · obtain ⟨d, c, e, a, n, kd, xs, ls, x, y, rfl, _⟩ := h
    rfl
  · have nd := scTm.nd
    have hu := hu_of hr
    have hr1 : Room 1 _ := hr.mono (by omega)
    have hr2 : Room 2 _ := hr.mono (by omega)
    have hr3 : Room 22 _ := hr.mono hk
    refine ⟨_, pss_cons (ps_set (i := 5) nd rfl (Or.inl rfl) (pe_ifExp (pt_cmpR op_gt (pv 3) pe_int (nomark _)) (pe_call G1 hr1 (by rfl) Y.gLawPick F1.kp b1 .nil pass0 (pa_cons (pv 0) (pa_cons pe_int pa_nil))) pe_int))
      (pss_cons (ps_par (i := 6) (j := 7) (by rfl) nd rfl rfl (by decide) rfl rfl (pa_cons (pe_cmpR op_eq (pv 4) pe_str (nomark _)) (pa_cons (pe_op op_fdiv (pv 3) pe_int) pa_nil)) (by rfl))
      (pss_cons (ps_if (pt_cmpR op_lt (pv 5) pe_int (nomark _)) (pss_one (ps_ret (pe_call G2 hr2 (by rfl) Y.gLawLeaf F2.kp b2 .nil pass0 (pa_cons (pv 0) (pa_cons (pv 1) (pa_cons (pv 2) (pa_cons (pv 6) pa_nil))))))) pss_nil)
      (pss_cons (ps_if (pt_cmpR op_eq (pv 5) pe_int (nomark _)) (pss_one (ps_ret (pe_ifExp (pt_val (pv 6)) (pe_call G2 hr2 (by rfl) Y.gLawLeaf F2.kp b2 .nil pass0 (pa_cons (pv 0) (pa_cons (pv 1) (pa_cons (pv 2) (pa_cons pe_bl pa_nil)))))
          (pe_call G3 hr3 (by rfl) Y.gLawFlat F3.kp b3 .nil pass0 (pa_cons (pv 0) (pa_cons (pv 1) (pa_cons (pv 2) (pa_cons (pv 3) pa_nil)))))))) pss_nil)
      (pss_cons (ps_if (pt_cmpR op_eq (pv 5) pe_int (nomark _)) (pss_one (ps_ret (pe_tup (pa_cons pe_str (pa_cons (pe_call G0 hr (by rfl) Y.gLawTerm F.kp b0 .nil pass0 (pa_cons (pv 0) (pa_cons (pv 1) (pa_cons (pe_rev (pv 2) (pe_un un_neg pe_int)) (pa_cons (pe_op op_sub (pv 3) pe_int) (pa_cons (pv 4) pa_nil)))))) pa_nil))))) pss_nil)
      (pss_cons (ps_if (pt_cmpR op_in_seq (pv 5) (pe_lst (pa_cons pe_int (pa_cons pe_int pa_nil))) (by rfl))
          (pss_cons (ps_set (i := 8) nd rfl (Or.inl rfl) (pe_call G0 hr (by rfl) Y.gLawTerm F.kp b0 .nil pass0 (pa_cons (pv 0) (pa_cons (pv 1) (pa_cons (pv 2) (pa_cons (pv 7) (pa_cons (pv 4) pa_nil)))))))
          (pss_one (ps_ret (pe_tup (pa_cons (pe_ix ix_list (pe_lst (pa_cons pe_str (pa_cons pe_str pa_nil))) (pe_op op_mod (pe_callTy call_int1 (by rfl) Y.bInt boot_int (pa_cons (pv 5) pa_nil)) pe_int) (fun _ _ => rfl)) (pa_cons (pv 8) (pa_cons (pe_call G0 hr (by rfl) Y.gLawTerm F.kp b0 .nil pass0 (pa_cons (pv 0) (pa_cons (pv 1) (pa_cons (pv 2) (pa_cons (pv 7) (pa_cons (pv 4) pa_nil)))))) pa_nil))))))) pss_nil)
      (pss_cons (ps_if (pw_and (pt_cmpR op_eq (pv 5) pe_int (nomark _)) (pw_and (pt_cmpR op_eq (pe_ix ix_tup (pv 2) pe_int (fun _ _ => rfl)) (pe_ix ix_tup (pv 2) pe_int (fun _ _ => rfl)) (nomark _)) (pw_and1 (pt_cmpR op_in_seq (pv 4) (pe_lst (pa_cons pe_str (pa_cons pe_str pa_nil))) (by rfl))))).pt
          (pss_one (ps_ret (pe_tup (pa_cons (pe_ix ix_list (pe_lst (pa_cons pe_str (pa_cons pe_str pa_nil))) (pe_call G1 hr1 (by rfl) Y.gLawPick F1.kp b1 .nil pass0 (pa_cons (pv 0) (pa_cons pe_int pa_nil))) (fun _ _ => rfl)) (pa_cons (pe_call G0 hr (by rfl) Y.gLawTerm F.kp b0 .nil pass0 (pa_cons (pv 0) (pa_cons (pv 1) (pa_cons (pv 2) (pa_cons (pe_op op_sub (pv 3) pe_int) (pa_cons (pv 4) pa_nil)))))) pa_nil))))) pss_nil)
      (pss_cons (ps_if (pw_and (pt_cmpR op_eq (pv 5) pe_int (nomark _)) (pw_and1 (pt_cmpR op_eq (pv 4) pe_str (nomark _)))).pt
          (pss_one (ps_ret (pe_tup (pa_cons pe_str (pa_cons (pe_call G0 hr (by rfl) Y.gLawTerm F.kp b0 .nil pass0 (pa_cons (pv 0) (pa_cons (pv 1) (pa_cons (pv 2) (pa_cons (pe_op op_sub (pv 3) pe_int) (pa_cons (pv 4) pa_nil)))))) pa_nil))))) pss_nil)
      (pss_cons (ps_set (i := 9) nd rfl (Or.inl rfl) (pe_ix ix_list (pe_dget hu (pv 1) pe_str nosl) (pe_call G1 hr1 (by rfl) Y.gLawPick F1.kp b1 .nil pass0 (pa_cons (pv 0) (pa_cons (pe_callB call_len_seq (by rfl) Y.bLen PySem.boot_len (pa_cons (pe_dget hu (pv 1) pe_str nosl) pa_nil)) pa_nil))) (fun _ _ => rfl)))
      (pss_cons (ps_set (i := 8) nd rfl (Or.inl rfl) (pe_call G0 hr (by rfl) Y.gLawTerm F.kp b0 .nil pass0 (pa_cons (pv 0) (pa_cons (pv 1) (pa_cons (pe_tup (pa_cons (pe_ix ix_tup (pv 2) pe_int (fun _ _ => rfl)) (pa_cons (pv 9) pa_nil))) (pa_cons (pv 7) (pa_cons (pv 4) pa_nil)))))))
      (pss_one (ps_ret (pe_tup (pa_cons pe_str (pa_cons (pv 8) (pa_cons (pe_call G0 hr (by rfl) Y.gLawTerm F.kp b0 .nil pass0 (pa_cons (pv 0) (pa_cons (pv 1) (pa_cons (pe_tup (pa_cons (pv 9) (pa_cons (pe_ix ix_tup (pv 2) pe_int (fun _ _ => rfl)) pa_nil))) (pa_cons (pv 7) (pa_cons (pv 4) pa_nil)))))) pa_nil)))))))))))))))  , ?_⟩
    obtain ⟨d, c, e, a, n, kd, xs, ls, x, y, rfl, n1, nN, n20, src, fr, ha, hx, hy, k⟩ := h
    refine seq_asg (fun v G => ∃ r : Int, v = .int r ∧ 0 ≤ r ∧ r < 9 ∧ (2 ≤ r → 2 ≤ n) ∧ SrcAt G d c ∧ hid d c G = hid d c H) ?_ fun Q hQ => ?_
    · rintro v G ⟨r, rfl, r0, r9, hn, src1, eh⟩
      rw [← eh] at fr ha
      have k' : ∀ (u : Addr) (H' : Hp), SrcAt H' d c → Same (hid d c G) (hid d c H') → GoodS K xs ls x y n kd (hid d c H') u → Q (.ref u) H' := by rw [eh]; exact k
      clear k eh src
      have eh2 : (n : Int) / 2 = ((n / 2 : Nat) : Int) := by omega
      have haG := sqt_same hid_sub ha
      refine ⟨_, rfl, rfl, _, rfl, _, _, rfl, rfl, ⟨by decide, by decide⟩, _, _, rfl, ?_⟩
      dsimp only
      change tSeq (tIfS _ _ _) _ _ [some (.ref d), some (.ref e), some (.ref a), some (.int (n : Int)), some (.str kd), some (.int r), some (.bl (decide (V.str kd = V.str "plain"))), some (.int ((n : Int) / 2)), none, none] G
      rw [eh2]
      refine ⟨_, rfl, _, _, rfl, rfl, _, rfl, ite2 (fun hc => ?_) (fun hc => ?_)⟩
      · exact ⟨_, rfl, _, rfl, _, rfl, _, rfl, d, c, e, a, _, xs, ls, x, y, rfl, src1, fr, ha, hx, hy, fun u H' s1 s2 g => k' u H' s1 s2 (g.toS (by unfold szR; omega))⟩
      have r2 : 2 ≤ r := by simpa using hc
      have n2 := hn r2
      clear hn
      refine ⟨_, rfl, rfl, _, rfl, ite2 (fun hc => ?_) (fun hc1 => ?_)⟩
      · refine ⟨_, rfl, _, rfl, ite2 (fun _ => ?_) (fun _ => ?_)⟩
        · exact ⟨_, rfl, _, rfl, _, rfl, d, c, e, a, true, xs, ls, x, y, rfl, src1, fr, ha, hx, hy, fun u H' s1 s2 g => k' u H' s1 s2 (g.toS (by unfold szR; omega))⟩
        · exact ⟨_, rfl, _, rfl, _, rfl, _, rfl, d, c, e, a, n, xs, ls, x, y, rfl, n1, n20, n20, src1, fr, ha, hx, hy, fun u H' s1 s2 g => k' u H' s1 s2 (g.toS (Nat.le_refl _))⟩
      refine ⟨_, rfl, rfl, _, rfl, ite2 (fun _ => ?_) (fun hc2 => ?_)⟩
      · refine ⟨_, rfl, _, rfl, _, rfl, _, rfl, rfl, a, _, rfl, .inr ⟨haG, fun p hp => ?_⟩⟩
        have np := new_h (.tup [V.str y, V.str x]) src1 hp
        refine ⟨_, rfl, _, _, rfl, rfl, _, rfl, d, c, e, p, n - 1, kd, xs, ls, y, x, by rw [show ((n - 1 : Nat) : Int) = (n : Int) - 1 by omega]; rfl, by omega, by omega, by omega, np.src, fr.same np.sm, SqT.of np.at_, hy, hx, fun u H' s1 sm g => ⟨szl (by show 2 ≤ 1000; decide), fun T hT => ?_⟩⟩
        obtain ⟨t, h1, h2, h3, hf⟩ := g
        have nT := new_h (.tup [V.str "turned", V.ref u]) s1 hT
        exact k' T _ nT.src (np.sm.trans (sm.trans nT.sm)) ⟨.one "turned" t, ⟨u, SqT.of nT.at_, h1.same nT.sm⟩, .turned h2, ⟨by unfold szR at h3 ⊢; show 1 + t.sz ≤ _; omega, hf.turned⟩⟩
      have z1 : r ≠ 2 := fun z => hc1 (by rw [z]; rfl)
      have z2 : r ≠ 3 := fun z => hc2 (by rw [z]; rfl)
      -- r in [4, 5]
      refine ⟨_, rfl, szl (by show 2 ≤ 1000; decide), fun l0 hl0 => ?_⟩
      have nl0 := new_h (.lst [V.int 4, V.int 5]) src1 hl0
      refine ⟨l0, _, rfl, .inl (SqL.of upd_same), rfl, rfl, _, rfl, ite2 (fun hc => ?_) (fun hc3 => ?_)⟩
      · have r45 : r = 4 ∨ r = 5 := by
          have z : inV (V.int r) [V.int 4, V.int 5] = true := by simpa using hc
          simp [inV, eqV] at z
          omega
        refine ⟨_, rfl, _, rfl, _, rfl, _, rfl, _, rfl, d, c, e, a, n / 2, kd, xs, ls, x, y, rfl, by omega, by omega, by omega, nl0.src, fr.same nl0.sm, sqt_same nl0.sm ha, hx, hy, fun u1 G1 s1 sm1 g1 => ?_⟩
        replace sm1 := nl0.sm.trans sm1
        refine ⟨szl (by show 2 ≤ 1000; decide), fun l hl => ?_⟩
        have nl := new_h (.lst [V.str "joined", V.str "cut"]) s1 hl
        obtain ⟨t1, a1, a2, a3, af⟩ := g1
        rcases r45 with rfl | rfl
        · refine ⟨_, rfl, .inl ⟨_, rfl, _, _, rfl, rfl, (show (0 : Int) < 2 by decide), l, _, _, .str "joined", rfl, rfl, SqL.of upd_same, rfl, ?_⟩⟩
          refine ⟨_, rfl, _, rfl, _, rfl, _, rfl, _, rfl, _, rfl, d, c, e, a, n / 2, kd, xs, ls, x, y, rfl, by omega, by omega, by omega, nl.src, fr.same (sm1.trans nl.sm), sqt_same (sm1.trans nl.sm) ha, hx, hy, fun u2 G2 s2 sm2 g2 => ⟨szl (by show 3 ≤ 1000; decide), fun T hT => ?_⟩⟩
          obtain ⟨t2, c1, c2, c3, cf⟩ := g2
          have nT := new_h (.tup [V.str "joined", V.ref u1, V.ref u2]) s2 hT
          exact k' T _ nT.src (sm1.trans (nl.sm.trans (sm2.trans nT.sm))) ⟨.two "joined" t1 t2, ⟨u1, u2, SqT.of nT.at_, a1.same (nl.sm.trans (sm2.trans nT.sm)), c1.same nT.sm⟩, .joined a2 c2, ⟨by unfold szR at a3 c3 ⊢; show 1 + t1.sz + t2.sz ≤ _; omega, .two (.inl rfl) n2 af cf⟩⟩
        · refine ⟨_, rfl, .inl ⟨_, rfl, _, _, rfl, rfl, (show (0 : Int) < 2 by decide), l, _, _, .str "cut", rfl, rfl, SqL.of upd_same, rfl, ?_⟩⟩
          refine ⟨_, rfl, _, rfl, _, rfl, _, rfl, _, rfl, _, rfl, d, c, e, a, n / 2, kd, xs, ls, x, y, rfl, by omega, by omega, by omega, nl.src, fr.same (sm1.trans nl.sm), sqt_same (sm1.trans nl.sm) ha, hx, hy, fun u2 G2 s2 sm2 g2 => ⟨szl (by show 3 ≤ 1000; decide), fun T hT => ?_⟩⟩
          obtain ⟨t2, c1, c2, c3, cf⟩ := g2
          have nT := new_h (.tup [V.str "cut", V.ref u1, V.ref u2]) s2 hT
          exact k' T _ nT.src (sm1.trans (nl.sm.trans (sm2.trans nT.sm))) ⟨.two "cut" t1 t2, ⟨u1, u2, SqT.of nT.at_, a1.same (nl.sm.trans (sm2.trans nT.sm)), c1.same nT.sm⟩, .cut a2 c2, ⟨by unfold szR at a3 c3 ⊢; show 1 + t1.sz + t2.sz ≤ _; omega, .two (.inr (.inl rfl)) n2 af cf⟩⟩
      have src2 := nl0.src
      have sm2 := nl0.sm
      obtain ⟨G2, eg⟩ : ∃ Z, Z = upd G l0 (.lst [V.int 4, V.int 5]) := ⟨_, rfl⟩
      dsimp only [tNext]
      change tSeq (tIfS _ _ _) _ _ [some (.ref d), some (.ref e), some (.ref a), some (.int (n : Int)), some (.str kd), some (.int r), some (.bl (decide (V.str kd = V.str "plain"))), some (.int ((n / 2 : Nat) : Int)), none, none] (upd G l0 (.lst [V.int 4, V.int 5]))
      rw [← eg] at src2 sm2 ⊢
      clear eg nl0 hc3
      refine seq_if (fun G' => SrcAt G' d c ∧ Same (hid d c G) (hid d c G')) (fun G3 ⟨src3, sm3⟩ => ?_) (fun nx => ?_)
      · refine seq_if (fun G' => SrcAt G' d c ∧ Same (hid d c G) (hid d c G')) (fun G4 ⟨src4, sm4⟩ => ?_) (fun nx => ?_)
        · -- then
          obtain ⟨s, m, o, gs, _, _, es, _, _⟩ := fr.fr
          have gs4 := dget_mono hid_sub (dget_mono sm4 gs)
          have es4 := hid_sub _ _ (sm4 _ _ es)
          have x16 := fr.ok.nx.n
          have x1 : 1 ≤ xs.length := by
            cases xs with
            | nil => exact absurd hx List.not_mem_nil
            | cons _ _ => exact Nat.succ_pos _
          refine ⟨_, rfl, e, .ref s, rfl, gs4, _, rfl, _, rfl, e, .ref s, rfl, gs4, s, _, rfl, .inl (SqL.of es4), ?_⟩
          rw [List.length_map]
          refine ⟨d, c, (xs.length : Int), rfl, src4, by omega, by omega, fun r2 G5 r0 r1 src5 keep => ?_⟩
          obtain ⟨j, rfl⟩ : ∃ j : Nat, r2 = (j : Int) := ⟨r2.toNat, by omega⟩
          have lj : j < xs.length := by omega
          have eh5 : hid d c G5 = hid d c G4 := hid_pick keep
          have sm5 : Same (hid d c G) (hid d c G5) := by rw [eh5]; exact sm4
          refine ⟨s, _, _, _, rfl, rfl, SqL.of (hid_sub _ _ (sm5 _ _ es)), str_ix lj, ?_⟩
          obtain ⟨mid, em⟩ : ∃ mid, mid = xs[j] := ⟨_, rfl⟩
          have hm : mid ∈ xs := em ▸ List.getElem_mem lj
          rw [← em]
          dsimp only [gName]
          change tSeq (tAsg _ _) _ _ [some (.ref d), some (.ref e), some (.ref a), some (.int (n : Int)), some (.str kd), some (.int r), some (.bl (decide (V.str kd = V.str "plain"))), some (.int ((n / 2 : Nat) : Int)), none, some (.str mid)] G5
          refine ⟨_, rfl, _, rfl, _, rfl, a, _, 0, _, rfl, rfl, sqt_same hid_sub (sqt_same sm5 ha), rfl, _, rfl, szl (by show 2 ≤ 1000; decide), fun p hp => ?_⟩
          have np := new_h (.tup [V.str x, V.str mid]) src5 hp
          refine ⟨_, rfl, _, rfl, d, c, e, p, n / 2, kd, xs, ls, x, mid, rfl, by omega, by omega, by omega, np.src, fr.same (sm5.trans np.sm), SqT.of np.at_, hx, hm, fun u1 G6 s6 sm6 g1 => ?_⟩
          obtain ⟨t1, a1, a2, a3, af⟩ := g1
          have sm7 := sm5.trans (np.sm.trans sm6)
          refine ⟨_, rfl, _, rfl, _, rfl, _, rfl, _, rfl, a, _, 1, _, rfl, rfl, sqt_same hid_sub (sqt_same sm7 ha), rfl, szl (by show 2 ≤ 1000; decide), fun p2 hp2 => ?_⟩
          have np2 := new_h (.tup [V.str mid, V.str y]) s6 hp2
          refine ⟨_, rfl, _, rfl, d, c, e, p2, n / 2, kd, xs, ls, mid, y, rfl, by omega, by omega, by omega, np2.src, fr.same (sm7.trans np2.sm), SqT.of np2.at_, hm, hy, fun u2 G8 s8 sm8 g2 => ⟨szl (by show 3 ≤ 1000; decide), fun T hT => ?_⟩⟩
          obtain ⟨t2, c1, c2, c3, cf⟩ := g2
          have nT := new_h (.tup [V.str "then", V.ref u1, V.ref u2]) s8 hT
          exact k' T _ nT.src (sm7.trans (np2.sm.trans (sm8.trans nT.sm))) ⟨.two "then" t1 t2, ⟨u1, u2, SqT.of nT.at_, a1.same (np2.sm.trans (sm8.trans nT.sm)), c1.same nT.sm⟩, .then_ a2 c2, ⟨by unfold szR at a3 c3 ⊢; show 1 + t1.sz + t2.sz ≤ _; omega, .two (.inr (.inr rfl)) n2 af cf⟩⟩
        · refine ⟨_, rfl, rfl, _, rfl, ite2 (fun _ => ?_) (fun _ => iteF (nx _ ⟨src3, sm3⟩))⟩
          refine ⟨_, rfl, rfl, _, rfl, ite2 (fun hkd => ?_) (fun _ => nx _ ⟨src3, sm3⟩)⟩
          refine ⟨_, rfl, _, rfl, _, rfl, _, rfl, _, _, rfl, rfl, _, rfl, d, c, e, a, n - 1, kd, xs, ls, x, y, by rw [show ((n - 1 : Nat) : Int) = (n : Int) - 1 by omega]; rfl, by omega, by omega, by omega, src3, fr.same sm3, sqt_same sm3 ha, hx, hy, fun u H' s1 sm g => ⟨szl (by show 2 ≤ 1000; decide), fun T hT => ?_⟩⟩
          obtain ⟨t, h1, h2, h3, hf⟩ := g
          have nT := new_h (.tup [V.str "rest", V.ref u]) s1 hT
          exact k' T _ nT.src (sm3.trans (sm.trans nT.sm)) ⟨.one "rest" t, ⟨u, SqT.of nT.at_, h1.same nT.sm⟩, .rest h2, ⟨by unfold szR at h3 ⊢; show 1 + t.sz ≤ _; omega, fun e => absurd hkd (by rw [e]; decide +kernel)⟩⟩
      · refine ⟨_, rfl, rfl, _, rfl, ite2 (fun _ => ?_) (fun _ => iteF (nx _ ⟨src2, sm2⟩))⟩
        have ha2 := sqt_same hid_sub (sqt_same sm2 ha)
        refine ⟨_, rfl, a, _, 0, _, rfl, rfl, ha2, rfl, _, rfl, a, _, 1, _, rfl, rfl, ha2, rfl, rfl, _, rfl, ite2 (fun hxy => ?_) (fun _ => iteF (nx _ ⟨src2, sm2⟩))⟩
        have exy : x = y := by simpa using hxy
        refine ⟨_, rfl, szl (by show 2 ≤ 1000; decide), fun l hl => ?_⟩
        have nl := new_h (.lst [V.str "kept", V.str "free"]) src2 hl
        refine ⟨l, _, rfl, .inl (SqL.of upd_same), rfl, rfl, _, rfl, ite2 (fun hkd => ?_) (fun _ => nx _ ⟨nl.src, sm2.trans nl.sm⟩)⟩
        have sm3 := sm2.trans nl.sm
        refine ⟨szl (by show 2 ≤ 1000; decide), fun l2 hl2 => ?_⟩
        have nl2 := new_h (.lst [V.str "closed", V.str "walked"]) nl.src hl2
        refine ⟨_, rfl, d, c, 2, rfl, nl2.src, by decide, by decide, fun r2 G5 r0 r1 src5 keep => ?_⟩
        have eh5 := hid_pick keep
        have sm5 : Same (hid d c G) (hid d c G5) := by rw [eh5]; exact sm3.trans nl2.sm
        have el2 : G5 l2 = some (.lst [V.str "closed", V.str "walked"]) := (keep l2 nl2.nd nl2.nc).trans upd_same
        have r01 : r2 = 0 ∨ r2 = 1 := by omega
        rcases r01 with rfl | rfl
        · refine ⟨l2, _, _, .str "closed", rfl, rfl, SqL.of el2, rfl, _, rfl, _, rfl, _, rfl, _, rfl, _, _, rfl, rfl, _, rfl, d, c, e, a, n - 1, kd, xs, ls, x, y, by rw [show ((n - 1 : Nat) : Int) = (n : Int) - 1 by omega]; rfl, by omega, by omega, by omega, src5, fr.same sm5, sqt_same sm5 ha, hx, hy, fun u H' s1 sm g => ⟨szl (by show 2 ≤ 1000; decide), fun T hT => ?_⟩⟩
          obtain ⟨t, h1, h2, h3, hf⟩ := g
          have nT := new_h (.tup [V.str "closed", V.ref u]) s1 hT
          exact k' T _ nT.src (sm5.trans (sm.trans nT.sm)) ⟨.one "closed" t, ⟨u, SqT.of nT.at_, h1.same nT.sm⟩, by rw [← exy] at h2 ⊢; exact .closed h2, ⟨by unfold szR at h3 ⊢; show 1 + t.sz ≤ _; omega, fun e => absurd hkd (by rw [e]; decide +kernel)⟩⟩
        · refine ⟨l2, _, _, .str "walked", rfl, rfl, SqL.of el2, rfl, _, rfl, _, rfl, _, rfl, _, rfl, _, _, rfl, rfl, _, rfl, d, c, e, a, n - 1, kd, xs, ls, x, y, by rw [show ((n - 1 : Nat) : Int) = (n : Int) - 1 by omega]; rfl, by omega, by omega, by omega, src5, fr.same sm5, sqt_same sm5 ha, hx, hy, fun u H' s1 sm g => ⟨szl (by show 2 ≤ 1000; decide), fun T hT => ?_⟩⟩
          obtain ⟨t, h1, h2, h3, hf⟩ := g
          have nT := new_h (.tup [V.str "walked", V.ref u]) s1 hT
          exact k' T _ nT.src (sm5.trans (sm.trans nT.sm)) ⟨.one "walked" t, ⟨u, SqT.of nT.at_, h1.same nT.sm⟩, by rw [← exy] at h2 ⊢; exact .walked h2, ⟨by unfold szR at h3 ⊢; show 1 + t.sz ≤ _; omega, fun e => absurd hkd (by rw [e]; decide +kernel)⟩⟩
    · refine ⟨_, rfl, _, _, rfl, rfl, _, rfl, ite2 (fun hc => ?_) (fun hc => ?_)⟩
      · have n2 : 1 < (n : Int) := of_decide_eq_true hc
        exact ⟨_, rfl, d, c, 9, rfl, src, by decide, by decide, fun r G r0 r1 src1 keep => hQ _ _ ⟨r, rfl, r0, r1, fun _ => by omega, src1, hid_pick keep⟩⟩
      · exact hQ _ _ ⟨0, rfl, by decide, by decide, fun z => absurd z (by decide), src, rfl⟩
theorem tm_none : FnOk P w K mg base CX0 22 (He.ga K "_law_term") fd PTm (spTm K 0) := by
  refine ⟨fun vs H Q E h => ?_, fun A outer s H args us vs Q E hr e0 bt r h => ?_⟩
  · obtain ⟨_, _, _, _, n, _, _, _, _, _, _, h1, h2, _⟩ := h
    omega
  · obtain ⟨_, _, _, _, n, _, _, _, _, _, _, h1, h2, _⟩ := h
    omega
theorem ok_tm (F : FnP K "_law_term" sLawTerm (He.ga K "_law_term") fd) (Y : Fx w K mg) : ∀ N, FnOk P w K mg base CX0 (22 + N) (He.ga K "_law_term") fd PTm (spTm K N)
  | 0 => tm_none
  | N + 1 => tm_step F Y (ok_tm F Y N) (Nat.le_add_right 22 N)
abbrev NSe : List Str := ["_law_source_here", "_law_frame_here", "_law_pick_here", "_law_ends_here"]
theorem scSe : FnScope NSe ["_law_source_here", "_law_frame_here"] (defScope sLawSomeEnds) := ⟨rfl, rfl, rfl, by decide +kernel, rfl, by decide +kernel, by decide +kernel⟩
def spSe (K : PySem.W.Frag) : Sp := fun vs H Q _ => ∃ (d c e : Addr) (xs : List Str) (ls : List Lt), vs = [.ref d, .ref e] ∧ SrcAt H d c ∧ FrAt K (hid d c H) e xs ls ∧ 1 ≤ ls.length ∧
  ∀ (u : Addr) (x y : Str) (H' : Hp), SrcAt H' d c → Same (hid d c H) (hid d c H') → SqT K (hid d c H') u [.str x, .str y] → x ∈ xs → y ∈ xs → Q (.ref u) H'
theorem ok_se (F : FnP K "_law_some_ends" sLawSomeEnds f fd) (Y : Fx w K mg) : FnOk P w K mg base CX0 2 f fd ["_law_source_here", "_law_frame_here"] (spSe K) := by
  obtain ⟨d1, F1⟩ := Y.dLawPick
  have b1 := FunD.bindsN (ps := ["_law_source_here", "_law_many"]) F1 fun _ _ _ _ _ _ us hl => match us, hl with | [_, _], _ => rfl
  have G1 : FnOk P w K mg base CX0 1 _ d1 ["_law_source_here", "_law_many"] spPick := ok_pick F1 Y.bl
  refine okD F scSe (fun vs H Q E h => ?_) (fun cdv A outer s H vs Q E hr h => ?_)
  · obtain ⟨d, c, e, xs, ls, rfl, _⟩ := h
    rfl
  · have nd := scSe.nd
    have hu := hu_of hr
    refine ⟨_, pss_cons (ps_set (i := 2) nd rfl (Or.inl rfl) (pe_call G1 hr (by rfl) Y.gLawPick F1.kp b1 .nil pass0 (pa_cons (pv 0) (pa_cons pe_int pa_nil))))
      (pss_cons (ps_set (i := 3) nd rfl (Or.inl rfl) (pe_dget hu (pe_dget hu (pv 1) pe_str nosl) (pe_ix ix_list (pe_dget hu (pv 1) pe_str nosl) (pe_call G1 hr (by rfl) Y.gLawPick F1.kp b1 .nil pass0 (pa_cons (pv 0) (pa_cons (pe_callB call_len_seq (by rfl) Y.bLen PySem.boot_len (pa_cons (pe_dget hu (pv 1) pe_str nosl) pa_nil)) pa_nil))) (fun _ _ => rfl)) nosl))
      (pss_cons (ps_if (pt_cmpR op_eq (pv 2) pe_int (nomark _)) (pss_one (ps_set (i := 3) nd rfl (Or.inl rfl) (pe_rev (pv 3) (pe_un un_neg pe_int)))) pss_nil)
      (pss_cons (ps_if (pt_cmpR op_eq (pv 2) pe_int (nomark _)) (pss_one (ps_set (i := 3) nd rfl (Or.inl rfl) (pe_tup (pa_cons (pe_ix ix_tup (pv 3) pe_int (fun _ _ => rfl)) (pa_cons (pe_ix ix_tup (pv 3) pe_int (fun _ _ => rfl)) pa_nil))))) pss_nil)
      (pss_one (ps_ret (pv 3)))))), ?_⟩
    obtain ⟨d, c, e, xs, ls, rfl, src, fr, l1, k⟩ := h
    obtain ⟨s, m, o, _, gm, go, _, lm, lo⟩ := fr.fr
    have ok := fr.ok
    have l16 := ok.nl.n
    rw [List.length_map] at l16
    refine ⟨_, rfl, d, c, 5, rfl, src, by decide, by decide, fun r H1 r0 r1 src1 keep1 => ?_⟩
    have eh1 : hid d c H1 = hid d c H := hid_pick keep1
    have sm1 : Same (hid d c H) (hid d c H1) := by rw [eh1]; exact Same.refl _
    have go1 := dget_mono hid_sub (dget_mono sm1 go)
    have gm1 := dget_mono hid_sub (dget_mono sm1 gm)
    have lo1 : SqL K H1 o ((ls.map (·.1)).map V.str) := hid_sub.seq (sm1.seq lo)
    refine ⟨_, rfl, e, .ref m, rfl, gm1, _, rfl, e, .ref o, rfl, go1, _, rfl, _, rfl, e, .ref o, rfl, go1, o, _, rfl, .inl lo1, ?_⟩
    rw [List.length_map, List.length_map]
    refine ⟨d, c, (ls.length : Int), rfl, src1, by omega, by omega, fun r2 H2 q0 q1 src2 keep2 => ?_⟩
    obtain ⟨j, rfl⟩ : ∃ j : Nat, r2 = (j : Int) := ⟨r2.toNat, by omega⟩
    have eh2 : hid d c H2 = hid d c H := (hid_pick keep2).trans eh1
    have sm2 : Same (hid d c H) (hid d c H2) := by rw [eh2]; exact Same.refl _
    have lj : j < ls.length := by omega
    have ej : ls[j]? = some ls[j] := List.getElem?_eq_getElem lj
    obtain ⟨t, dg, st⟩ := (lm.same sm2).get ok.nl.nd ej
    obtain ⟨m1, m2⟩ := ok.ends _ (List.getElem_mem lj)
    refine ⟨o, _, _, .str ls[j].1, rfl, rfl, hid_sub.seq (sm2.seq lo), atI_nat (by rw [List.getElem?_map, List.getElem?_map, ej]; rfl), m, .ref t, rfl, dget_mono hid_sub dg, ?_⟩
    obtain ⟨x, ex⟩ : ∃ x, x = ls[j].2.1 := ⟨_, rfl⟩
    obtain ⟨y, ey⟩ : ∃ y, y = ls[j].2.2 := ⟨_, rfl⟩
    have st : SqT K (hid d c H2) t [.str x, .str y] := by rw [ex, ey]; exact st
    rw [← ex] at m1
    rw [← ey] at m2
    clear ex ey dg
    dsimp only [gName]
    change tSeq (tIfS _ _ _) _ _ [some (.ref d), some (.ref e), some (.int r), some (.ref t)] H2
    refine ⟨_, rfl, rfl, _, rfl, ite2 (fun hc => ?_) (fun hc => ?_)⟩
    · have er : r = 0 := by simpa using hc
      subst er
      refine ⟨_, rfl, _, rfl, rfl, t, _, rfl, .inr ⟨sqt_same hid_sub st, fun p hp => ?_⟩⟩
      have np := new_h (.tup [V.str y, V.str x]) src2 hp
      refine ⟨_, rfl, rfl, _, rfl, ite2 (fun hc => absurd hc (by decide)) (fun _ => ?_)⟩
      exact ⟨_, rfl, k p y x _ np.src (sm2.trans np.sm) (SqT.of np.at_) m2 m1⟩
    · refine ⟨_, rfl, rfl, _, rfl, ite2 (fun hc => ?_) (fun _ => ?_)⟩
      · have sG := sqt_same hid_sub st
        refine ⟨_, rfl, t, _, 0, _, rfl, rfl, sG, rfl, _, rfl, t, _, 0, _, rfl, rfl, sG, rfl, szl (by show 2 ≤ 1000; decide), fun p hp => ?_⟩
        have np := new_h (.tup [V.str x, V.str x]) src2 hp
        exact ⟨_, rfl, k p x x _ np.src (sm2.trans np.sm) (SqT.of np.at_) m1 m1⟩
      · exact ⟨_, rfl, k t x y H2 src2 sm2 st m1 m2⟩
end
end K43

namespace K43
open PySem PySem.Spec PyProof.Rows L2 Ow
/-! ### .get of a written dict -/
theorem keyOf_of {e : DictEntry} {k : Str} {h : Int} (q : He.keyOf e = some (k, h)) : ∃ t, e.key = .str k t := by
  unfold He.keyOf at q
  split at q
  · rename_i x t q2
    exact ⟨t, by rw [q2, (Prod.mk.inj (Option.some.inj q)).1]⟩
  · cases q
theorem keys_no {P : Params} {x : Str} : ∀ {l : List DictEntry} {ks : List Str}, l.map He.keyOf = He.keysIn P ks → x ∉ ks → l.find? (·.key.isStr x) = none ∧ l.any (·.refKey) = false
  | [], _, _, _ => ⟨rfl, rfl⟩
  | e :: r, [], h, _ => by cases h
  | e :: r, k :: ks, h, n => by
    have h1 : He.keyOf e :: r.map He.keyOf = some (k, PyData.keyHash P k) :: He.keysIn P ks := h
    injection h1 with h2 h3
    obtain ⟨t, ek⟩ := keyOf_of h2
    obtain ⟨a, b⟩ := keys_no h3 (fun z => n (List.mem_cons_of_mem _ z))
    have nx : k ≠ x := fun z => n (z ▸ List.mem_cons_self)
    have e1 : e.key.isStr x = false := by
      rw [ek]
      show (k == x) = false
      exact beq_eq_false_iff_ne.mpr nx
    refine ⟨by rw [List.find?_cons, e1]; exact a, ?_⟩
    rw [List.any_cons, b, Bool.or_false]
    unfold DictEntry.refKey
    rw [ek]
theorem dicW_no {K : PySem.W.Frag} {P : Params} {a : Addr} {ks : List Str} {x : Str} (h : He.dicW K a = some (He.keysIn P ks)) (nx : x ∉ ks) : PySem.W.nsIn K a x = some none := by
  unfold He.dicW at h
  unfold PySem.W.nsIn
  cases q : K.lookup a with
  | none => rw [q] at h; cases h
  | some o =>
    obtain ⟨oc, od, dt, osl⟩ := o
    rw [q] at h
    cases oc with
    | type c =>
      cases od with
      | none =>
        cases dt with
        | dict es n =>
          have h1 : (match decide (c = "dict") && (osl.isEmpty && !(a == sysModules)) with
            | true => some (es.toList.map He.keyOf)
            | false => none) = some (He.keysIn P ks) := h
          cases z : decide (c = "dict") && (osl.isEmpty && !(a == sysModules)) with
          | false => rw [z] at h1; cases h1
          | true =>
            rw [z] at h1
            obtain ⟨e1, e2⟩ := keys_no (Option.some.inj h1) nx
            dsimp only
            rw [e1]
            dsimp only
            rw [e2]
            rfl
        | _ => cases h
      | some b => cases dt <;> cases h
    | _ => cases od <;> cases dt <;> cases h
def tKGet2 (K : PySem.W.Frag) (d : Addr) (td ty tx : TE) : TE := fun σ H Q => td σ H fun x H1 => x = .ref d ∧ ty σ H1 fun y H2 => tx σ H2 fun z H3 => ∃ (s : Str) (r : Option Value) (v : V), y = .str s ∧ PySem.W.nsIn K d s = some r ∧ (match r with
  | none => v = z
  | some u => RelV v u) ∧ Q v H3
section
variable {X : Cx} {o e f : Expr} {apos cpos : Pos} {td ty tx : TE} {d : Addr} {es : Array DictEntry} {n : Nat}
theorem pe_kdget2 (D : KDict X.K X.w d es n) (ho : PE X o td) (he : PE X e ty) (hf : PE X f tx) (m : M2 X o "get" apos e f cpos) : PE X (.Call (.Attribute o "get" apos) [e, f] [] cpos) (tKGet2 X.K d td ty tx) := by
  refine ⟨fun pins s σ H Q I h => ?_⟩
  refine wpAny_Call_method m.base m.few m.line PySem.F.plainAttrs_dict PySem.F.slot_dict_get PySem.F.type_dict_get (thn (ho.run pins s σ H _ I h) fun u s1 ⟨x, H1, I1, rx, ex, q1⟩ => ?_)
  subst ex
  obtain rfl : u = Value.ref d := rx
  refine ⟨kd_type D I1, fun b q => ?_, ?_⟩
  · cases q
    exact ⟨_, I1.kIn _ _ D.at_, rfl⟩
  rw [m.trees]
  refine Calls.callWith_builtin rfl (Calls.evalArgs_plain (Calls.spliced_cons (thn (he.run pins s1 σ H1 _ I1 q1) fun iv s2 ⟨y, H2, I2, ry, q2⟩ =>
    Calls.spliced_cons (thn (hf.run pins s2 σ H2 _ I2 q2) fun fv s3 ⟨z, H3, I3, rz, s, r, v, ey, en, er, q3⟩ => Calls.spliced_nil ?_))))
  subst ey
  obtain ⟨t, rfl⟩ := ry
  refine call_meetsIn PySem.F.slot_dict_get (kd_type D I3) PySem.F.entry_dict_get (PySem.F.args_dict_get_3 _ _ _) (PySem.meets_dict_get_default (knd := strKind X.prog X.w) (k := s) d (PySem.strKind_is X.prog X.w s t) D.low fv) ⟨_, PySem.W.mapOf_K (prog := X.prog) I3.kIn D.at_ D.lit, ?_⟩
  rw [PySem.W.find_K D.at_ en]
  cases r with
  | none =>
    subst er
    exact ⟨v, H3, I3.tok _, rz, q3⟩
  | some u => exact ⟨v, H3, I3.tok _, er, q3⟩
end
end K43

namespace K43
open PySem PySem.Spec PyProof.Rows L2 Ow
/-! ### right words of terms; the parts below, the sorts told -/
def Tm.hd : Tm → Str
  | .leaf w _ => w
  | .one w _ => w
  | .two w _ _ => w
def Tm.ss : Tm → List Str
  | .leaf _ ss => ss
  | _ => []
def Tm.kids : Tm → List Tm
  | .leaf _ _ => []
  | .one _ t => [t]
  | .two _ s t => [s, t]
/-- the sorts that a term tells itself -/
def Tm.srt : Tm → List Str
  | .leaf w ss => if w = "letter" then [] else ss
  | _ => []
def LeafOk (w : Str) (ss : List Str) : Prop := (w = "letter" ∧ ∃ n : Str, ss = [n] ∧ Wd n) ∨ (w = "same" ∧ ∃ a : Str, ss = [a] ∧ Wd a) ∨ (w = "other" ∧ ∃ a : Str, ss = [a] ∧ Wd a) ∨ (w = "none" ∧ ∃ a b : Str, ss = [a, b] ∧ Wd a ∧ Wd b) ∨ (w = "all" ∧ ∃ a b : Str, ss = [a, b] ∧ Wd a ∧ Wd b)
def OneOk (w : Str) : Prop := w = "rest" ∨ w = "turned" ∨ w = "closed" ∨ w = "walked"
def TwoOk (w : Str) : Prop := w = "joined" ∨ w = "cut" ∨ w = "then"
/-- right by its words -/
def Rt : Tm → Prop
  | .leaf w ss => LeafOk w ss
  | .one w t => OneOk w ∧ Rt t
  | .two w s t => TwoOk w ∧ Rt s ∧ Rt t
theorem Ty.rt {xs : List Str} {ls : List Lt} (ok : FrOk xs ls) {t : Tm} {x y : Str} (h : Ty xs ls t x y) : Rt t := by
  induction h with
  | letter h => exact .inl ⟨rfl, _, rfl, ok.nl.w _ (List.mem_map_of_mem h)⟩
  | same h => exact .inr (.inl ⟨rfl, _, rfl, ok.nx.w _ h⟩)
  | other h => exact .inr (.inr (.inl ⟨rfl, _, rfl, ok.nx.w _ h⟩))
  | none h g => exact .inr (.inr (.inr (.inl ⟨rfl, _, _, rfl, ok.nx.w _ h, ok.nx.w _ g⟩)))
  | all h g => exact .inr (.inr (.inr (.inr ⟨rfl, _, _, rfl, ok.nx.w _ h, ok.nx.w _ g⟩)))
  | rest _ ih => exact ⟨.inl rfl, ih⟩
  | turned _ ih => exact ⟨.inr (.inl rfl), ih⟩
  | closed _ ih => exact ⟨.inr (.inr (.inl rfl)), ih⟩
  | walked _ ih => exact ⟨.inr (.inr (.inr rfl)), ih⟩
  | joined _ _ i1 i2 => exact ⟨.inl rfl, i1, i2⟩
  | cut _ _ i1 i2 => exact ⟨.inr (.inl rfl), i1, i2⟩
  | then_ _ _ i1 i2 => exact ⟨.inr (.inr rfl), i1, i2⟩
/-- at the addresses stand the terms -/
inductive Tms (K : PySem.W.Frag) (H : Hp) : List Addr → List Tm → Prop
  | nil : Tms K H [] []
  | cons {a : Addr} {t : Tm} {as : List Addr} {ts : List Tm} : TmAt K H a t → Tms K H as ts → Tms K H (a :: as) (t :: ts)
section
variable {K : PySem.W.Frag} {H H' : Hp}
theorem Tms.same (s : Same H H') : ∀ {as : List Addr} {ts : List Tm}, Tms K H as ts → Tms K H' as ts
  | _, _, .nil => .nil
  | _, _, .cons h g => .cons (h.same s) (g.same s)
theorem Tms.len : ∀ {as : List Addr} {ts : List Tm}, Tms K H as ts → as.length = ts.length
  | _, _, .nil => rfl
  | _, _, .cons _ g => congrArg Nat.succ g.len
theorem Tms.app : ∀ {as bs : List Addr} {ts us : List Tm}, Tms K H as ts → Tms K H bs us → Tms K H (as ++ bs) (ts ++ us)
  | _, _, _, _, .nil, g => g
  | _, _, _, _, .cons h r, g => .cons h (r.app g)
theorem Tms.get : ∀ {as : List Addr} {ts : List Tm}, Tms K H as ts → ∀ {i : Nat} {a : Addr}, as[i]? = some a → ∃ t, ts[i]? = some t ∧ TmAt K H a t
  | _, _, .nil, i, a, e => by cases e
  | _, _, .cons h r, 0, a, e => ⟨_, rfl, (Option.some.inj e) ▸ h⟩
  | _, _, .cons h r, i + 1, a, e => r.get e
/-- the tuple of a term -/
theorem TmAt.view {t : Tm} {a : Addr} (h : TmAt K H a t) : ∃ us : List Addr, SqT K H a (.str t.hd :: (t.ss.map V.str ++ us.map V.ref)) ∧ Tms K H us t.kids := by
  cases t with
  | leaf w ss => exact ⟨[], by rw [List.map_nil, List.append_nil]; exact h, .nil⟩
  | one w t =>
    obtain ⟨b, h1, h2⟩ := h
    exact ⟨[b], h1, .cons h2 .nil⟩
  | two w s t =>
    obtain ⟨b, c, h1, h2, h3⟩ := h
    exact ⟨[b, c], h1, .cons h2 (.cons h3 .nil)⟩
end
theorem vpb (i : Nat) {q : Str × He.Dv} (h : vPARTSBELOW[i]? = some q) : q ∈ vPARTSBELOW := List.mem_of_getElem? h
theorem vst (i : Nat) {q : Str × He.Dv} (h : vSORTSTOLD[i]? = some q) : q ∈ vSORTSTOLD := List.mem_of_getElem? h
theorem Rt.pb : ∀ {t : Tm}, Rt t → (t.hd, He.Dv.int (t.kids.length : Int)) ∈ vPARTSBELOW
  | .leaf w ss, h => by
    rcases h with ⟨rfl, _⟩ | ⟨rfl, _⟩ | ⟨rfl, _⟩ | ⟨rfl, _⟩ | ⟨rfl, _⟩
    · exact vpb 0 rfl
    · exact vpb 1 rfl
    · exact vpb 2 rfl
    · exact vpb 3 rfl
    · exact vpb 4 rfl
  | .one w t, h => by
    rcases h.1 with rfl | rfl | rfl | rfl
    · exact vpb 5 rfl
    · exact vpb 6 rfl
    · exact vpb 10 rfl
    · exact vpb 11 rfl
  | .two w s t, h => by
    rcases h.1 with rfl | rfl | rfl
    · exact vpb 7 rfl
    · exact vpb 8 rfl
    · exact vpb 9 rfl
theorem Rt.st : ∀ {t : Tm}, Rt t → (t.srt = t.ss ∧ (t.hd, He.Dv.int (t.ss.length : Int)) ∈ vSORTSTOLD ∧ 0 < t.ss.length) ∨ (t.srt = [] ∧ t.hd ∉ kSORTSTOLD)
  | .leaf w ss, h => by
    rcases h with ⟨rfl, _⟩ | ⟨rfl, a, rfl, _⟩ | ⟨rfl, a, rfl, _⟩ | ⟨rfl, a, b, rfl, _⟩ | ⟨rfl, a, b, rfl, _⟩
    · exact .inr ⟨rfl, (by decide +kernel : ("letter" : Str) ∉ kSORTSTOLD)⟩
    · exact .inl ⟨rfl, vst 0 rfl, Nat.succ_pos _⟩
    · exact .inl ⟨rfl, vst 1 rfl, Nat.succ_pos _⟩
    · exact .inl ⟨rfl, vst 2 rfl, Nat.succ_pos _⟩
    · exact .inl ⟨rfl, vst 3 rfl, Nat.succ_pos _⟩
  | .one w t, h => by
    rcases h.1 with rfl | rfl | rfl | rfl
    · exact .inr ⟨rfl, (by decide +kernel : ("rest" : Str) ∉ kSORTSTOLD)⟩
    · exact .inr ⟨rfl, (by decide +kernel : ("turned" : Str) ∉ kSORTSTOLD)⟩
    · exact .inr ⟨rfl, (by decide +kernel : ("closed" : Str) ∉ kSORTSTOLD)⟩
    · exact .inr ⟨rfl, (by decide +kernel : ("walked" : Str) ∉ kSORTSTOLD)⟩
  | .two w s t, h => by
    rcases h.1 with rfl | rfl | rfl
    · exact .inr ⟨rfl, (by decide +kernel : ("joined" : Str) ∉ kSORTSTOLD)⟩
    · exact .inr ⟨rfl, (by decide +kernel : ("cut" : Str) ∉ kSORTSTOLD)⟩
    · exact .inr ⟨rfl, (by decide +kernel : ("then" : Str) ∉ kSORTSTOLD)⟩
/-- a term has a part or a word behind its first word -/
theorem Rt.pos : ∀ {t : Tm}, Rt t → 1 ≤ t.ss.length + t.kids.length ∧ t.ss.length + t.kids.length ≤ 2 ∧ (t.ss = [] ∨ t.kids = [])
  | .leaf w ss, h => by
    rcases h with ⟨rfl, a, rfl, _⟩ | ⟨rfl, a, rfl, _⟩ | ⟨rfl, a, rfl, _⟩ | ⟨rfl, a, b, rfl, _⟩ | ⟨rfl, a, b, rfl, _⟩ <;> exact ⟨by simp [Tm.ss, Tm.kids], by simp [Tm.ss, Tm.kids], .inr rfl⟩
  | .one w t, h => ⟨by simp [Tm.ss, Tm.kids], by simp [Tm.ss, Tm.kids], .inl rfl⟩
  | .two w s t, h => ⟨by simp [Tm.ss, Tm.kids], by simp [Tm.ss, Tm.kids], .inl rfl⟩
theorem cutV_1 (x : V) (xs : List V) (n : Nat) (l : n ≤ xs.length) : cutV (x :: xs) (some 1) (some ((1 + n : Nat) : Int)) = xs.take n := by
  have e1 : HT.sIx (x :: xs).length 0 (some 1) = 1 := by
    unfold HT.sIx
    simp
  have e2 : HT.sIx (x :: xs).length (x :: xs).length (some ((1 + n : Nat) : Int)) = 1 + n := by
    unfold HT.sIx
    rw [List.length_cons]
    simp only
    split
    · omega
    · omega
  unfold cutV
  rw [e1, e2, show 1 + n - 1 = n by omega]
  rfl
theorem sIx_1 (x : V) (xs : List V) : ¬ (HT.sIx (x :: xs).length 0 (some 1) = 0 ∧ True) := by
  rintro ⟨h, _⟩
  unfold HT.sIx at h
  simp at h
theorem atI_0 (x : V) (xs : List V) : atI (x :: xs) 0 = some x := by
  unfold atI ixN
  rw [if_pos (Int.le_refl 0), if_pos (by rw [List.length_cons]; omega)]
  rfl
abbrev NPB : List Str := ["term"]
theorem scPB : FnScope NPB ["term"] (defScope sPartsBelow) := ⟨rfl, rfl, rfl, by decide +kernel, rfl, by decide +kernel, by decide +kernel⟩
def spPB (K : PySem.W.Frag) : Sp := fun vs H Q _ => ∃ (a : Addr) (t : Tm), vs = [.ref a] ∧ TmAt K H a t ∧ Rt t ∧ ∀ (p : Addr) (us : List Addr) (H' : Hp), Same H H' → H' p = some (.tup (us.map V.ref)) → Tms K H' us t.kids → Q (.ref p) H'
abbrev NST : List Str := ["part"]
theorem scST : FnScope NST ["part"] (defScope sSortsTold) := ⟨rfl, rfl, rfl, by decide +kernel, rfl, by decide +kernel, by decide +kernel⟩
def spST (K : PySem.W.Frag) : Sp := fun vs H Q _ => ∃ (a : Addr) (t : Tm), vs = [.ref a] ∧ TmAt K H a t ∧ Rt t ∧ ∀ (p : Addr) (H' : Hp), Same H H' → H' p = some (.tup (t.srt.map V.str)) → Q (.ref p) H'
section
variable {P : Program} {w : World} {K : PySem.W.Frag} {mg : Str → Option Value} {base : Heap} {f : Addr} {fd : FuncData}
theorem ok_pb (F : FnP K "parts_below" sPartsBelow f fd) (Y : Fx w K mg) : FnOk P w K mg base CX0 1 f fd ["term"] (spPB K) := by
  obtain ⟨es, n, D⟩ := Y.kPARTSBELOW
  refine okD F scPB (fun vs H Q E h => ?_) (fun cdv A outer s H vs Q E hr h => ?_)
  · obtain ⟨a, t, rfl, _⟩ := h
    rfl
  · have nd := scPB.nd
    refine ⟨_, pss_one (ps_ret (pe_slice sl_tupA (pv 0) (po_some pe_int) (po_some (pe_op op_add pe_int (pe_ix ix_kdict (pe_glob (v := .ref (He.ga K "_PARTS_BELOW")) (by rfl) Y.gPARTSBELOW rfl) (pe_ix ix_tup (pv 0) pe_int (fun _ _ => rfl)) (fun _ _ => rfl)))))), ?_⟩
    obtain ⟨a, t, rfl, ha, rt, k⟩ := h
    obtain ⟨us, h1, h2⟩ := ha.view
    obtain ⟨u, eu, ru⟩ := He.valsB_ok Y.x9 rt.pb
    refine ⟨_, rfl, _, rfl, _, rfl, a, _, 0, _, rfl, rfl, h1, atI_0 _ _, _, _, _, rfl, rfl, ⟨es, n, u, D.at_, D.lit, eu, ru⟩, ?_⟩
    have lk := h2.len
    obtain ⟨p1, p2, p3⟩ := rt.pos
    have ec : cutV (V.str t.hd :: (t.ss.map V.str ++ us.map V.ref)) (some 1) (some ((1 + t.kids.length : Nat) : Int)) = us.map V.ref := by
      rcases p3 with z | z
      · rw [z, List.map_nil, List.nil_append, cutV_1 _ _ _ (by rw [List.length_map]; omega), List.take_of_length_le (by rw [List.length_map]; omega)]
      · rw [cutV_1 _ _ _ (by rw [z]; exact Nat.zero_le _), z, List.length_nil, List.take_zero]
        rw [z] at lk
        rw [List.length_eq_zero_iff.mp lk, List.map_nil]
    refine ⟨_, _, rfl, rfl, _, rfl, a, _, rfl, h1, fun hh => absurd ⟨hh.1, trivial⟩ (sIx_1 _ _), fun _ p hp => ?_⟩
    rw [show (1 : Int) + (t.kids.length : Int) = ((1 + t.kids.length : Nat) : Int) by omega, ec]
    exact k p us _ (same_upd hp) upd_same (h2.same (same_upd hp))
theorem ok_st (F : FnP K "sorts_told" sSortsTold f fd) (Y : Fx w K mg) : FnOk P w K mg base CX0 1 f fd ["part"] (spST K) := by
  obtain ⟨es, n, D⟩ := Y.kSORTSTOLD
  refine okD F scST (fun vs H Q E h => ?_) (fun cdv A outer s H vs Q E hr h => ?_)
  · obtain ⟨a, t, rfl, _⟩ := h
    rfl
  · have nd := scST.nd
    refine ⟨_, pss_one (ps_ret (pe_slice sl_tupA (pv 0) (po_some pe_int) (po_some (pe_op op_add pe_int (pe_kdget2 D (pe_glob (v := .ref (He.ga K "_SORTS_TOLD")) (by rfl) Y.gSORTSTOLD rfl) (pe_ix ix_tup (pv 0) pe_int (fun _ _ => rfl)) pe_int ⟨rfl, rfl, rfl, rfl⟩))))), ?_⟩
    obtain ⟨a, t, rfl, ha, rt, k⟩ := h
    obtain ⟨us, h1, h2⟩ := ha.view
    have lk := h2.len
    obtain ⟨p1, p2, p3⟩ := rt.pos
    have eD : He.dicW K (He.ga K "_SORTS_TOLD") = some (He.keysIn w.params kSORTSTOLD) := by
      have e : tabs.map (fun t => He.dicW K (t.1 K)) = tabs.map fun t => some (He.keysIn w.params t.2) := congrArg (fun z : He.AlT => z.2) Y.t
      exact (List.cons.inj (List.cons.inj e).2).1
    rcases rt.st with ⟨es, m, l0⟩ | ⟨es, no⟩
    · obtain ⟨u, eu, ru⟩ := He.valsB_ok Y.x10 m
      refine ⟨_, rfl, _, rfl, rfl, _, rfl, a, _, 0, _, rfl, rfl, h1, atI_0 _ _, t.hd, some u, .int (t.ss.length : Int), rfl, eu, ru, ?_⟩
      refine ⟨_, _, rfl, rfl, _, rfl, a, _, rfl, h1, fun hh => absurd ⟨hh.1, trivial⟩ (sIx_1 _ _), fun _ p hp => ?_⟩
      have ec : cutV (V.str t.hd :: (t.ss.map V.str ++ us.map V.ref)) (some 1) (some ((1 + t.ss.length : Nat) : Int)) = t.srt.map V.str := by
        rw [cutV_1 _ _ _ (by rw [List.length_append, List.length_map]; omega), es, List.take_append_of_le_length (by rw [List.length_map]; omega), List.take_of_length_le (by rw [List.length_map]; omega)]
      rw [show (1 : Int) + (t.ss.length : Int) = ((1 + t.ss.length : Nat) : Int) by omega, ec]
      exact k p _ (same_upd hp) upd_same
    · refine ⟨_, rfl, _, rfl, rfl, _, rfl, a, _, 0, _, rfl, rfl, h1, atI_0 _ _, t.hd, none, .int 0, rfl, dicW_no eD no, rfl, ?_⟩
      refine ⟨_, _, rfl, rfl, _, rfl, a, _, rfl, h1, fun hh => absurd ⟨hh.1, trivial⟩ (sIx_1 _ _), fun _ p hp => ?_⟩
      have ec : cutV (V.str t.hd :: (t.ss.map V.str ++ us.map V.ref)) (some 1) (some ((1 + 0 : Nat) : Int)) = t.srt.map V.str := by
        rw [cutV_1 _ _ _ (Nat.zero_le _), es]
        rfl
      rw [show (1 : Int) + (0 : Int) = ((1 + 0 : Nat) : Int) by omega, ec]
      exact k p _ (same_upd hp) upd_same
end
end K43

namespace K43
open PySem PySem.Spec PyProof.Rows L2 Ow
/-! ### all parts, by the stack -/
def Tm.pre : Tm → List Tm
  | .leaf w ss => [.leaf w ss]
  | .one w t => .one w t :: t.pre
  | .two w s t => .two w s t :: (s.pre ++ t.pre)
theorem pre_kids (t : Tm) : t.pre = t :: t.kids.flatMap Tm.pre := by
  cases t <;> simp [Tm.pre, Tm.kids]
theorem pre_len : ∀ t : Tm, t.pre.length = t.sz
  | .leaf _ _ => rfl
  | .one _ t => by simp only [Tm.pre, Tm.sz, List.length_cons, pre_len t]; omega
  | .two _ s t => by simp only [Tm.pre, Tm.sz, List.length_cons, List.length_append, pre_len s, pre_len t]; omega
theorem Rt.kids : ∀ {t : Tm}, Rt t → ∀ u ∈ t.kids, Rt u
  | .leaf _ _, _, u, hu => absurd hu List.not_mem_nil
  | .one _ t, h, u, hu => by rw [List.mem_singleton.mp hu]; exact h.2
  | .two _ s t, h, u, hu => by
    rcases List.mem_cons.mp hu with z | z
    · rw [z]; exact h.2.1
    · rw [List.mem_singleton.mp z]; exact h.2.2
theorem Rt.pre : ∀ {t : Tm}, Rt t → ∀ u ∈ t.pre, Rt u
  | .leaf _ _, h, u, hu => by rw [List.mem_singleton.mp hu]; exact h
  | .one _ t, h, u, hu => by
    rcases List.mem_cons.mp hu with z | z
    · rw [z]; exact h
    · exact h.2.pre u z
  | .two _ s t, h, u, hu => by
    rcases List.mem_cons.mp hu with z | z
    · rw [z]; exact h
    · rcases List.mem_append.mp z with z | z
      · exact h.2.1.pre u z
      · exact h.2.2.pre u z
/-- at r stands the pair of a path, at most n long, and a term -/
def PrO (K : PySem.W.Frag) (H : Hp) (n : Nat) (r : Addr) (t : Tm) : Prop := ∃ (q u : Addr) (xs : List V), SqT K H r [.ref q, .ref u] ∧ SqT K H q xs ∧ xs.length ≤ n ∧ TmAt K H u t
inductive PrsO (K : PySem.W.Frag) (H : Hp) (n : Nat) : List Addr → List Tm → Prop
  | nil : PrsO K H n [] []
  | cons {a : Addr} {t : Tm} {as : List Addr} {ts : List Tm} : PrO K H n a t → PrsO K H n as ts → PrsO K H n (a :: as) (t :: ts)
section
variable {K : PySem.W.Frag} {H H' : Hp} {n m : Nat}
theorem PrO.same (s : Same H H') {r : Addr} {t : Tm} (h : PrO K H n r t) : PrO K H' n r t := let ⟨q, u, xs, a, b, c, d⟩ := h; ⟨q, u, xs, sqt_same s a, sqt_same s b, c, d.same s⟩
theorem PrO.put {D : Addr} {l : List V} {o : HO} (e : H D = some (.lst l)) {r : Addr} {t : Tm} (h : PrO K H n r t) : PrO K (upd H D o) n r t := let ⟨q, u, xs, a, b, c, d⟩ := h; ⟨q, u, xs, sqt_put e a, sqt_put e b, c, d.put e⟩
theorem PrO.le (l : n ≤ m) {r : Addr} {t : Tm} (h : PrO K H n r t) : PrO K H m r t := let ⟨q, u, xs, a, b, c, d⟩ := h; ⟨q, u, xs, a, b, Nat.le_trans c l, d⟩
theorem PrsO.same (s : Same H H') : ∀ {as : List Addr} {ts : List Tm}, PrsO K H n as ts → PrsO K H' n as ts
  | _, _, .nil => .nil
  | _, _, .cons h g => .cons (h.same s) (g.same s)
theorem PrsO.put {D : Addr} {l : List V} {o : HO} (e : H D = some (.lst l)) : ∀ {as : List Addr} {ts : List Tm}, PrsO K H n as ts → PrsO K (upd H D o) n as ts
  | _, _, .nil => .nil
  | _, _, .cons h g => .cons (h.put e) (g.put e)
theorem PrsO.le (l : n ≤ m) : ∀ {as : List Addr} {ts : List Tm}, PrsO K H n as ts → PrsO K H m as ts
  | _, _, .nil => .nil
  | _, _, .cons h g => .cons (h.le l) (g.le l)
theorem PrsO.len : ∀ {as : List Addr} {ts : List Tm}, PrsO K H n as ts → as.length = ts.length
  | _, _, .nil => rfl
  | _, _, .cons _ g => congrArg Nat.succ g.len
theorem PrsO.app : ∀ {as bs : List Addr} {ts us : List Tm}, PrsO K H n as ts → PrsO K H n bs us → PrsO K H n (as ++ bs) (ts ++ us)
  | _, _, _, _, .nil, g => g
  | _, _, _, _, .cons h r, g => .cons h (r.app g)
theorem PrsO.rev : ∀ {as : List Addr} {ts : List Tm}, PrsO K H n as ts → PrsO K H n as.reverse ts.reverse
  | _, _, .nil => .nil
  | _, _, .cons h r => by rw [List.reverse_cons, List.reverse_cons]; exact r.rev.app (.cons h .nil)
theorem PrsO.get : ∀ {as : List Addr} {ts : List Tm}, PrsO K H n as ts → ∀ {i : Nat} {a : Addr}, as[i]? = some a → ∃ t, ts[i]? = some t ∧ PrO K H n a t
  | _, _, .nil, i, a, e => by cases e
  | _, _, .cons h r, 0, a, e => ⟨_, rfl, (Option.some.inj e) ▸ h⟩
  | _, _, .cons h r, i + 1, a, e => r.get e
theorem PrsO.uncons {a : Addr} {as : List Addr} {ts : List Tm} (h : PrsO K H n (a :: as) ts) : ∃ t us, ts = t :: us ∧ PrO K H n a t ∧ PrsO K H n as us := by
  cases h with
  | cons h r => exact ⟨_, _, rfl, h, r⟩
theorem PrsO.unnil {ts : List Tm} (h : PrsO K H n [] ts) : ts = [] := by
  cases h
  rfl
/-- the last one -/
theorem PrsO.last {as : List Addr} {a : Addr} : ∀ {ts : List Tm}, PrsO K H n (as ++ [a]) ts → ∃ us t, ts = us ++ [t] ∧ PrsO K H n as us ∧ PrO K H n a t := by
  induction as with
  | nil =>
    intro ts h
    obtain ⟨t, us, e, h1, h2⟩ := h.uncons
    exact ⟨[], t, by rw [e, h2.unnil]; rfl, .nil, h1⟩
  | cons b as ih =>
    intro ts h
    obtain ⟨t, us, e, h1, h2⟩ := PrsO.uncons (as := as ++ [a]) h
    obtain ⟨vs, u, e2, r1, r2⟩ := ih h2
    exact ⟨t :: vs, u, by rw [e, e2]; rfl, .cons h1 r1, r2⟩
end
/-! ### is not None, of None; an and whose first is false -/
def rNotN : R2 := fun x y H Q => x = .non ∧ y = .non ∧ Q (.bl false) H
theorem op_notN {X : Cx} : OpR X (compareOp .IsNot) rNotN := by
  intro pins s σ H x y v u Q I rx ry h
  obtain ⟨rfl, rfl, q⟩ := h
  cases (show v = Value.none from rx)
  cases (show u = Value.none from ry)
  exact wpAny_isNot_self rfl ⟨.bl false, H, I, rfl, q⟩
def tAndF (tA : TT) : TT := fun σ H Q => tA σ H fun c H1 => c = false ∧ Q false H1
theorem pw_andF {X : Cx} {a b : Expr} {rest : List Expr} {pos : Pos} {tA : TT} (ha : PT X a tA) : PW X (.BoolOp .And (a :: b :: rest) pos) (tAndF tA) := by
  refine ⟨fun wh pins s σ H Q I h => ?_⟩
  refine isTrue_and (thn (ha.run pins s σ H _ I h) fun c s1 ⟨H1, I1, e, q1⟩ => ?_)
  subst e
  exact ⟨H1, I1, q1⟩
abbrev NBeO : List Str := ["path", "part", "number", "below"]
theorem scBeO : FnScope NBeO ["path", "part"] (defScope sBelow) := ⟨rfl, rfl, rfl, by decide +kernel, rfl, by decide +kernel, by decide +kernel⟩
def spBeO (K : PySem.W.Frag) : Sp := fun vs H Q _ => ∃ (q a : Addr) (xs : List V) (t : Tm), vs = [.ref q, .ref a] ∧ SqT K H q xs ∧ xs.length ≤ 900 ∧ TmAt K H a t ∧ Rt t ∧ ∀ (L : Addr) (rs : List Addr) (H' : Hp), Same H H' → H L = none → H' L = some (.lst (rs.map V.ref)) → PrsO K H' (xs.length + 1) rs t.kids → Q (.ref L) H'
abbrev NPCO : List Str := ["frame", "value", "found", "waiting", "path", "part"]
theorem scPCO : FnScope NPCO ["frame", "value"] (defScope sPartsChecked) := ⟨rfl, rfl, rfl, by decide +kernel, rfl, by decide +kernel, by decide +kernel⟩
def spPC (K : PySem.W.Frag) : Sp := fun vs H Q _ => ∃ (a : Addr) (t : Tm), vs = [.non, .ref a] ∧ TmAt K H a t ∧ Rt t ∧ t.sz ≤ 400 ∧ ∀ (L : Addr) (rs : List Addr) (H' : Hp), Same H H' → H L = none → H' L = some (.lst (rs.map V.ref)) → PrsO K H' 400 rs t.pre → Q (.ref L) H'
abbrev NPO : List Str := ["term"]
theorem scPO : FnScope NPO ["term"] (defScope sPartsOf) := ⟨rfl, rfl, rfl, by decide +kernel, rfl, by decide +kernel, by decide +kernel⟩
def spPO (K : PySem.W.Frag) : Sp := fun vs H Q _ => ∃ (a : Addr) (t : Tm), vs = [.ref a] ∧ TmAt K H a t ∧ Rt t ∧ t.sz ≤ 400 ∧ ∀ (L : Addr) (rs : List Addr) (H' : Hp), Same H H' → H L = none → H' L = some (.lst (rs.map V.ref)) → PrsO K H' 400 rs t.pre → Q (.ref L) H'
section
variable {P : Program} {w : World} {K : PySem.W.Frag} {mg : Str → Option Value} {base : Heap} {f : Addr} {fd : FuncData}
theorem ok_beO (F : FnP K "_below" sBelow f fd) (Y : Fx w K mg) : FnOk P w K mg base CX0 2 f fd ["path", "part"] (spBeO K) := by
  obtain ⟨d1, F1⟩ := Y.dPartsBelow
  have b1 := FunD.bindsN (ps := ["term"]) F1 fun _ _ _ _ _ _ us hl => match us, hl with | [_], _ => rfl
  have G1 : FnOk P w K mg base CX0 1 _ d1 ["term"] (spPB K) := ok_pb F1 Y
  refine okD F scBeO (fun vs H Q E h => ?_) (fun cdv A outer s H vs Q E hr h => ?_)
  · obtain ⟨q, a, xs, t, rfl, _⟩ := h
    rfl
  · have nd := scBeO.nd
    refine ⟨_, pss_one (ps_ret (pe_lc (own := [("number", 2), ("below", 3)]) (g := gTup K 2 (gCons (gName 2) (gCons (gName 3) gNil))) (tt := tYes) (te := tTup (tCons (tOp (rCatA K) (tVar 0) (tTup (tCons (tVar 2) tNil))) (tCons (tVar 3) tNil))) rfl nd
      (pi_enumA (by rfl) Y.bEnumerate (pa_cons (pe_call G1 hr (by rfl) Y.gPartsBelow F1.kp b1 .nil pass0 (pa_cons (pv 1) pa_nil)) pa_nil)) (blkOk_by (N := NBeO) (sc := defScope sBelow) (by decide +kernel))
      (fun _ _ _ _ _ => pg_tup rfl (pgs_cons (pg_name (i := 2) nd rfl (Or.inl rfl)) (pgs_cons (pg_name (i := 3) nd rfl (Or.inl rfl)) pgs_nil))) (fun _ _ _ _ _ => pts_nil)
      (fun _ _ _ _ _ => pe_tup (pa_cons (pe_op op_catA (pv 0) (pe_tup (pa_cons (pv 2) pa_nil))) (pa_cons (pv 3) pa_nil))))), ?_⟩
    obtain ⟨q, a, xs, t, rfl, hq, lx, ha, rt, k⟩ := h
    refine ⟨_, rfl, a, t, rfl, ha, rt, fun p us H1 s1 hp hk => ?_⟩
    refine ⟨p, us.map V.ref, rfl, .inr (SqT.of hp), fun J GG wk gk D hD => lc_it wk (fun i G => ∃ rs : List Addr, G D = some (.lst (rs.map V.ref)) ∧ PrsO K G (xs.length + 1) rs (t.kids.take i) ∧ Same H1 G) ⟨[], upd_same, .nil, same_upd hD⟩ (fun i G _ ⟨_, _, _, z⟩ => gk G z) ?_ ?_⟩
    · rintro i v G G' hi ⟨rs, e, hP, sm⟩ ⟨T, x, y, rfl, hT, rfl, ex, ey⟩
      cases ex
      obtain ⟨u, eu, rfl⟩ : ∃ u, us[i]? = some u ∧ y = V.ref u := by
        replace ey : (us.map V.ref)[i]? = some y := ey
        rw [List.getElem?_map] at ey
        cases z : us[i]? with
        | none => rw [z] at ey; cases ey
        | some u => rw [z] at ey; exact ⟨u, rfl, (Option.some.inj ey).symm⟩
      obtain ⟨kd, ek, hkd⟩ := hk.get eu
      have li := (List.getElem?_eq_some_iff.mp ek).1
      have l2 := rt.pos.2.1
      have lr := hP.len
      rw [List.length_take] at lr
      have sT := same_upd (o := .tup [V.int (i : Int), V.ref u]) hT
      refine ⟨T, _, rfl, SqT.of upd_same, rfl, _, _, rfl, _, _, rfl, rfl, rfl, _, rfl, _, rfl, szl (by show 1 ≤ 1000; decide), fun T2 hT2 => ?_⟩
      have sT2 := same_upd (o := .tup [V.int (i : Int)]) hT2
      refine ⟨q, T2, xs, [.int (i : Int)], rfl, rfl, sqt_same (s1.trans (sm.trans (sT.trans sT2))) hq, SqT.of upd_same, szl (by show xs.length + 1 ≤ 1000; omega), fun hx => ?_, fun hx h0 => absurd h0 (List.cons_ne_nil _ _), fun hx _ => ?_⟩
      · refine ⟨_, rfl, szl (by show 2 ≤ 1000; decide), fun T3 hT3 => ?_⟩
        have sT3 := same_upd (o := .tup [V.ref T2, V.ref u]) hT3
        have s9 := sT.trans (sT2.trans sT3)
        have e9 := s9 _ _ e
        refine ⟨_, e9, ?_, rs ++ [T3], ?_, ?_, same_put hD (sm.trans s9)⟩
        · rw [List.length_map]
          exact small1000 (by omega)
        · rw [upd_same, List.map_append]
          rfl
        · rw [List.take_add_one, ek]
          refine PrsO.put e9 ((hP.same s9).app (.cons ⟨T2, u, [.int (i : Int)], SqT.of upd_same, sqt_same sT3 (SqT.of upd_same), Nat.succ_le_succ (Nat.zero_le _), hkd.same (sm.trans s9)⟩ .nil))
      · intro T4 hT4
        have sT4 := same_upd (o := .tup (xs ++ [V.int (i : Int)])) hT4
        refine ⟨_, rfl, szl (by show 2 ≤ 1000; decide), fun T3 hT3 => ?_⟩
        have sT3 := same_upd (o := .tup [V.ref T4, V.ref u]) hT3
        have s9 := sT.trans (sT2.trans (sT4.trans sT3))
        have e9 := s9 _ _ e
        refine ⟨_, e9, ?_, rs ++ [T3], ?_, ?_, same_put hD (sm.trans s9)⟩
        · rw [List.length_map]
          exact small1000 (by omega)
        · rw [upd_same, List.map_append]
          rfl
        · rw [List.take_add_one, ek]
          refine PrsO.put e9 ((hP.same s9).app (.cons ⟨T4, u, xs ++ [.int (i : Int)], SqT.of upd_same, sqt_same sT3 (SqT.of upd_same), by rw [List.length_append]; exact Nat.le_refl _, hkd.same (sm.trans s9)⟩ .nil))
    · rintro G ⟨rs, e, hP, sm⟩
      have lk := hk.len
      rw [List.length_map, List.take_of_length_le (by omega)] at hP
      have hD0 : H D = none := by
        cases z : H D with
        | none => rfl
        | some u => exact absurd (s1 _ _ z) (by rw [hD]; intro q; cases q)
      exact k D rs G (s1.trans sm) hD0 e hP
end
end K43

namespace K43
open PySem PySem.Spec PyProof.Rows L2 Ow
theorem none_sameO {H G : Hp} (s : Same H G) {D : Addr} (hD : G D = none) : H D = none := by
  cases z : H D with
  | none => rfl
  | some u => exact absurd (s _ _ z) (by rw [hD]; intro q; cases q)
def lenAtO (σ : L2.St) (i : Nat) (G : Hp) : Nat := match σ[i]? with
  | some (some (V.ref b)) => (match G b with
    | some (.lst zs) => zs.length
    | _ => 0)
  | _ => 0
section
variable {P : Program} {w : World} {K : PySem.W.Frag} {mg : Str → Option Value} {base : Heap} {f : Addr} {fd : FuncData}
theorem ok_pc (F : FnP K "_parts_checked" sPartsChecked f fd) (Y : Fx w K mg) : FnOk P w K mg base CX0 3 f fd ["frame", "value"] (spPC K) := by
  obtain ⟨d1, F1⟩ := Y.dBelow
  have b1 := FunD.bindsN (ps := ["path", "part"]) F1 fun _ _ _ _ _ _ us hl => match us, hl with | [_, _], _ => rfl
  have G1 : FnOk P w K mg base CX0 2 _ d1 ["path", "part"] (spBeO K) := ok_beO F1 Y
  refine okD F scPCO (fun vs H Q E h => ?_) (fun cdv A outer s H vs Q E hr h => ?_)
  · obtain ⟨a, t, rfl, _⟩ := h
    rfl
  · have nd := scPCO.nd
    refine ⟨_, pss_cons (ps_set (i := 2) nd rfl (Or.inl rfl) (pe_lst pa_nil))
      (pss_cons (ps_set (i := 3) nd rfl (Or.inl rfl) (pe_lst (pa_cons (pe_tup (pa_cons (pe_tup pa_nil) (pa_cons (pv 1) pa_nil))) pa_nil)))
      (pss_cons (ps_while PassesOwn.never (pt_truth (pv 3) (by intro _; rfl))
        (pss_cons (ps_asg (pe_bm0 PySem.F.plainAttrs_list PySem.F.slot_list_pop PySem.F.type_list_pop mt_pop (pv 3)) (pg_tup rfl (pgs_cons (pg_name (i := 4) nd rfl (Or.inl rfl)) (pgs_cons (pg_name (i := 5) nd rfl (Or.inl rfl)) pgs_nil))))
        (pss_cons (ps_ifN (pw_andF (pt_cmpR op_notN (pv 0) pe_non (nomark _))).pt pss_nil)
        (pss_cons (ps_expr (pe_bm PySem.F.plainAttrs_list PySem.F.slot_list_append PySem.F.type_list_append mt_append (pv 2) (pa_cons (pe_tup (pa_cons (pv 4) (pa_cons (pv 5) pa_nil))) pa_nil)))
        (pss_one (ps_expr (pe_bm PySem.F.plainAttrs_list PySem.F.slot_list_extend PySem.F.type_list_extend mt_extend (pv 3) (pa_cons (pe_rev (pe_call G1 hr (by rfl) Y.gBelow F1.kp b1 .nil pass0 (pa_cons (pv 4) (pa_cons (pv 5) pa_nil))) (pe_un un_neg pe_int)) pa_nil))))))))
      (pss_one (ps_ret (pv 2))))), ?_⟩
    obtain ⟨a, t, rfl, ha, rt, z4, k⟩ := h
    refine ⟨szl (by show 0 ≤ 1000; decide), fun Fd hF => ?_⟩
    have s0 := same_upd (o := .lst []) hF
    refine ⟨szl (by show 0 ≤ 1000; decide), fun T0 hT0 => ?_⟩
    have s1 := same_upd (o := .tup []) hT0
    refine ⟨_, rfl, szl (by show 2 ≤ 1000; decide), fun T1 hT1 => ?_⟩
    have s2 := same_upd (o := .tup [V.ref T0, V.ref a]) hT1
    refine ⟨szl (by show 1 ≤ 1000; decide), fun Wt hW => ?_⟩
    have s3 := same_upd (o := .lst [V.ref T1]) hW
    have e3F := s3 _ _ (s2 _ _ (s1 _ _ (upd_same : upd H Fd (.lst []) Fd = _)))
    have e3W := (upd_same : upd (upd (upd (upd H Fd (.lst [])) T0 (.tup [])) T1 (.tup [V.ref T0, V.ref a])) Wt (.lst [V.ref T1]) Wt = _)
    have q3 : SqT K (upd (upd (upd (upd H Fd (.lst [])) T0 (.tup [])) T1 (.tup [V.ref T0, V.ref a])) Wt (.lst [V.ref T1])) T1 [.ref T0, .ref a] := sqt_same s3 (SqT.of upd_same)
    have q4 : SqT K (upd (upd (upd (upd H Fd (.lst [])) T0 (.tup [])) T1 (.tup [V.ref T0, V.ref a])) Wt (.lst [V.ref T1])) T0 [] := sqt_same (s2.trans s3) (SqT.of upd_same)
    have s9 := s0.trans (s1.trans (s2.trans s3))
    have hW0 : H Wt = none := none_sameO (s0.trans (s1.trans s2)) hW
    have nFW : Fd ≠ Wt := fun q => by
      subst q
      have z := (s1.trans s2) _ _ (upd_same : upd H Fd (.lst []) Fd = _)
      rw [hW] at z
      cases z
    have ha9 := ha.same s9
    obtain ⟨G0, eG⟩ : ∃ Z, Z = upd (upd (upd (upd H Fd (.lst [])) T0 (.tup [])) T1 (.tup [V.ref T0, V.ref a])) Wt (.lst [V.ref T1]) := ⟨_, rfl⟩
    dsimp only [gName]
    change tSeq (tWhile _ _) _ _ [some .non, some (.ref a), some (.ref Fd), some (.ref Wt), none, none] (upd (upd (upd (upd H Fd (.lst [])) T0 (.tup [])) T1 (.tup [V.ref T0, V.ref a])) Wt (.lst [V.ref T1]))
    rw [← eG] at e3F e3W q3 q4 s9 ha9 ⊢
    clear eG s0 s1 s2 s3 hW hT1 hT0
    refine while_by (fun σ G => ∃ (rs ws : List Addr) (ts us : List Tm) (v4 v5 : Option V), σ = [some .non, some (.ref a), some (.ref Fd), some (.ref Wt), v4, v5] ∧ G Fd = some (.lst (rs.map V.ref)) ∧ G Wt = some (.lst (ws.map V.ref)) ∧ PrsO K G rs.length rs ts ∧ PrsO K G rs.length ws us ∧ (∀ u ∈ us, Rt u) ∧ ts ++ us.reverse.flatMap Tm.pre = t.pre ∧ Same H G)
      (fun σ G => t.sz - lenAtO σ 2 G) ⟨[], [T1], [], [t], none, none, rfl, e3F, e3W, .nil, .cons ⟨T0, a, [], q3, q4, Nat.le_refl _, ha9⟩ .nil, fun u hu => (List.mem_singleton.mp hu) ▸ rt, by simp, s9⟩ ?_ ?_
    · rintro σ G ⟨rs, ws, ts, us, v4, v5, rfl, eF, eW, P1, P2, hR, hsum, sm⟩
      have l1 := P1.len
      have l2 := P2.len
      have lsum := congrArg List.length hsum
      rw [List.length_append, pre_len] at lsum
      refine ⟨_, rfl, !(ws.map V.ref).isEmpty, .inl ⟨_, SqL.of eW, rfl⟩, ?_⟩
      rcases List.eq_nil_or_concat ws with rfl | ⟨ws', r, rfl⟩
      · refine iteF ?_
        rw [List.length_eq_zero_iff.mp l2.symm] at hsum
        have e : ts = t.pre := by rw [← hsum]; simp
        subst e
        exact ⟨_, rfl, k Fd rs G sm hF eF (P1.le (by rw [l1, pre_len]; exact z4))⟩
      · rw [List.concat_eq_append] at *
        have ne : (!((ws' ++ [r]).map V.ref).isEmpty) = true := by simp
        rw [ne]
        refine iteT ?_
        obtain ⟨us', u, rfl, P3, q, ua, xs, h1, h2, h3, h4⟩ := P2.last
        have hRu := hR u (List.mem_append_right _ List.mem_cons_self)
        have hsum2 : (ts ++ [u]) ++ (us' ++ u.kids.reverse).reverse.flatMap Tm.pre = t.pre := by
          rw [← hsum]
          simp only [List.reverse_append, List.reverse_reverse, List.reverse_cons, List.reverse_nil, List.nil_append, List.flatMap_append, List.append_assoc, List.singleton_append, List.flatMap_cons, List.cons_append]
          rw [pre_kids u]
          simp
        have lsum2 := congrArg List.length hsum2
        rw [List.length_append, List.length_append, pre_len] at lsum2
        have ll2 := P3.len
        have hku : ∀ v ∈ us' ++ u.kids.reverse, Rt v := fun v hv => by
          rcases List.mem_append.mp hv with z | z
          · exact hR v (List.mem_append_left _ z)
          · exact hRu.kids v (List.mem_reverse.mp z)
        have pos_len : ∀ l : List Tm, l.length ≤ (l.flatMap Tm.pre).length := fun l => by
          induction l with
          | nil => exact Nat.le_refl _
          | cons x l ih =>
            rw [List.flatMap_cons, List.length_append, List.length_cons, pre_len]
            have : 1 ≤ x.sz := by cases x <;> simp only [Tm.sz] <;> omega
            omega
        have lu := pos_len (us' ++ u.kids.reverse).reverse
        rw [List.length_reverse, List.length_append, List.length_reverse] at lu
        simp only [List.length_cons, List.length_nil] at lsum2
        have l9 : rs.length ≤ 399 := by omega
        refine ⟨_, rfl, .inl ⟨rfl, _, SqL.of eW⟩, Wt, _, .ref r, rfl, rfl, eW, by rw [List.map_append, List.length_append, List.map_cons, List.map_nil, List.length_cons, List.length_nil, Nat.add_sub_cancel]; simp, ?_⟩
        rw [List.map_append, List.map_cons, List.map_nil, List.dropLast_concat]
        have smA := same_put (o := .lst (ws'.map V.ref)) hW0 sm
        have eFA : upd G Wt (.lst (ws'.map V.ref)) Fd = some (.lst (rs.map V.ref)) := (upd_ne nFW).trans eF
        have eWA : upd G Wt (.lst (ws'.map V.ref)) Wt = some (.lst (ws'.map V.ref)) := upd_same
        have P1A := P1.put (o := .lst (ws'.map V.ref)) eW
        have P3A := P3.put (o := .lst (ws'.map V.ref)) eW
        have h1A := sqt_put (o := .lst (ws'.map V.ref)) eW h1
        have h2A := sqt_put (o := .lst (ws'.map V.ref)) eW h2
        have h4A := h4.put (o := .lst (ws'.map V.ref)) eW
        generalize upd G Wt (.lst (ws'.map V.ref)) = GA at smA eFA eWA P1A P3A h1A h2A h4A ⊢
        refine ⟨r, _, rfl, h1A, rfl, _, _, rfl, _, _, rfl, rfl, ?_⟩
        dsimp only
        change tSeq _ _ _ [some .non, some (.ref a), some (.ref Fd), some (.ref Wt), some (.ref q), some (.ref ua)] GA
        refine ⟨_, rfl, rfl, rfl, _, rfl, rfl, rfl, ?_⟩
        change tSeq _ _ _ [some .non, some (.ref a), some (.ref Fd), some (.ref Wt), some (.ref q), some (.ref ua)] GA
        refine ⟨_, rfl, .inl ⟨rfl, _, SqL.of eFA⟩, _, rfl, _, rfl, szl (by show 2 ≤ 1000; decide), fun T hT => ?_⟩
        have sT := same_upd (o := .tup [V.ref q, V.ref ua]) hT
        have eFB := sT _ _ eFA
        refine ⟨Fd, _, _, rfl, rfl, eFB, by rw [List.length_map]; exact small1000 (by omega), ?_⟩
        have nm : rs.map V.ref ++ [V.ref T] = (rs ++ [T]).map V.ref := by rw [List.map_append]; rfl
        rw [nm]
        have prT : PrO K (upd GA T (.tup [V.ref q, V.ref ua])) (rs.length + 1) T u := ⟨q, ua, xs, SqT.of upd_same, sqt_same sT h2A, Nat.le_succ_of_le h3, h4A.same sT⟩
        have P1B := (((P1A.same sT).le (Nat.le_succ _)).app (.cons prT .nil)).put (o := .lst ((rs ++ [T]).map V.ref)) eFB
        have P3B := ((P3A.same sT).le (Nat.le_succ _)).put (o := .lst ((rs ++ [T]).map V.ref)) eFB
        have h2B := sqt_put (o := .lst ((rs ++ [T]).map V.ref)) eFB (sqt_same sT h2A)
        have h4B := (h4A.same sT).put (o := .lst ((rs ++ [T]).map V.ref)) eFB
        have smB := same_put (o := .lst ((rs ++ [T]).map V.ref)) hF (smA.trans sT)
        have eFC : upd (upd GA T (.tup [V.ref q, V.ref ua])) Fd (.lst ((rs ++ [T]).map V.ref)) Fd = some (.lst ((rs ++ [T]).map V.ref)) := upd_same
        have eWC : upd (upd GA T (.tup [V.ref q, V.ref ua])) Fd (.lst ((rs ++ [T]).map V.ref)) Wt = some (.lst (ws'.map V.ref)) := (upd_ne nFW.symm).trans (sT _ _ eWA)
        generalize upd (upd GA T (.tup [V.ref q, V.ref ua])) Fd (.lst ((rs ++ [T]).map V.ref)) = GB at P1B P3B h2B h4B smB eFC eWC ⊢
        refine ⟨_, rfl, .inl ⟨rfl, _, SqL.of eWC⟩, _, rfl, _, rfl, q, ua, xs, u, rfl, h2B, by omega, h4B, hRu, fun L rs2 GC sC hL eL hP => ?_⟩
        refine ⟨_, rfl, rfl, L, _, rfl, .inl ⟨SqL.of eL, fun p hp => ?_⟩⟩
        have sp := same_upd (o := .lst (rs2.map V.ref).reverse) hp
        have eWD := sp _ _ (sC _ _ eWC)
        have lr2 := hP.len
        refine ⟨Wt, p, _, _, rfl, rfl, eWD, upd_same, szl (by rw [List.length_map, List.length_reverse, List.length_map]; omega), ?_⟩
        have nm2 : ws'.map V.ref ++ (rs2.map V.ref).reverse = (ws' ++ rs2.reverse).map V.ref := by rw [List.map_append, List.map_reverse]
        rw [nm2]
        have eFD := (upd_ne (o := HO.lst ((ws' ++ rs2.reverse).map V.ref)) nFW).trans (sp _ _ (sC _ _ eFC))
        have lr : (rs ++ [T]).length = rs.length + 1 := by rw [List.length_append]; rfl
        refine ⟨⟨rs ++ [T], ws' ++ rs2.reverse, ts ++ [u], us' ++ u.kids.reverse, _, _, rfl, eFD, upd_same, ?_, ?_, hku, hsum2, same_put hW0 (smB.trans (sC.trans sp))⟩, ?_⟩
        · rw [lr]
          exact (P1B.same (sC.trans sp)).put eWD
        · rw [lr]
          exact ((P3B.same (sC.trans sp)).app ((hP.same sp).le (by omega)).rev).put eWD
        · show t.sz - (match upd (upd GC p (.lst (rs2.map V.ref).reverse)) Wt (.lst ((ws' ++ rs2.reverse).map V.ref)) Fd with
            | some (HO.lst zs) => zs.length
            | _ => 0) < t.sz - (match G Fd with
            | some (HO.lst zs) => zs.length
            | _ => 0)
          rw [eFD, eF]
          dsimp only
          rw [List.length_map, List.length_map, lr]
          omega
    · rintro σ G Q1 Q2 hq ⟨v, e1, b, e2, z⟩
      exact ⟨v, e1, b, e2, hq _ _ z⟩
end
end K43

namespace K43
open PySem PySem.Spec PyProof.Rows L2 Ow
/-! ### parts_of, and what asks all parts -/
def noneB (ws : List Str) (u : Tm) : Bool := !decide (u.hd ∈ ws)
def noneOf (ws : List Str) (t : Tm) : Bool := (t.pre.map (noneB ws)).all id
abbrev NF : List Str := ["then", "closed", "walked"]
abbrev NSh : List Str := ["closed", "walked"]
def isRest (u : Tm) : Bool := decide (u.hd = "rest")
def rkO (l : List Tm) : List Tm := (l.filter isRest).flatMap Tm.kids
theorem rk_yes {l : List Tm} {i : Nat} {u : Tm} (e : l[i]? = some u) (h : isRest u = true) : rkO (l.take (i + 1)) = rkO (l.take i) ++ u.kids := by
  unfold rkO
  rw [List.take_add_one, e, List.filter_append, List.flatMap_append]
  simp [h]
theorem rk_no {l : List Tm} {i : Nat} {u : Tm} (e : l[i]? = some u) (h : isRest u = false) : rkO (l.take (i + 1)) = rkO (l.take i) := by
  unfold rkO
  rw [List.take_add_one, e, List.filter_append, List.flatMap_append]
  simp [h]
def keptB (t : Tm) : Bool := ((rkO t.pre).map (noneOf NF)).all id
theorem Rt.rest : ∀ {u : Tm}, Rt u → u.hd = "rest" → ∃ v, u = .one "rest" v ∧ Rt v
  | .leaf w ss, h, e => by
    exfalso
    rcases h with ⟨rfl, _⟩ | ⟨rfl, _⟩ | ⟨rfl, _⟩ | ⟨rfl, _⟩ | ⟨rfl, _⟩
    · exact absurd (show ("letter" : Str) = "rest" from e) (by decide +kernel)
    · exact absurd (show ("same" : Str) = "rest" from e) (by decide +kernel)
    · exact absurd (show ("other" : Str) = "rest" from e) (by decide +kernel)
    · exact absurd (show ("none" : Str) = "rest" from e) (by decide +kernel)
    · exact absurd (show ("all" : Str) = "rest" from e) (by decide +kernel)
  | .one w v, h, e => by
    cases (show w = "rest" from e)
    exact ⟨v, rfl, h.2⟩
  | .two w s t, h, e => by
    exfalso
    rcases h.1 with rfl | rfl | rfl
    · exact absurd (show ("joined" : Str) = "rest" from e) (by decide +kernel)
    · exact absurd (show ("cut" : Str) = "rest" from e) (by decide +kernel)
    · exact absurd (show ("then" : Str) = "rest" from e) (by decide +kernel)
theorem sz_pre : ∀ {t u : Tm}, u ∈ t.pre → u.sz ≤ t.sz
  | .leaf w ss, u, h => by rw [List.mem_singleton.mp h]; exact Nat.le_refl _
  | .one w v, u, h => by
    rcases List.mem_cons.mp h with z | z
    · rw [z]; exact Nat.le_refl _
    · have := sz_pre z
      show u.sz ≤ 1 + v.sz
      omega
  | .two w s t, u, h => by
    rcases List.mem_cons.mp h with z | z
    · rw [z]; exact Nat.le_refl _
    · show u.sz ≤ 1 + s.sz + t.sz
      rcases List.mem_append.mp z with z | z
      · have := sz_pre z
        omega
      · have := sz_pre z
        omega
/-- a def that tells a Bool of a term -/
def spBo (K : PySem.W.Frag) (g : Tm → Bool) : Sp := fun vs H Q _ => ∃ (a : Addr) (t : Tm), vs = [.ref a] ∧ TmAt K H a t ∧ Rt t ∧ t.sz ≤ 400 ∧ ∀ H', Same H H' → Q (.bl (g t)) H'
abbrev NHN : List Str := ["term", "words", "_", "part"]
theorem scHN : FnScope NHN ["term", "words"] (defScope sHasNoneOf) := ⟨rfl, rfl, rfl, by decide +kernel, rfl, by decide +kernel, by decide +kernel⟩
def spHN (K : PySem.W.Frag) : Sp := fun vs H Q _ => ∃ (a w : Addr) (t : Tm) (ws : List Str), vs = [.ref a, .ref w] ∧ TmAt K H a t ∧ Rt t ∧ t.sz ≤ 400 ∧ SqT K H w (ws.map V.str) ∧ ∀ H', Same H H' → Q (.bl (noneOf ws t)) H'
theorem scIF : FnScope ["term"] ["term"] (defScope sIsFlat) := ⟨rfl, rfl, rfl, by decide +kernel, rfl, by decide +kernel, by decide +kernel⟩
theorem scIS : FnScope ["term"] ["term"] (defScope sIsShort) := ⟨rfl, rfl, rfl, by decide +kernel, rfl, by decide +kernel, by decide +kernel⟩
abbrev NIK : List Str := ["term", "_", "part"]
theorem scIK : FnScope NIK ["term"] (defScope sIsKept) := ⟨rfl, rfl, rfl, by decide +kernel, rfl, by decide +kernel, by decide +kernel⟩
section
variable {P : Program} {w : World} {K : PySem.W.Frag} {mg : Str → Option Value} {base : Heap} {f : Addr} {fd : FuncData}
theorem ok_po (F : FnP K "parts_of" sPartsOf f fd) (Y : Fx w K mg) : FnOk P w K mg base CX0 4 f fd ["term"] (spPO K) := by
  obtain ⟨d1, F1⟩ := Y.dPartsChecked
  have b1 := FunD.bindsN (ps := ["frame", "value"]) F1 fun _ _ _ _ _ _ us hl => match us, hl with | [_, _], _ => rfl
  have G1 : FnOk P w K mg base CX0 3 _ d1 ["frame", "value"] (spPC K) := ok_pc F1 Y
  refine okD F scPO (fun vs H Q E h => ?_) (fun cdv A outer s H vs Q E hr h => ?_)
  · obtain ⟨a, t, rfl, _⟩ := h
    rfl
  · have nd := scPO.nd
    refine ⟨_, pss_one (ps_ret (pe_call G1 hr (by rfl) Y.gPartsChecked F1.kp b1 .nil pass0 (pa_cons pe_non (pa_cons (pv 0) pa_nil)))), ?_⟩
    obtain ⟨a, t, rfl, ha, rt, z4, k⟩ := h
    exact ⟨_, rfl, a, t, rfl, ha, rt, z4, k⟩
theorem ok_hn (F : FnP K "_has_none_of" sHasNoneOf f fd) (Y : Fx w K mg) : FnOk P w K mg base CX0 5 f fd ["term", "words"] (spHN K) := by
  obtain ⟨d1, F1⟩ := Y.dPartsOf
  have b1 := FunD.bindsN (ps := ["term"]) F1 fun _ _ _ _ _ _ us hl => match us, hl with | [_], _ => rfl
  have G1 : FnOk P w K mg base CX0 4 _ d1 ["term"] (spPO K) := ok_po F1 Y
  refine okD F scHN (fun vs H Q E h => ?_) (fun cdv A outer s H vs Q E hr h => ?_)
  · obtain ⟨a, w, t, ws, rfl, _⟩ := h
    rfl
  · have nd := scHN.nd
    refine ⟨_, pss_one (ps_ret (pe_callB (cr_all rfl) (by rfl) Y.bAll (by decide +kernel) (pa_cons (pe_lc (own := [("_", 2), ("part", 3)]) (g := gTup K 2 (gCons (gName 2) (gCons (gName 3) gNil))) (tt := tYes) (te := tOp (rIn K true) (tOp (rIxT K) (tVar 3) (tC (.int 0))) (tVar 1)) rfl nd
      (pi_list (pe_call G1 hr (by rfl) Y.gPartsOf F1.kp b1 .nil pass0 (pa_cons (pv 0) pa_nil))) (blkOk_by (N := NHN) (sc := defScope sHasNoneOf) (by decide +kernel))
      (fun _ _ _ _ _ => pg_tup rfl (pgs_cons (pg_name (i := 2) nd rfl (Or.inl rfl)) (pgs_cons (pg_name (i := 3) nd rfl (Or.inl rfl)) pgs_nil))) (fun _ _ _ _ _ => pts_nil)
      (fun _ _ _ _ _ => pe_cmpR op_notIn_seq (pe_ix ix_tup (pv 3) pe_int (fun _ _ => rfl)) (pv 1) (by rfl))) pa_nil))), ?_⟩
    obtain ⟨a, wa, t, ws, rfl, ha, rt, z4, hw, k⟩ := h
    refine ⟨_, rfl, a, t, rfl, ha, rt, z4, fun L rs H1 s1 hL eL hP => ⟨L, rfl, ⟨_, SqL.of eL⟩, fun D hD => ?_⟩⟩
    refine lc_list (K := K) (a := L) (xs := rs.map V.ref) (fun i G => G D = some (.lst (((t.pre.take i).map (noneB ws)).map V.bl)) ∧ Same H1 G) ⟨upd_same, same_upd hD⟩ (fun i G _ p => p.2.seq (SqL.of eL)) ?_ ?_
    · rintro i v G hi ⟨e, sm⟩
      obtain ⟨r, er, rfl⟩ := ref_at hi
      obtain ⟨u, eu, q, ua, xs, h1, h2, h3, h4⟩ := hP.get er
      obtain ⟨us, hv, _⟩ := (h4.same sm).view
      have li := (List.getElem?_eq_some_iff.mp eu).1
      rw [pre_len] at li
      refine ⟨r, _, rfl, sqt_same sm h1, rfl, _, _, rfl, _, _, rfl, rfl, rfl, _, rfl, ua, _, 0, _, rfl, rfl, hv, atI_0 _ _, _, rfl, wa, _, rfl, .inr (sqt_same (s1.trans sm) hw), rfl, fl_strs ws, ?_⟩
      refine ⟨_, e, ?_, ?_, same_put hD sm⟩
      · rw [List.length_map, List.length_map, List.length_take, pre_len]
        exact small1000 (by omega)
      · rw [upd_same, List.take_add_one, eu, inV_strs]
        simp [noneB]
    · rintro G ⟨e, sm⟩
      rw [List.length_map, hP.len, List.take_length] at e
      exact ⟨D, _, rfl, SqL.of e, k G (s1.trans sm)⟩
theorem ok_if (F : FnP K "is_flat" sIsFlat f fd) (Y : Fx w K mg) : FnOk P w K mg base CX0 6 f fd ["term"] (spBo K (noneOf NF)) := by
  obtain ⟨d1, F1⟩ := Y.dHasNoneOf
  have b1 := FunD.bindsN (ps := ["term", "words"]) F1 fun _ _ _ _ _ _ us hl => match us, hl with | [_, _], _ => rfl
  have G1 : FnOk P w K mg base CX0 5 _ d1 ["term", "words"] (spHN K) := ok_hn F1 Y
  refine okD F scIF (fun vs H Q E h => ?_) (fun cdv A outer s H vs Q E hr h => ?_)
  · obtain ⟨a, t, rfl, _⟩ := h
    rfl
  · have nd := scIF.nd
    refine ⟨_, pss_one (ps_ret (pe_call G1 hr (by rfl) Y.gHasNoneOf F1.kp b1 .nil pass0 (pa_cons (pv 0) (pa_cons (pe_glob (v := .ref (He.ga K "_NOT_FLAT")) (by rfl) Y.gNOTFLAT rfl) pa_nil)))), ?_⟩
    obtain ⟨a, t, rfl, ha, rt, z4, k⟩ := h
    exact ⟨_, rfl, a, _, t, NF, rfl, ha, rt, z4, He.tupB_ok Y.x11 H, k⟩
theorem ok_ik (F : FnP K "is_kept" sIsKept f fd) (Y : Fx w K mg) : FnOk P w K mg base CX0 7 f fd ["term"] (spBo K keptB) := by
  obtain ⟨d1, F1⟩ := Y.dPartsOf
  obtain ⟨d2, F2⟩ := Y.dIsFlat
  have b1 := FunD.bindsN (ps := ["term"]) F1 fun _ _ _ _ _ _ us hl => match us, hl with | [_], _ => rfl
  have b2 := FunD.bindsN (ps := ["term"]) F2 fun _ _ _ _ _ _ us hl => match us, hl with | [_], _ => rfl
  have G1 : FnOk P w K mg base CX0 4 _ d1 ["term"] (spPO K) := ok_po F1 Y
  have G2 : FnOk P w K mg base CX0 6 _ d2 ["term"] (spBo K (noneOf NF)) := ok_if F2 Y
  refine okD F scIK (fun vs H Q E h => ?_) (fun cdv A outer s H vs Q E hr h => ?_)
  · obtain ⟨a, t, rfl, _⟩ := h
    rfl
  · have nd := scIK.nd
    have hr1 : Room 4 _ := hr.mono (by decide)
    refine ⟨_, pss_one (ps_ret (pe_callB (cr_all rfl) (by rfl) Y.bAll (by decide +kernel) (pa_cons (pe_lc (own := [("_", 1), ("part", 2)]) (g := gTup K 2 (gCons (gName 1) (gCons (gName 2) gNil))) (tt := tTest (tOp rEq (tOp (rIxT K) (tVar 2) (tC (.int 0))) (tC (.str "rest"))))
      (te := tCall (spBo K (noneOf NF)) [] E0 (tCons (tOp (rIxT K) (tVar 2) (tC (.int 1))) tNil)) rfl nd
      (pi_list (pe_call G1 hr1 (by rfl) Y.gPartsOf F1.kp b1 .nil pass0 (pa_cons (pv 0) pa_nil))) (blkOk_by (N := NIK) (sc := defScope sIsKept) (by decide +kernel))
      (fun _ _ _ _ _ => pg_tup rfl (pgs_cons (pg_name (i := 1) nd rfl (Or.inl rfl)) (pgs_cons (pg_name (i := 2) nd rfl (Or.inl rfl)) pgs_nil))) (fun _ _ _ _ _ => pts_one (pt_cmpR op_eq (pe_ix ix_tup (pv 2) pe_int (fun _ _ => rfl)) pe_str (nomark _)))
      (fun _ _ _ _ _ => pe_call G2 hr (by rfl) Y.gIsFlat F2.kp b2 .nil pass0 (pa_cons (pe_ix ix_tup (pv 2) pe_int (fun _ _ => rfl)) pa_nil))) pa_nil))), ?_⟩
    obtain ⟨a, t, rfl, ha, rt, z4, k⟩ := h
    refine ⟨_, rfl, a, t, rfl, ha, rt, z4, fun L rs H1 s1 hL eL hP => ⟨L, rfl, ⟨_, SqL.of eL⟩, fun D hD => ?_⟩⟩
    refine lc_list (K := K) (a := L) (xs := rs.map V.ref) (fun i G => G D = some (.lst (((rkO (t.pre.take i)).map (noneOf NF)).map V.bl)) ∧ (rkO (t.pre.take i)).length ≤ i ∧ Same H1 G) ⟨upd_same, Nat.le_refl _, same_upd hD⟩ (fun i G _ p => p.2.2.seq (SqL.of eL)) ?_ ?_
    · rintro i v G hi ⟨e, ln, sm⟩
      obtain ⟨r, er, rfl⟩ := ref_at hi
      obtain ⟨u, eu, q, ua, xs, h1, h2, h3, h4⟩ := hP.get er
      obtain ⟨us, hv, _⟩ := (h4.same sm).view
      have li := (List.getElem?_eq_some_iff.mp eu).1
      rw [pre_len] at li
      have hu := List.mem_of_getElem? eu
      have hsu := sz_pre hu
      have hRu := rt.pre u hu
      refine ⟨r, _, rfl, sqt_same sm h1, rfl, _, _, rfl, _, _, rfl, rfl, rfl, ?_⟩
      refine ⟨_, rfl, ua, _, 0, _, rfl, rfl, hv, atI_0 _ _, rfl, _, rfl, ite2 (fun hc => ?_) (fun hc => ?_)⟩
      · have ew : u.hd = "rest" := by
          have z : V.str u.hd = V.str "rest" := of_decide_eq_true hc
          injection z
        obtain ⟨v, rfl, rv⟩ := hRu.rest ew
        obtain ⟨b, hb1, hb2⟩ := h4.same sm
        refine ⟨_, rfl, ua, _, 1, _, rfl, rfl, hb1, rfl, b, v, rfl, hb2, rv, (by have z : 1 + v.sz ≤ t.sz := hsu; omega), fun G2 s2 => ?_⟩
        refine ⟨_, s2 _ _ e, ?_, ?_, ?_, same_put hD (sm.trans s2)⟩
        · rw [List.length_map, List.length_map]
          exact small1000 (by omega)
        · rw [upd_same, rk_yes eu (decide_eq_true rfl), List.map_append, List.map_append]
          rfl
        · rw [rk_yes eu (decide_eq_true rfl), List.length_append]
          exact Nat.succ_le_succ ln
      · have z : isRest u = false := by
          refine Bool.eq_false_iff.mpr fun z => hc ?_
          have z2 : u.hd = "rest" := of_decide_eq_true z
          show decide (V.str u.hd = V.str "rest") = true
          rw [z2]
          exact decide_eq_true rfl
        refine ⟨?_, ?_, sm⟩
        · rw [rk_no eu z]
          exact e
        · rw [rk_no eu z]
          exact Nat.le_succ_of_le ln
    · rintro G ⟨e, _, sm⟩
      rw [List.length_map, hP.len, List.take_length] at e
      exact ⟨D, _, rfl, SqL.of e, k G (s1.trans sm)⟩
theorem ok_is (F : FnP K "is_short" sIsShort f fd) (Y : Fx w K mg) : FnOk P w K mg base CX0 8 f fd ["term"] (spBo K (fun t => keptB t && noneOf NSh t)) := by
  obtain ⟨d1, F1⟩ := Y.dHasNoneOf
  obtain ⟨d2, F2⟩ := Y.dIsKept
  have b1 := FunD.bindsN (ps := ["term", "words"]) F1 fun _ _ _ _ _ _ us hl => match us, hl with | [_, _], _ => rfl
  have b2 := FunD.bindsN (ps := ["term"]) F2 fun _ _ _ _ _ _ us hl => match us, hl with | [_], _ => rfl
  have G1 : FnOk P w K mg base CX0 5 _ d1 ["term", "words"] (spHN K) := ok_hn F1 Y
  have G2 : FnOk P w K mg base CX0 7 _ d2 ["term"] (spBo K keptB) := ok_ik F2 Y
  refine okD F scIS (fun vs H Q E h => ?_) (fun cdv A outer s H vs Q E hr h => ?_)
  · obtain ⟨a, t, rfl, _⟩ := h
    rfl
  · have nd := scIS.nd
    have hr1 : Room 5 _ := hr.mono (by decide)
    refine ⟨_, pss_one (ps_ret (pe_and (pe_call G2 hr (by rfl) Y.gIsKept F2.kp b2 .nil pass0 (pa_cons (pv 0) pa_nil)) (pe_one (pe_call G1 hr1 (by rfl) Y.gHasNoneOf F1.kp b1 .nil pass0 (pa_cons (pv 0) (pa_cons (pe_glob (v := .ref (He.ga K "_NOT_SHORT")) (by rfl) Y.gNOTSHORT rfl) pa_nil)))))), ?_⟩
    obtain ⟨a, t, rfl, ha, rt, z4, k⟩ := h
    refine ⟨_, rfl, a, t, rfl, ha, rt, z4, fun H1 s1 => ⟨_, rfl, ite2 (fun hc => ?_) (fun hc => ?_)⟩⟩
    · refine ⟨_, rfl, a, _, t, NSh, rfl, ha.same s1, rt, z4, He.tupB_ok Y.x12 H1, fun H2 s2 => ?_⟩
      have z : Q (.bl (keptB t && noneOf NSh t)) H2 := k H2 (s1.trans s2)
      rw [hc, Bool.true_and] at z
      exact z
    · have z : Q (.bl (keptB t && noneOf NSh t)) H1 := k H1 s1
      rw [Bool.eq_false_iff.mpr hc, Bool.false_and] at z
      exact z
end
end K43

namespace K43
open PySem PySem.Spec PyProof.Rows L2 Ow Xv
/-! ### the drawn frame, and what stands in the made one -/
section
variable {xs : List Str} {ls : List Lt} {ts : List Tt}
theorem due_rd (e : badN (xs ++ ls.map (·.1)) = none) (e1 : again xs = none) (e2 : again (ls.map (·.1)) = none) (e3 : badE xs ls = none) (e4 : badT (ls.map (·.1)) ts = none) (e5 : badF ts = none) : dueF xs ls ts = if rnd (stepsOf ls ts) xs = [] then none else some (.rd (rnd (stepsOf ls ts) xs)) := by
  unfold dueF; rw [e]; dsimp only; rw [e1]; dsimp only; rw [e2]; dsimp only; rw [e3]; dsimp only; rw [e4]; dsimp only; rw [e5]
end
theorem okx_wd {x : Str} (h : Wd x) : Okx x := ⟨by have := h.hi; omega, h.lay⟩
theorem isW_wd {x : Str} (h : Wd x) : isW x = true := by
  obtain ⟨c, ec⟩ : ∃ c, x.cps[0]? = some c := ⟨x.cps[0]'(show 0 < x.cps.size from h.lo), Array.getElem?_eq_getElem _⟩
  unfold isW
  rw [decide_eq_true h.lo, decide_eq_true h.hi, ec]
  show (true && (true && (inC LT c && x.cps.toList.all (inC SG)))) = true
  have e1 : inC LT c = true := decide_eq_true (h.h c ec)
  have e2 : x.cps.toList.all (inC SG) = true := List.all_eq_true.mpr fun c hc => by
    obtain ⟨i, hi, e⟩ := List.getElem_of_mem hc
    exact decide_eq_true (h.s i c (by rw [← Array.getElem?_toList, List.getElem?_eq_getElem hi, e]))
  rw [e1, e2]
  rfl
theorem firstL_all {α β : Type} {f : Nat → α → Option β} {xs : List α} (h : ∀ i x, xs[i]? = some x → f i x = none) : firstL f xs = none := by
  have key : ∀ n, firstN (fun i => xs[i]?.bind (f i)) n = none := fun n => by
    induction n with
    | zero => rfl
    | succ n ih =>
      refine firstN_step ih ?_
      cases e : xs[n]? with
      | none => rfl
      | some x => exact h n x e
  exact key _
def rk (x : Str) : Nat := x.cps.getD 0 0 - 97
theorem abc_rk : (ABC.all fun x => ABC.all fun y => decide (decide (y.cps.toList < x.cps.toList) = decide (rk y < rk x)) && (decide (x = y) || decide (rk x ≠ rk y))) = true := by decide +kernel
theorem abc_at : (((List.range 4).all fun n => (ABC.take n).all fun x => decide (rk x < n)) && decide (ABC.length = 3)) = true := by decide +kernel
def totOf (q : Lt) : Tt := (q.1, if q.2.2.cps.toList < q.2.1.cps.toList then "back" else "on")
theorem step_tot {q : Lt} (h1 : q.2.1 ∈ ABC) (h2 : q.2.2 ∈ ABC) (ne : q.2.1 ≠ q.2.2) : rk (stepOf q (totOf q)).1 < rk (stepOf q (totOf q)).2 := by
  obtain ⟨z1, z2⟩ := an (List.all_eq_true.mp (List.all_eq_true.mp abc_rk _ h1) _ h2)
  have z3 := of_decide_eq_true z1
  have z4 : rk q.2.1 ≠ rk q.2.2 := by
    rw [decide_eq_false ne, Bool.false_or] at z2
    exact of_decide_eq_true z2
  unfold stepOf totOf
  dsimp only
  by_cases c : q.2.2.cps.toList < q.2.1.cps.toList
  · rw [if_pos c, if_neg (by decide +kernel)]
    rw [decide_eq_true c] at z3
    exact of_decide_eq_true z3.symm
  · rw [if_neg c, if_pos rfl]
    rw [decide_eq_false c] at z3
    have := of_decide_eq_false z3.symm
    show rk q.2.1 < rk q.2.2
    omega
theorem leadN_rk {S : List Tt} {xs : List Str} {n : Nat} (hS : ∀ p ∈ S, rk p.1 < rk p.2) (hx : ∀ x ∈ xs, rk x < n) : ∀ k, ∀ x ∈ leadN S k xs, rk x + k < n := fun k => by
  induction k with
  | zero => exact fun x h => hx x h
  | succ k ih =>
    intro x h
    obtain ⟨h1, h2⟩ := List.mem_filter.mp h
    obtain ⟨y, hy, e⟩ := List.any_eq_true.mp h2
    have a := hS _ (of_decide_eq_true e)
    have b := ih y hy
    dsimp only at a
    omega
theorem find_nd {ls : List Lt} (nd : (ls.map (·.1)).Nodup) {q : Lt} (h : q ∈ ls) : endOf ls q.1 = q := by
  obtain ⟨m1, m2⟩ := endOf_ok (List.mem_map.mpr ⟨q, h, rfl⟩ : q.1 ∈ ls.map (·.1))
  obtain ⟨i, hi, ei⟩ := List.getElem_of_mem m1
  obtain ⟨j, hj, ej⟩ := List.getElem_of_mem h
  have : i = j := by
    by_cases e : i = j
    · exact e
    · exfalso
      rcases Nat.lt_or_gt_of_ne e with l | l
      · exact List.pairwise_iff_getElem.mp nd i j (by rw [List.length_map]; exact hi) (by rw [List.length_map]; exact hj) l (by rw [List.getElem_map, List.getElem_map, ei, ej, m2])
      · exact List.pairwise_iff_getElem.mp nd j i (by rw [List.length_map]; exact hj) (by rw [List.length_map]; exact hi) l (by rw [List.getElem_map, List.getElem_map, ei, ej, m2])
  subst this
  rw [← ei, ej]
/-- drawn sorts, letters, and the letters that are totals -/
structure Drawn (xs : List Str) (ls us : List Lt) : Prop where
  ok : FrOk xs ls
  ab : ∀ x ∈ xs, x ∈ ABC ∧ rk x < xs.length
  el : ∀ q ∈ us, q ∈ ls ∧ q.2.1 ≠ q.2.2
  nd : (us.map (·.1)).Nodup
  lu : us.length ≤ 16
theorem Drawn.good {xs : List Str} {ls us : List Lt} (h : Drawn xs ls us) : GdF xs ls (us.map totOf) := by
  have ok := h.ok
  have l16 : ls.length ≤ 16 := by have := ok.nl.n; rw [List.length_map] at this; exact this
  have wl : ∀ q ∈ ls, Wd q.1 := fun q hq => ok.nl.w _ (List.mem_map.mpr ⟨q, hq, rfl⟩)
  have e1 : badN (xs ++ ls.map (·.1)) = none := firstL_all fun i x hx => if_pos (isW_wd (by
    rcases List.mem_append.mp (List.mem_of_getElem? hx) with z | z
    · exact ok.nx.w x z
    · exact ok.nl.w x z))
  have e2 : again xs = none := again_nodup.mpr ok.nx.nd
  have e3 : again (ls.map (·.1)) = none := again_nodup.mpr ok.nl.nd
  have e4 : badE xs ls = none := firstL_all fun i q hq => by
    obtain ⟨a, b⟩ := ok.ends q (List.mem_of_getElem? hq)
    rw [if_neg (fun z => z a), if_neg (fun z => z b)]
  have e5 : badT (ls.map (·.1)) (us.map totOf) = none := firstL_all fun i q hq => by
    obtain ⟨u, hu', rfl⟩ := List.mem_map.mp (List.mem_of_getElem? hq)
    exact if_neg fun z => z (List.mem_map.mpr ⟨u, (h.el u hu').1, rfl⟩)
  have e6 : badF (us.map totOf) = none := firstL_all fun i q hq => by
    have hw : q.2 = ("on" : Str) ∨ q.2 = ("back" : Str) := by
      obtain ⟨u, hu', rfl⟩ := List.mem_map.mp (List.mem_of_getElem? hq)
      unfold totOf
      dsimp only
      by_cases c : u.2.2.cps.toList < u.2.1.cps.toList
      · exact .inr (if_pos c)
      · exact .inl (if_neg c)
    refine if_neg fun z => ?_
    rcases z with ⟨z1, z2⟩ | z
    · exact hw.elim z1 z2
    · obtain ⟨j, hj, ej⟩ := List.getElem_of_mem z
      rw [List.length_take] at hj
      rw [List.getElem_take] at ej
      obtain ⟨li, ei⟩ := List.getElem?_eq_some_iff.mp hq
      rw [List.length_map] at li
      rw [List.getElem_map] at ej ei
      refine List.pairwise_iff_getElem.mp h.nd j i (by rw [List.length_map]; omega) (by rw [List.length_map]; exact li) (by omega) ?_
      rw [List.getElem_map, List.getElem_map]
      have a : (totOf us[j]).1 = (totOf us[i]).1 := by rw [ej, ei]
      exact a
  have hS : ∀ p ∈ stepsOf ls (us.map totOf), rk p.1 < rk p.2 := fun p hp => by
    unfold stepsOf at hp
    rw [List.map_map] at hp
    obtain ⟨u, hu', rfl⟩ := List.mem_map.mp hp
    obtain ⟨hul, ne⟩ := h.el u hu'
    show rk (stepOf (endOf ls u.1) (totOf u)).1 < rk (stepOf (endOf ls u.1) (totOf u)).2
    rw [find_nd ok.nl.nd hul]
    obtain ⟨a, b⟩ := ok.ends u hul
    exact step_tot (h.ab _ a).1 (h.ab _ b).1 ne
  have e7 : rnd (stepsOf ls (us.map totOf)) xs = [] := by
    unfold rnd
    cases z : leadN (stepsOf ls (us.map totOf)) xs.length xs with
    | nil => rfl
    | cons a l =>
      have := leadN_rk hS (fun x hx => (h.ab x hx).2) xs.length a (by rw [z]; exact List.mem_cons_self)
      omega
  have lx := ok.nx.n
  have lu := h.lu
  refine ⟨⟨fun x h => okx_wd (ok.nx.w x h), fun q hq => ⟨okx_wd (wl q hq), okx_wd (ok.nx.w _ (ok.ends q hq).1), okx_wd (ok.nx.w _ (ok.ends q hq).2)⟩, fun q hq => ?_, by omega, by omega, by rw [List.length_map]; omega⟩, by rw [due_rd e1 e2 e3 e4 e5 e6, if_pos e7]⟩
  obtain ⟨u, hu', rfl⟩ := List.mem_map.mp hq
  refine ⟨okx_wd (wl u (h.el u hu').1), ?_⟩
  have w1 : Wd ("on" : Str) := wd_of (by decide +kernel)
  have w2 : Wd ("back" : Str) := wd_of (by decide +kernel)
  unfold totOf
  dsimp only
  by_cases c : u.2.2.cps.toList < u.2.1.cps.toList
  · rw [if_pos c]
    exact okx_wd w2
  · rw [if_neg c]
    exact okx_wd w1
theorem drawn_of {xs : List Str} {ls us : List Lt} {n : Nat} (ok : FrOk xs ls) (ex : xs = ABC.take n) (n3 : n ≤ 3) (hu : us.Sublist ls) (ne : ∀ q ∈ us, q.2.1 ≠ q.2.2) : Drawn xs ls us := by
  obtain ⟨f1, f2⟩ := an abc_at
  have lx : xs.length = n := by rw [ex, List.length_take, of_decide_eq_true f2]; omega
  have l16 : ls.length ≤ 16 := by have := ok.nl.n; rw [List.length_map] at this; exact this
  refine ⟨ok, fun x h => ?_, fun q hq => ⟨hu.subset hq, ne q hq⟩, ok.nl.nd.sublist (hu.map _), by have := hu.length_le; omega⟩
  rw [lx]
  rw [ex] at h
  exact ⟨List.mem_of_mem_take h, of_decide_eq_true (List.all_eq_true.mp (List.all_eq_true.mp f1 n (List.mem_range.mpr (by omega))) x h)⟩
theorem TupsT.tups' {K : PySem.W.Frag} {H : Hp} {l : Addr} {us : List Addr} {vss : List (List V)} (e : SqA K H l (us.map V.ref)) (h : AllT K H us vss) : TupsA K H l vss := ⟨us, e, h.1, h.2⟩
theorem TupsA.of {K : PySem.W.Frag} {H : Hp} {l : Addr} {vss : List (List V)} (h : TupsAt K H l vss) : TupsA K H l vss := by
  obtain ⟨as, a, b, c⟩ := h
  exact ⟨as, .inl a, b, c⟩
section
variable {K : PySem.W.Frag} {H : Hp} {d c x D : Addr} {xs : List Str} {ls : List Lt} {ts : List Tt}
theorem sqt_hid {a : Addr} {xs : List V} (src : SrcAt H d c) (h : SqT K H a xs) : SqT K (hid d c H) a xs := by
  obtain ⟨ns, l, m, t, h1, _, h3⟩ := src
  rcases h with (h | ⟨o, h⟩) | h
  · exact .inl (.inl ((hid_at (fun e => by rw [e, h3] at h; cases h) (fun e => by rw [e, h1] at h; cases h)).trans h))
  · exact .inl (.inr ⟨o, (hid_at (fun e => by rw [e, h3] at h; cases h) (fun e => by rw [e, h1] at h; cases h)).trans h⟩)
  · exact .inr h
theorem kvL_skv {l m t : Int} : ∀ (ls : List Lt) (as : List Addr), kvL ls as ≠ skv c l m t
  | [], _, h => by cases h
  | _ :: _, [], h => by cases h
  | q :: [], a :: as, h => by
    injection h with h1 h2
    cases h2
  | q :: p :: ls, [a], h => by
    injection h with h1 h2
    cases h2
  | q :: p :: ls, a :: b :: as, h => by
    injection h with h1 h2
    injection h2 with h3 h4
    injection h3 with h5 h6
    cases h6
theorem FrmAt.hid (src : SrcAt H d c) (h : FrmAt K H x xs ls ts) : FrmAt K (hid d c H) x xs ls ts := by
  obtain ⟨dx, s, l, t, m, h1, h2, ⟨as, h3, h6⟩, ⟨bs, h4, h7⟩, ⟨ws, h5, h8, h9⟩⟩ := h
  obtain ⟨ns, l', m', t', g1, _, g3⟩ := id src
  refine ⟨dx, s, l, t, m, ?_, sqt_hid src h2, ⟨as, sqt_hid src h3, h6.1, fun i u e => ?_⟩, ⟨bs, sqt_hid src h4, h7.1, fun i u e => ?_⟩, ⟨ws, ?_, h8, fun i u e => ?_⟩⟩
  · exact (hid_at (fun e => by rw [e, g3] at h1; cases h1) (fun e => by rw [e, g1] at h1; cases h1)).trans h1
  · obtain ⟨vs, a, b⟩ := h6.2 i u e
    exact ⟨vs, a, sqt_hid src b⟩
  · obtain ⟨vs, a, b⟩ := h7.2 i u e
    exact ⟨vs, a, sqt_hid src b⟩
  · refine (hid_at (fun e => ?_) (fun e => by rw [e, g1] at h5; cases h5)).trans h5
    rw [e, g3] at h5
    injection h5 with h5
    injection h5 with h5
    exact kvL_skv ls ws h5.symm
  · obtain ⟨q, a, b⟩ := h9 i u e
    exact ⟨q, a, sqt_hid src b⟩
theorem FrmAt.putL {o : HO} {zs : List V} (e : H D = some (.lst zs)) (h : FrmAt K H x xs ls ts) : FrmAt K (upd H D o) x xs ls ts := by
  obtain ⟨dx, s, l, t, m, h1, h2, ⟨as, h3, h6⟩, ⟨bs, h4, h7⟩, ⟨ws, h5, h8, h9⟩⟩ := h
  refine ⟨dx, s, l, t, m, ?_, sqt_put e h2, ⟨as, sqt_put e h3, h6.put e⟩, ⟨bs, sqt_put e h4, h7.put e⟩, ⟨ws, ?_, h8, fun i u e2 => ?_⟩⟩
  · exact (upd_ne fun z => by rw [z, e] at h1; cases h1).trans h1
  · exact (upd_ne fun z => by rw [z, e] at h5; cases h5).trans h5
  · obtain ⟨q, a, b⟩ := h9 i u e2
    exact ⟨q, a, sqt_put e b⟩
theorem cat_any {a b : Addr} {ys zs : List V} {Q : VK} (h1 : SqT K H a ys) (h2 : SqT K H b zs) (l : ys.length + zs.length ≤ 1000) (k : ∀ (T : Addr) (H' : Hp), Same H H' → SqT K H' T (ys ++ zs) → Q (.ref T) H') : rCatA K (.ref a) (.ref b) H Q :=
  ⟨a, b, ys, zs, rfl, rfl, h1, h2, szl l, fun e => k b H (Same.refl _) (by rw [e]; exact h2), fun _ e => k a H (Same.refl _) (by rw [e, List.append_nil]; exact h1), fun _ _ p hp => k p _ (same_upd hp) (SqT.of upd_same)⟩
end
def TupsM (K : PySem.W.Frag) (H : Hp) (l : Addr) (vss : List (List V)) : Prop := ∃ as : List Addr, H l = some (.lst (as.map V.ref)) ∧ AllT K H as vss
theorem TupsM.same {K : PySem.W.Frag} {H H' : Hp} {l : Addr} {vss : List (List V)} (s : Same H H') (h : TupsM K H l vss) : TupsM K H' l vss := by
  obtain ⟨as, e, g⟩ := h
  exact ⟨as, s _ _ e, g.same s⟩
theorem TupsM.at_ {K : PySem.W.Frag} {H : Hp} {l : Addr} {vss : List (List V)} (h : TupsM K H l vss) : TupsAt K H l vss := by
  obtain ⟨as, e, g⟩ := h
  exact g.tups (SqL.of e)
/-- the made frame -/
def MdAt (K : PySem.W.Frag) (H : Hp) (e : Addr) (xs : List Str) (ls : List Lt) (ts : List Tt) (b : Addr) : Prop := (∃ s m o t, H e = some (.dK (frV s m o t b)) ∧ TupsM K H t (ts.map ttV)) ∧ FrmAt K H b xs ls ts ∧ GdF xs ls ts
theorem MdAt.same {K : PySem.W.Frag} {H H' : Hp} {e b : Addr} {xs : List Str} {ls : List Lt} {ts : List Tt} (s : Same H H') (h : MdAt K H e xs ls ts b) : MdAt K H' e xs ls ts b := by
  obtain ⟨⟨a, m, o, t, h1, h4⟩, h2, h3⟩ := h
  exact ⟨⟨a, m, o, t, s _ _ h1, h4.same s⟩, h2.same s, h3⟩
/-- a frame, with any totals -/
def FrmA (K : PySem.W.Frag) (H : Hp) (x : Addr) (xs : List Str) (ls : List Lt) : Prop := ∃ ts, FrmAt K H x xs ls ts
theorem FrmA.same {K : PySem.W.Frag} {H H' : Hp} {x : Addr} {xs : List Str} {ls : List Lt} (s : Same H H') (h : FrmA K H x xs ls) : FrmA K H' x xs ls := let ⟨ts, h⟩ := h; ⟨ts, h.same s⟩
theorem FrmA.putL {K : PySem.W.Frag} {H : Hp} {D x : Addr} {xs : List Str} {ls : List Lt} {o : HO} {zs : List V} (e : H D = some (.lst zs)) (h : FrmA K H x xs ls) : FrmA K (upd H D o) x xs ls := let ⟨ts, h⟩ := h; ⟨ts, h.putL e⟩
theorem fr_made {H : Hp} {d s m o t b : Addr} (h : H d = some (.dK (frV s m o t b))) : DGet H d (.str "made") (some (.ref b)) := by
  have z : DGet H d (kV (.inr "made")) (valV (frV s m o t b) (.inr "made")) := DGet.k h
  rw [show valV (frV s m o t b) (.inr "made") = some (.ref b) from rfl] at z
  exact z
def spFd3 (K : PySem.W.Frag) : Sp := fun vs H Q _ => ∃ (s o m t : Addr) (xs : List Str) (ls : List Lt) (ts : List Tt), vs = [.ref s, .ref o, .ref m, .ref t] ∧ H s = some (.lst (xs.map V.str)) ∧ SqL K H o ((ls.map (·.1)).map V.str) ∧ LdAt K H m ls ∧ TupsAt K H t (ts.map ttV) ∧ GdF xs ls ts ∧
  ∀ d b H', H d = none → Same H H' → H' d = some (.dK (frV s m o t b)) → FrmAt K H' b xs ls ts → Q (.ref d) H'
def spFr3 (K : PySem.W.Frag) : Sp := fun vs H Q _ => ∃ (d c : Addr) (n m : Nat), vs = [.ref d, .int (n : Int), .int (m : Int)] ∧ SrcAt H d c ∧ 1 ≤ n ∧ n ≤ 3 ∧ 1 ≤ m ∧ m ≤ 8 ∧
  ∀ (e b : Addr) (xs : List Str) (ls : List Lt) (H' : Hp), SrcAt H' d c → Same (hid d c H) (hid d c H') → FrAt K (hid d c H') e xs ls → MdAt K (hid d c H') e xs ls [] b → xs = ABC.take n → ls.length = m → Q (.ref e) H'
section
variable {P : Program} {w : World} {K : PySem.W.Frag} {mg : Str → Option Value} {base : Heap} {f : Addr} {fd : FuncData}
/-- what C(..) of such lists asks and tells -/
theorem mk_fr2 {H : Hp} {s l t : Addr} {xs : List Str} {ls : List Lt} {ts : List Tt} {Q : Addr → Hp → Prop} {E : XK} (hs : SqA K H s (xs.map V.str)) (hl : TupsA K H l (ls.map ltV)) (ht : TupsA K H t (ts.map ttV)) (ok : FrIn xs ls ts) (kE : ∀ f, dueF xs ls ts = some f → RaisedF K H E f)
    (k : dueF xs ls ts = none → ∀ b H', Same H H' → H b = none → FrmAt K H' b xs ls ts → Q b H') :
    ∀ x dx, H x = none → H dx = none → dx ≠ x → spFI2 K (.ref x :: ([.ref s, .ref l, .ref t] ++ [])) (upd (upd H dx (.own x)) x (.ins (CFrame K) dx [])) (fun v H2 => v = .non ∧ Q x H2) E := fun x dx hx hd nd => by
  have s0 : Same H (upd (upd H dx (.own x)) x (.ins (CFrame K) dx [])) := same_new hx hd .refl
  have nn : ∀ {d : Addr}, upd (upd H dx (.own x)) x (.ins (CFrame K) dx []) d = none → H d = none := none_of s0
  refine ⟨x, s, l, t, dx, xs, ls, ts, rfl, upd_same, hs.same s0, hl.same s0, ht.same s0, ok, fun f e => ?_, fun e H' kk hF => ⟨rfl, k e x H' (same_new hx hd kk) hx hF⟩⟩
  have z := kE f e
  cases f with
  | nm y => exact fun d H' s' hd' e' => z d H' (s0.trans s') (nn hd') e'
  | tw y => exact fun d H' s' hd' e' => z d H' (s0.trans s') (nn hd') e'
  | un y => exact fun d H' s' hd' e' => z d H' (s0.trans s') (nn hd') e'
  | fr y => exact fun d H' s' hd' e' => z d H' (s0.trans s') (nn hd') e'
  | rd ys => exact fun d T H' s' hd' e' hT => z d T H' (s0.trans s') (nn hd') e' hT
theorem ok_fd3 (F : FnP K "_law_framed" sLawFramed f fd) (Y : Fx w K mg) : FnOk P w K mg base CX0 6 f fd ["_law_every", "_law_order", "_law_letters", "_law_totals"] (spFd3 K) := by
  obtain ⟨d2, F2⟩ := Y.dFrame_Init
  have b2 := FunD.bindsN (ps := ["self", "sorts", "letters", "totals"]) F2 fun _ _ _ _ _ _ us hl => match us, hl with | [_, _, _, _], _ => rfl
  have G2 : FnOk P w K mg base (L2.CX P w) 4 _ d2 ["self", "sorts", "letters", "totals"] (spFI2 K) := ok_fi2 F2 Y
  refine okD F scFd (fun vs H Q E h => ?_) (fun cdv A outer s H vs Q E hr h => ?_)
  · obtain ⟨s, o, m, t, xs, ls, ts, rfl, _⟩ := h
    rfl
  · have nd := scFd.nd
    have hu := hu_of hr
    refine ⟨_, pss_cons (ps_set (i := 4) nd rfl (Or.inl rfl) (pe_make Y.mFrame G2 hr (by rfl) Y.gFrame b2 .nil passX (pa_cons (pv 0) (pa_cons
        (pe_lc (own := [("_law_name", 5)]) (g := gName 5) (tt := tYes) (te := tTup (tCons (tVar 5) (tCons (tOp (rIxT K) (tDGet (tVar 2) (tVar 5)) (tC (.int 0))) (tCons (tOp (rIxT K) (tDGet (tVar 2) (tVar 5)) (tC (.int 1))) tNil)))) rfl nd (pi_list (pv 1)) (blkOk_by (N := NFd) (sc := defScope sLawFramed) (by decide +kernel)) (fun _ _ _ _ _ => pg_name (i := 5) nd rfl (Or.inl rfl)) (fun _ _ _ _ _ => pts_nil)
          (fun _ _ _ _ _ => pe_tup (pa_cons (pv 5) (pa_cons (pe_ix ix_tup (pe_dget hu (pv 2) (pv 5) nosl) pe_int (fun _ _ => rfl)) (pa_cons (pe_ix ix_tup (pe_dget hu (pv 2) (pv 5) nosl) pe_int (fun _ _ => rfl)) pa_nil))))) (pa_cons (pv 3) pa_nil)))))
      (pss_one (ps_ret (pe_disp (pps_cons pe_str (pv 0) (pps_cons pe_str (pv 2) (pps_cons pe_str (pv 1) (pps_cons pe_str (pv 3) (pps_cons pe_str (pv 4) pps_nil))))) rfl rfl (by simp) (by decide)))), ?_⟩
    obtain ⟨s, o, m, t, xs, ls, ts, rfl, hs, ho, hm, ht, ok, k⟩ := h
    refine ⟨_, rfl, _, rfl, o, rfl, ⟨_, ho⟩, fun D hD => ?_⟩
    refine lc_list (K := K) (a := o) (xs := (ls.map (·.1)).map V.str) (fun i G => ∃ us : List Addr, G D = some (.lst (us.map V.ref)) ∧ AllT K G us ((ls.take i).map ltV) ∧ Same H G) ⟨[], upd_same, AllT.nil, same_upd hD⟩ (fun i G _ p => by obtain ⟨us, _, _, p⟩ := p; exact p.seq ho) ?_ ?_
    · rintro i v G hi ⟨us, e, hA, sm⟩
      obtain ⟨x, ex, rfl⟩ := str_at hi
      obtain ⟨q, eq, rfl⟩ : ∃ q, ls[i]? = some q ∧ x = q.1 := by
        rw [List.getElem?_map] at ex
        cases z : ls[i]? with
        | none => rw [z] at ex; cases ex
        | some q => rw [z] at ex; exact ⟨q, rfl, (Option.some.inj ex).symm⟩
      obtain ⟨tt, dg, st⟩ := (hm.same sm).get ok.nd eq
      have li := (List.getElem?_eq_some_iff.mp eq).1
      have n60 := ok.fi.ll
      refine ⟨rfl, _, rfl, ?_⟩
      refine ⟨_, rfl, _, rfl, m, .ref tt, rfl, dg, tt, _, 0, _, rfl, rfl, st, rfl, ?_⟩
      refine ⟨_, rfl, _, rfl, m, .ref tt, rfl, dg, tt, _, 1, _, rfl, rfl, st, rfl, ?_⟩
      refine ⟨szl (by show 3 ≤ 1000; decide), fun T hT => ?_⟩
      have e2 := same_upd (o := .tup [V.str q.1, V.str q.2.1, V.str q.2.2]) hT _ _ e
      refine ⟨_, e2, ?_, us ++ [T], ?_, ?_, same_put hD (sm.trans (same_upd hT))⟩
      · have z := hA.1
        rw [List.length_map, List.length_take] at z
        rw [List.length_map]
        exact small1000 (by omega)
      · rw [upd_same, List.map_append]
        rfl
      · rw [List.take_add_one, eq, List.map_append]
        exact ((hA.same (same_upd hT)).snoc (SqT.of upd_same)).put e2
    rintro G ⟨us, e, hA, sm⟩
    rw [List.length_map, List.length_map, List.take_length] at hA
    refine ⟨_, rfl, ?_⟩
    refine mk_fr2 (.inl (sm.seq (SqL.of hs))) (TupsT.tups' (.inl (SqL.of e)) hA) (TupsA.of (ht.same sm)) ok.fi (fun f e => by rw [ok.no] at e; cases e) fun _ b H1 s1 _ hF => ?_
    replace s1 := sm.trans s1
    intro p hp
    refine ⟨_, rfl, _, rfl, _, rfl, _, rfl, _, rfl, upd_same, frV s m o t b, rfl, (show 5 ≤ 15 by decide), ?_⟩
    rw [show mergeK [] (frV s m o t b) = frV s m o t b from rfl, upd_upd]
    have s2 := s1.trans (same_upd (o := .dK (frV s m o t b)) hp)
    exact k p b _ (none_of s1 hp) s2 upd_same (hF.same (same_upd hp))
theorem ok_fr3 (F : FnP K "_law_frame" sLawFrame f fd) (Y : Fx w K mg) : FnOk P w K mg base CX0 7 f fd ["_law_source_here", "_law_sorts", "_law_letters"] (spFr3 K) := by
  obtain ⟨d1, F1⟩ := Y.dLawPick
  obtain ⟨d2, F2⟩ := Y.dLawNames
  obtain ⟨d3, F3⟩ := Y.dLawFramed
  have b1 := FunD.bindsN (ps := ["_law_source_here", "_law_many"]) F1 fun _ _ _ _ _ _ us hl => match us, hl with | [_, _], _ => rfl
  have b2 := FunD.bindsN (ps := ["_law_source_here", "_law_many"]) F2 fun _ _ _ _ _ _ us hl => match us, hl with | [_, _], _ => rfl
  have b3 := FunD.bindsN (ps := ["_law_every", "_law_order", "_law_letters", "_law_totals"]) F3 fun _ _ _ _ _ _ us hl => match us, hl with | [_, _, _, _], _ => rfl
  have G1 : FnOk P w K mg base CX0 1 _ d1 ["_law_source_here", "_law_many"] spPick := ok_pick F1 Y.bl
  have G2 : FnOk P w K mg base CX0 2 _ d2 ["_law_source_here", "_law_many"] (spNm K) := ok_nm F2 Y
  have G3 : FnOk P w K mg base CX0 6 _ d3 ["_law_every", "_law_order", "_law_letters", "_law_totals"] (spFd3 K) := ok_fd3 F3 Y
  refine okD F scFr (fun vs H Q E h => ?_) (fun cdv A outer s H vs Q E hr h => ?_)
  · obtain ⟨d, c, n, m, rfl, _⟩ := h
    rfl
  · have nd := scFr.nd
    have hu := hu_of hr
    have hr1 : Room 1 _ := hr.mono (by decide)
    have hr2 : Room 2 _ := hr.mono (by decide)
    refine ⟨_, pss_cons (ps_set (i := 3) nd rfl (Or.inl rfl) (pe_slice sl_list (pe_lst (pa_cons pe_str (pa_cons pe_str (pa_cons pe_str pa_nil)))) po_none (po_some (pv 1))))
      (pss_cons (ps_set (i := 4) nd rfl (Or.inl rfl) (pe_call G2 hr2 (by rfl) Y.gLawNames F2.kp b2 .nil pass0 (pa_cons (pv 0) (pa_cons (pv 2) pa_nil))))
      (pss_cons (ps_set (i := 5) nd rfl (Or.inl rfl) pe_dnewK)
      (pss_cons (ps_for PassesOwn.never rfl (pi_list (pv 4)) (pg_name (i := 6) nd rfl (Or.inl rfl))
        (pss_one (ps_dput hu (pv 5) (pv 6) (pe_tup (pa_cons (pe_ix ix_list (pv 3) (pe_call G1 hr1 (by rfl) Y.gLawPick F1.kp b1 .nil pass0 (pa_cons (pv 0) (pa_cons (pv 1) pa_nil))) (fun _ _ => rfl)) (pa_cons (pe_ix ix_list (pv 3) (pe_call G1 hr1 (by rfl) Y.gLawPick F1.kp b1 .nil pass0 (pa_cons (pv 0) (pa_cons (pv 1) pa_nil))) (fun _ _ => rfl)) pa_nil))) rfl)))
      (pss_one (ps_ret (pe_call G3 hr (by rfl) Y.gLawFramed F3.kp b3 .nil pass0 (pa_cons (pv 3) (pa_cons (pv 4) (pa_cons (pv 5) (pa_cons (pe_lst pa_nil) pa_nil))))))))))  , ?_⟩
    obtain ⟨d, c, n, m, rfl, src, n1, n3, m1, m4, k⟩ := h
    have lx : (ABC.take n).length = n := by rw [List.length_take]; show min n 3 = n; omega
    obtain ⟨xs, ex⟩ : ∃ xs, xs = ABC.take n := ⟨_, rfl⟩
    rw [← ex] at lx
    have nlx : NL xs := by rw [ex]; exact abc_nl.sub (List.take_sublist _ _)
    refine ⟨szl (by show 3 ≤ 1000; decide), fun l0 hl0 => ⟨_, rfl, _, rfl, l0, _, rfl, SqL.of upd_same, fun s hs => ?_⟩⟩
    rw [show cutV [V.str "a", V.str "b", V.str "c"] none (some (n : Int)) = xs.map V.str by rw [cutV_take, ex, List.map_take]; rfl]
    have s0 := (same_upd (o := .lst [V.str "a", V.str "b", V.str "c"]) hl0).trans (same_upd (o := .lst (xs.map V.str)) hs)
    have src0 := src_same s0 src
    obtain ⟨sd, sc⟩ := src_ne (src_same (same_upd (o := .lst [V.str "a", V.str "b", V.str "c"]) hl0) src) hs
    have e0 : upd (upd H l0 (.lst [V.str "a", V.str "b", V.str "c"])) s (.lst (xs.map V.str)) s = some (.lst (xs.map V.str)) := upd_same
    obtain ⟨G0, eG⟩ : ∃ Z, Z = upd (upd H l0 (.lst [V.str "a", V.str "b", V.str "c"])) s (.lst (xs.map V.str)) := ⟨_, rfl⟩
    change tSeq _ _ _ _ (upd (upd H l0 (.lst [V.str "a", V.str "b", V.str "c"])) s (.lst (xs.map V.str)))
    rw [← eG] at s0 src0 e0 ⊢
    clear eG hl0 hs
    refine ⟨_, rfl, _, rfl, d, c, m, rfl, src0, by omega, fun o ns G1 src1 sm1 hn ln ho => ?_⟩
    have es : hid d c G1 s = some (.lst (xs.map V.str)) := sm1 _ _ ((hid_at sd sc).trans e0)
    have sm : Same (hid d c H) (hid d c G1) := (hid_same s0).trans sm1
    clear sm1 e0 s0 src0
    intro L hL
    obtain ⟨Ld, Lc⟩ := src_ne src1 hL
    refine ⟨_, rfl, o, rfl, ⟨_, (same_upd hL).seq (hid_sub.seq ho)⟩, for_list (K := K) (a := o) (xs := ns.map V.str) (fun i σ G => (∃ v6, σ = [some (.ref d), some (.int (n : Int)), some (.int (m : Int)), some (.ref s), some (.ref o), some (.ref L), v6]) ∧ SrcAt G d c ∧ Same (hid d c G1) (hid d c G) ∧
      ∃ (as : List Addr) (ls : List Lt), ls.map (·.1) = ns.take i ∧ G L = some (.dK (kvL ls as)) ∧ AllT K (hid d c G) as (ls.map endV) ∧ ∀ q ∈ ls, q.2.1 ∈ xs ∧ q.2.2 ∈ xs)
      ⟨⟨_, rfl⟩, src_put Ld Lc src1, hid_put hL (Same.refl _), [], [], rfl, upd_same, AllT.nil, fun q hq => absurd hq List.not_mem_nil⟩ (fun i σ G _ p => hid_sub.seq (p.2.2.1.seq ho)) ?_ ?_⟩
    · rintro i v σ G hi ⟨⟨v6, rfl⟩, src2, sm2, as, ls, en, eL, hA, hin⟩
      obtain ⟨x, ex1, rfl⟩ := str_at hi
      have li := (List.getElem?_eq_some_iff.mp ex1).1
      refine ⟨_, rfl, _, rfl, _, rfl, d, c, n, rfl, src2, by omega, by omega, fun r G2 r0 r1 src3 keep3 => ?_⟩
      obtain ⟨j, rfl⟩ : ∃ j : Nat, r = (j : Int) := ⟨r.toNat, by omega⟩
      have eh : hid d c G2 = hid d c G := hid_pick keep3
      have es2 : G2 s = some (.lst (xs.map V.str)) := hid_sub _ _ (show hid d c G2 s = _ by rw [eh]; exact sm2 _ _ es)
      have eL2 : G2 L = some (.dK (kvL ls as)) := (keep3 L Ld Lc).trans eL
      refine ⟨s, _, _, _, rfl, rfl, SqL.of es2, str_ix (by omega), ?_⟩
      refine ⟨_, rfl, _, rfl, _, rfl, d, c, n, rfl, src3, by omega, by omega, fun r G3 r0 r1 src4 keep4 => ?_⟩
      obtain ⟨j2, rfl⟩ : ∃ j : Nat, r = (j : Int) := ⟨r.toNat, by omega⟩
      have eh3 : hid d c G3 = hid d c G := (hid_pick keep4).trans eh
      have es3 : G3 s = some (.lst (xs.map V.str)) := (keep4 s sd sc).trans es2
      have eL3 : G3 L = some (.dK (kvL ls as)) := (keep4 L Ld Lc).trans eL2
      refine ⟨s, _, _, _, rfl, rfl, SqL.of es3, str_ix (by omega), ?_⟩
      refine ⟨szl (by show 2 ≤ 1000; decide), fun T hT => ?_⟩
      obtain ⟨Td, Tc⟩ := src_ne src4 hT
      have eL4 := same_upd (o := .tup [V.str (xs[j]'(by omega)), V.str (xs[j2]'(by omega))]) hT _ _ eL3
      have ll : ls.length = i := by
        have z := congrArg List.length en
        rw [List.length_map, List.length_take] at z
        omega
      have lk := kvL_len ls as
      have hno : x ∉ ls.map (·.1) := by
        rw [en]
        intro z
        obtain ⟨i2, l2, e2⟩ := List.getElem_of_mem z
        rw [List.length_take] at l2
        have e3 : ns[i2]? = some x := by rw [List.getElem_take] at e2; rw [List.getElem?_eq_getElem (by omega), e2]
        have e4 : ns[i2]'(by omega) = ns[i] := by
          rw [List.getElem?_eq_getElem (by omega)] at e3
          rw [List.getElem?_eq_getElem li] at ex1
          rw [Option.some.inj e3, Option.some.inj ex1]
        exact List.pairwise_iff_getElem.mp hn.nd i2 i (by omega) li (by omega) e4
      refine ⟨_, rfl, _, rfl, L, _, rfl, (show DPut _ L (.str x) _ _ from DPut.k (k := .inr x) eL4 (small1000 (by omega))), ?_⟩
      have hA4 := hA
      rw [← eh3] at hA4
      have sT := hid_same (d := d) (c := c) (same_upd (o := .tup [V.str (xs[j]'(by omega)), V.str (xs[j2]'(by omega))]) hT)
      refine ⟨⟨_, rfl⟩, src_put Ld Lc (src_same (same_upd hT) src4), hid_put hL (by rw [← eh3] at sm2; exact sm2.trans sT), as ++ [T], ls ++ [(x, xs[j]'(by omega), xs[j2]'(by omega))], ?_, ?_, ?_, ?_⟩
      · rw [List.map_append, en, List.take_add_one, ex1]
        rfl
      · rw [upd_same, putK_new _ (kvL_no ls as hno), kvL_snoc _ _ _ _ (by rw [hA.1, List.length_map])]
      · have z := (hA4.same sT).snoc (SqT.of (show hid d c (upd G3 T (.tup [V.str (xs[j]'(by omega)), V.str (xs[j2]'(by omega))])) T = some (.tup (endV (x, xs[j]'(by omega), xs[j2]'(by omega)))) from (hid_at Td Tc).trans upd_same))
        rw [List.map_append]
        rw [hid_upd Ld Lc]
        exact z.putD ((hid_at Ld Lc).trans eL4)
      · intro q hq
        rcases List.mem_append.mp hq with z | z
        · exact hin q z
        · rw [List.mem_singleton.mp z]
          exact ⟨List.getElem_mem _, List.getElem_mem _⟩
    · rintro σ G ⟨⟨v6, rfl⟩, src2, sm2, as, ls, en, eL, hA, hin⟩
      rw [List.length_map, List.take_length] at en
      refine ⟨_, rfl, _, rfl, _, rfl, szl (by show 0 ≤ 1000; decide), fun t ht => ?_⟩
      have st := same_upd (o := .lst []) ht
      obtain ⟨td, tc⟩ := src_ne src2 ht
      have sh := hid_same (d := d) (c := c) st
      have es2 : hid d c G s = some (.lst (xs.map V.str)) := sm2 _ _ es
      have eLh : hid d c G L = some (.dK (kvL ls as)) := (hid_at Ld Lc).trans eL
      have fok : FrOk xs ls := ⟨nlx, by rw [en]; exact hn, hin⟩
      have lal : as.length = ls.length := by rw [hA.1, List.length_map]
      have ld : LdAt K (hid d c (upd G t (.lst []))) L ls := ⟨as, sh _ _ eLh, lal, fun i u e => by
        obtain ⟨vs, a, b⟩ := (hA.same sh).2 i u e
        rw [List.getElem?_map] at a
        cases z : ls[i]? with
        | none => rw [z] at a; cases a
        | some q => rw [z] at a; exact ⟨q, rfl, by rw [← Option.some.inj a] at b; exact b⟩⟩
      have ldG : LdAt K (upd G t (.lst [])) L ls := ld.same hid_sub
      have hoG : SqL K (hid d c (upd G t (.lst []))) o ((ls.map (·.1)).map V.str) := by rw [en]; exact (sm2.trans sh).seq ho
      have gd : GdF xs ls [] := (drawn_of (us := []) fok ex n3 (List.nil_sublist _) (fun _ z => nomatch z)).good
      refine ⟨s, o, L, t, xs, ls, [], rfl, hid_sub _ _ (sh _ _ es2), hid_sub.seq hoG, ldG, ⟨[], SqL.of upd_same, rfl, fun _ _ z => nomatch z⟩, gd, fun e b H' he s9 ee hb => ?_⟩
      obtain ⟨ed, ec⟩ := src_ne (src_same st src2) he
      have s9h := hid_same (d := d) (c := c) s9
      refine k e b xs ls H' (src_same (st.trans s9) src2) (sm.trans (sm2.trans (sh.trans s9h))) ⟨⟨s, L, o, t, b, (hid_at ed ec).trans ee, s9h _ _ (sh _ _ es2), ld.same s9h, s9h.seq hoG⟩, fok⟩ ⟨⟨s, L, o, t, (hid_at ed ec).trans ee, [], s9h _ _ ((hid_at td tc).trans upd_same), AllT.nil⟩, hb.hid (src_same (st.trans s9) src2), gd⟩ ex ?_
      have z := congrArg List.length en
      rw [List.length_map] at z
      exact z.trans ln
end
end K43

namespace K43
open PySem PySem.Spec PyProof.Rows L2 Ow Xv
abbrev NWT : List Str := ["_law_source_here", "_law_frame_here", "_law_totals", "_law_name", "_law_ends_here"]
theorem scWT : FnScope NWT ["_law_source_here", "_law_frame_here"] (defScope sLawWithTotals) := ⟨rfl, rfl, rfl, by decide +kernel, rfl, by decide +kernel, by decide +kernel⟩
def spWT (K : PySem.W.Frag) : Sp := fun vs H Q _ => ∃ (d c e : Addr) (xs : List Str) (ls : List Lt) (n : Nat), vs = [.ref d, .ref e] ∧ SrcAt H d c ∧ FrAt K (hid d c H) e xs ls ∧ xs = ABC.take n ∧ n ≤ 3 ∧
  ∀ (e' b : Addr) (us : List Lt) (H' : Hp), SrcAt H' d c → Same (hid d c H) (hid d c H') → FrAt K (hid d c H') e' xs ls → MdAt K (hid d c H') e' xs ls (us.map totOf) b → Drawn xs ls us → us.Sublist ls → Q (.ref e') H'
theorem dget_same {H H' : Hp} {a : Addr} {y : V} {r : Option V} (s : Same H H') (h : DGet H a y r) : DGet H' a y r := by
  have go : ∀ {u : HO}, Rd H a u → Rd H' a u := fun z => z.elim (fun z => .inl (s _ _ z)) fun ⟨o, z⟩ => .inr ⟨o, s _ _ z⟩
  rcases h with ⟨kvs, k, h1, h2, h3⟩ | ⟨kvs, k, b, h1, h2, h3, h4⟩
  · exact .inl ⟨kvs, k, go h1, h2, h3⟩
  · exact .inr ⟨kvs, k, b, go h1, h2, s _ _ h3, h4⟩
theorem snoc_sub {us ls : List Lt} {q : Lt} (h : us.Sublist ls) : (us ++ [q]).Sublist (ls ++ [q]) := h.append (List.Sublist.refl _)
section
variable {P : Program} {w : World} {K : PySem.W.Frag} {mg : Str → Option Value} {base : Heap} {f : Addr} {fd : FuncData}
theorem ok_wt (F : FnP K "_law_with_totals" sLawWithTotals f fd) (Y : Fx w K mg) : FnOk P w K mg base CX0 7 f fd ["_law_source_here", "_law_frame_here"] (spWT K) := by
  obtain ⟨d1, F1⟩ := Y.dLawPick
  obtain ⟨d3, F3⟩ := Y.dLawFramed
  have b1 := FunD.bindsN (ps := ["_law_source_here", "_law_many"]) F1 fun _ _ _ _ _ _ us hl => match us, hl with | [_, _], _ => rfl
  have b3 := FunD.bindsN (ps := ["_law_every", "_law_order", "_law_letters", "_law_totals"]) F3 fun _ _ _ _ _ _ us hl => match us, hl with | [_, _, _, _], _ => rfl
  have G1 : FnOk P w K mg base CX0 1 _ d1 ["_law_source_here", "_law_many"] spPick := ok_pick F1 Y.bl
  have G3 : FnOk P w K mg base CX0 6 _ d3 ["_law_every", "_law_order", "_law_letters", "_law_totals"] (spFd3 K) := ok_fd3 F3 Y
  refine okD F scWT (fun vs H Q E h => ?_) (fun cdv A outer s H vs Q E hr h => ?_)
  · obtain ⟨d, c, e, xs, ls, n, rfl, _⟩ := h
    rfl
  · have nd := scWT.nd
    have hu := hu_of hr
    have B := Y.bl
    have hr1 : Room 1 _ := hr.mono (by decide)
    refine ⟨_, pss_cons (ps_set (i := 2) nd rfl (Or.inl rfl) (pe_lst pa_nil))
      (pss_cons (ps_for PassesOwn.never rfl (pi_list (pe_dget hu (pv 1) pe_str nosl)) (pg_name (i := 3) nd rfl (Or.inl rfl))
        (pss_cons (ps_set (i := 4) nd rfl (Or.inl rfl) (pe_dget hu (pe_dget hu (pv 1) pe_str nosl) (pv 3) nosl))
        (pss_one (ps_if (pw_and (pt_cmpR op_ne (pe_ix ix_tup (pv 4) pe_int (fun _ _ => rfl)) (pe_ix ix_tup (pv 4) pe_int (fun _ _ => rfl)) (nomark _)) (pw_and1 (pt_cmpR op_eq (pe_call G1 hr1 (by rfl) Y.gLawPick F1.kp b1 .nil pass0 (pa_cons (pv 0) (pa_cons pe_int pa_nil))) pe_int (nomark _)))).pt
          (pss_one (ps_expr (pe_bm PySem.F.plainAttrs_list PySem.F.slot_list_append PySem.F.type_list_append mt_append (pv 2) (pa_cons (pe_tup (pa_cons (pv 3) (pa_cons (pe_ix ix_list (pe_lst (pa_cons pe_str (pa_cons pe_str pa_nil)))
            (pe_callTy call_int1 (by rfl) B.int boot_int (pa_cons (pe_cmpR op_gt_str (pe_ix ix_tup (pv 4) pe_int (fun _ _ => rfl)) (pe_ix ix_tup (pv 4) pe_int (fun _ _ => rfl)) (nomark _)) pa_nil)) (fun _ _ => rfl)) pa_nil))) pa_nil)))) pss_nil))))
      (pss_one (ps_ret (pe_call G3 hr (by rfl) Y.gLawFramed F3.kp b3 .nil pass0 (pa_cons (pe_dget hu (pv 1) pe_str nosl) (pa_cons (pe_dget hu (pv 1) pe_str nosl) (pa_cons (pe_dget hu (pv 1) pe_str nosl) (pa_cons (pv 2) pa_nil)))))))), ?_⟩
    obtain ⟨d, c, e, xs, ls, n, rfl, src, fr, ex, n3, k⟩ := h
    obtain ⟨⟨s, m, o, t, b, h1, h2, h3, h4⟩, ok⟩ := id fr
    have l16 : ls.length ≤ 16 := by have := ok.nl.n; rw [List.length_map] at this; exact this
    refine ⟨szl (by show 0 ≤ 1000; decide), fun L hL => ?_⟩
    obtain ⟨Ld, Lc⟩ := src_ne src hL
    have hLh : hid d c H L = none := (hid_at Ld Lc).trans hL
    have s0 : Same (hid d c H) (hid d c (upd H L (.lst []))) := hid_same (same_upd hL)
    dsimp only [gName]
    refine ⟨_, rfl, e, .ref o, rfl, fr_order (hid_sub _ _ (s0 _ _ h1)), o, rfl, ⟨_, hid_sub.seq (s0.seq h4)⟩, for_list (K := K) (a := o) (xs := (ls.map (·.1)).map V.str) (fun i σ G => (∃ v3 v4, σ = [some (.ref d), some (.ref e), some (.ref L), v3, v4]) ∧ SrcAt G d c ∧ Same (hid d c H) (hid d c G) ∧
      ∃ (as : List Addr) (us : List Lt), G L = some (.lst (as.map V.ref)) ∧ AllT K (hid d c G) as ((us.map totOf).map ttV) ∧ us.Sublist (ls.take i) ∧ ∀ q ∈ us, q.2.1 ≠ q.2.2)
      ⟨⟨none, none, rfl⟩, src_put Ld Lc src, s0, [], [], upd_same, AllT.nil, List.nil_sublist _, fun q hq => absurd hq List.not_mem_nil⟩ (fun i σ G _ p => hid_sub.seq (p.2.2.1.seq h4)) ?_ ?_⟩
    · rintro i v σ G hi ⟨⟨v3, v4, rfl⟩, src2, sm, as, us, eL, hA, hsub, hne⟩
      obtain ⟨x, ex1, rfl⟩ := str_at hi
      obtain ⟨q, eq, rfl⟩ : ∃ q, ls[i]? = some q ∧ x = q.1 := by
        rw [List.getElem?_map] at ex1
        cases z : ls[i]? with
        | none => rw [z] at ex1; cases ex1
        | some q => rw [z] at ex1; exact ⟨q, rfl, (Option.some.inj ex1).symm⟩
      have li := (List.getElem?_eq_some_iff.mp eq).1
      obtain ⟨tt, dg0, st0⟩ := (h3.same sm).get ok.nl.nd eq
      have dg := dget_same hid_sub dg0
      have st := sqt_same hid_sub st0
      have la : as.length ≤ i := by
        have z := hA.1
        rw [List.length_map, List.length_map] at z
        have z2 := hsub.length_le
        rw [List.length_take] at z2
        omega
      have tk : ls.take (i + 1) = ls.take i ++ [q] := by rw [List.take_add_one, eq]; rfl
      have sub2 : us.Sublist (ls.take (i + 1)) := by rw [tk]; exact hsub.trans (List.sublist_append_left _ _)
      refine ⟨_, rfl, e, .ref m, rfl, fr_letters (hid_sub _ _ (sm _ _ h1)), _, rfl, m, .ref tt, rfl, dg, ?_⟩
      dsimp only [gName]
      change tIfS _ _ _ _ [some (.ref d), some (.ref e), some (.ref L), some (.str q.1), some (.ref tt)] G
      refine ⟨_, rfl, tt, _, 0, _, rfl, rfl, st, rfl, _, rfl, tt, _, 1, _, rfl, rfl, st, rfl, rfl, _, rfl, ite2 (fun hc => ?_) (fun hc => ?_)⟩
      · have ne : q.2.1 ≠ q.2.2 := fun z => by
          have z2 : (!decide (V.str q.2.1 = V.str q.2.2)) = true := hc
          rw [decide_eq_true (congrArg V.str z)] at z2
          cases z2
        refine ⟨_, rfl, d, c, 2, rfl, src2, by decide, by decide, fun r G2 r0 r1 src3 keep3 => ⟨rfl, _, rfl, ?_⟩⟩
        have eh : hid d c G2 = hid d c G := hid_pick keep3
        have eL2 : G2 L = some (.lst (as.map V.ref)) := (keep3 L Ld Lc).trans eL
        rw [← eh] at sm hA
        rw [← eh] at st0
        have st2 := sqt_same hid_sub st0
        refine ite2 (fun hc2 => ?_) (fun hc2 => ?_)
        · refine ⟨_, rfl, .inl ⟨rfl, _, SqL.of eL2⟩, _, rfl, szl (by show 2 ≤ 1000; decide), fun l0 hl0 => ?_⟩
          have s1 := same_upd (o := .lst [V.str "on", V.str "back"]) hl0
          have st3 := sqt_same s1 st2
          refine ⟨_, rfl, tt, _, 0, _, rfl, rfl, st3, rfl, _, rfl, tt, _, 1, _, rfl, rfl, st3, rfl, _, _, rfl, rfl, .inr ⟨_, rfl, ?_⟩⟩
          refine ⟨l0, _, _, .str (totOf q).2, rfl, rfl, SqL.of upd_same, ?_, szl (by show 2 ≤ 1000; decide), fun T hT => ?_⟩
          · unfold totOf
            dsimp only
            by_cases z : q.2.2.cps.toList < q.2.1.cps.toList
            · rw [decide_eq_true z, if_pos z]
              rfl
            · rw [decide_eq_false z, if_neg z]
              rfl
          have s2 := same_upd (o := .tup [V.str q.1, V.str (totOf q).2]) hT
          have s12 := s1.trans s2
          have eL3 := s12 _ _ eL2
          obtain ⟨Td, Tc⟩ := src_ne (src_same s1 src3) hT
          have sh := hid_same (d := d) (c := c) s12
          refine ⟨L, _, _, rfl, rfl, eL3, by rw [List.length_map]; exact small1000 (by omega), ⟨_, _, rfl⟩, src_put Ld Lc (src_same s12 src3), ?_, as ++ [T], us ++ [q], by rw [upd_same, List.map_append]; rfl, ?_, by rw [tk]; exact snoc_sub hsub, ?_⟩
          · exact hid_put hL (sm.trans sh)
          · rw [List.map_append, List.map_append, hid_upd Ld Lc]
            refine AllT.put ((hid_at Ld Lc).trans eL3) ((hA.same sh).snoc (SqT.of ?_))
            exact (hid_at Td Tc).trans upd_same
          · intro p hp
            rcases List.mem_append.mp hp with z | z
            · exact hne p z
            · rw [List.mem_singleton.mp z]
              exact ne
        · exact ⟨⟨_, _, rfl⟩, src3, sm, as, us, eL2, hA, sub2, hne⟩
      · exact iteF ⟨⟨_, _, rfl⟩, src2, sm, as, us, eL, hA, sub2, hne⟩
    · rintro σ G ⟨⟨v3, v4, rfl⟩, src2, sm, as, us, eL, hA, hsub, hne⟩
      rw [List.length_map, List.length_map, List.take_length] at hsub
      have dr := drawn_of ok ex n3 hsub hne
      have gd := dr.good
      have eLh : hid d c G L = some (.lst (as.map V.ref)) := (hid_at Ld Lc).trans eL
      have z0 := sm.trans hid_sub
      have eG := z0 _ _ h1
      have hm : TupsM K (hid d c G) L ((us.map totOf).map ttV) := ⟨as, eLh, hA⟩
      refine ⟨_, rfl, e, .ref s, rfl, fr_sorts eG, _, rfl, e, .ref o, rfl, fr_order eG, _, rfl, e, .ref m, rfl, fr_letters eG, _, rfl, s, o, m, L, xs, ls, us.map totOf, rfl, z0 _ _ h2, z0.seq h4, h3.same z0, (hm.same hid_sub).at_, gd, fun e' b' H' he s9 ee hb' => ?_⟩
      obtain ⟨ed, ec⟩ := src_ne src2 he
      have s9h := hid_same (d := d) (c := c) s9
      have smA := sm.trans s9h
      have src9 := src_same s9 src2
      exact k e' b' us H' src9 smA ⟨⟨s, m, o, L, b', (hid_at ed ec).trans ee, smA _ _ h2, h3.same smA, smA.seq h4⟩, ok⟩ ⟨⟨s, m, o, L, (hid_at ed ec).trans ee, hm.same s9h⟩, hb'.hid src9, gd⟩ dr hsub
end
end K43

namespace K43
open PySem PySem.Spec PyProof.Rows L2 Ow Xv
/-! ### the form of values as data -/
def PT : List (Str × Nat × Nat) := [("letter", 0, 0), ("same", 0, 1), ("other", 0, 1), ("none", 0, 2), ("all", 0, 2), ("rest", 1, 0), ("turned", 1, 0), ("joined", 2, 0), ("cut", 2, 0), ("then", 2, 0), ("closed", 1, 0), ("walked", 1, 0)]
def shp (w : Str) : Option (Nat × Nat) := (PT.find? fun q => decide (q.1 = w)).map (·.2)
theorem shp_some {w : Str} {q : Nat × Nat} (h : shp w = some q) : (w, q) ∈ PT := by
  unfold shp at h
  cases z : PT.find? fun q => decide (q.1 = w) with
  | none => rw [z] at h; cases h
  | some r =>
    rw [z] at h
    cases h
    have e := List.find?_some z
    have m := List.mem_of_find?_eq_some z
    rw [← of_decide_eq_true e]
    exact m
theorem shp_none {w : Str} (h : shp w = none) : w ∉ PT.map (·.1) := by
  intro m
  obtain ⟨q, hq, rfl⟩ := List.mem_map.mp m
  unfold shp at h
  cases z : PT.find? fun r => decide (r.1 = q.1) with
  | none => exact absurd (decide_eq_true rfl) (List.find?_eq_none.mp z q hq)
  | some r => rw [z] at h; cases h
theorem pt_kpb : kPARTSBELOW = PT.map (·.1) := rfl
theorem pt_vpb : vPARTSBELOW = PT.map fun q => (q.1, He.Dv.int (q.2.1 : Int)) := rfl
def PS : List (Str × Nat × Nat) := [("same", 0, 1), ("other", 0, 1), ("none", 0, 2), ("all", 0, 2)]
theorem pt_kst : kSORTSTOLD = PS.map (·.1) := rfl
theorem pt_vst : vSORTSTOLD = PS.map fun q => (q.1, He.Dv.int (q.2.2 : Int)) := rfl
theorem pt_ps : (PT.all fun q => if q.2.2 = 0 then PS.all fun r => decide (r.1 ≠ q.1) else decide (q ∈ PS)) = true := by decide +kernel
theorem shp_pb {w : Str} {p s : Nat} (h : shp w = some (p, s)) : (w, He.Dv.int (p : Int)) ∈ vPARTSBELOW := by
  rw [pt_vpb]
  exact List.mem_map.mpr ⟨_, shp_some h, rfl⟩
theorem shp_kpb {w : Str} {q : Nat × Nat} (h : shp w = some q) : w ∈ kPARTSBELOW := by
  rw [pt_kpb]
  exact List.mem_map.mpr ⟨_, shp_some h, rfl⟩
theorem shp_st {w : Str} {p s : Nat} (h : shp w = some (p, s)) : ((w, He.Dv.int (s : Int)) ∈ vSORTSTOLD ∧ 0 < s) ∨ (s = 0 ∧ w ∉ kSORTSTOLD) := by
  have z := List.all_eq_true.mp pt_ps _ (shp_some h)
  dsimp only at z
  by_cases c : s = 0
  · rw [if_pos c] at z
    refine .inr ⟨c, fun m => ?_⟩
    rw [pt_kst] at m
    obtain ⟨r, hr, e⟩ := List.mem_map.mp m
    exact of_decide_eq_true (List.all_eq_true.mp z r hr) e
  · rw [if_neg c] at z
    rw [pt_vst]
    exact .inl ⟨List.mem_map.mpr ⟨_, of_decide_eq_true z, rfl⟩, by omega⟩
def inT (xs : List Str) : PyData → Bool
  | .str z => decide (z ∈ xs)
  | _ => false
theorem isTx_inT {K : PySem.W.Frag} {H : Hp} {v : V} {d : PyData} (h : Va K H v d) (xs : List Str) : isTx v xs = inT xs d := by
  cases h with
  | str z => exact isTx_str z xs
  | _ => exact isTx_no (by intro z e; cases e) xs
def formW (xs ns : List Str) (w : Str) (ds : List PyData) : Bool := if w = ("letter" : Str) then decide (ds.length = 1) && ds.all (inT ns) else match shp w with
  | none => false
  | some (p, s) => decide (ds.length = p + s) && (ds.take s).all (inT xs)
def formD (xs ns : List Str) : PyData → Bool
  | .tuple (.str w :: ds) => formW xs ns w ds
  | _ => false
def kidsD : PyData → List PyData
  | .tuple (.str w :: ds) => match shp w with
    | some (p, _) => ds.take p
    | none => []
  | _ => []
theorem dep_mem : ∀ {ds : List PyData} {k : PyData}, k ∈ ds → k.depth ≤ PyData.depthAll ds
  | d :: ds, k, h => by
    rw [PyData.depthAll]
    rcases List.mem_cons.mp h with z | z
    · rw [z]; exact Nat.le_max_left _ _
    · exact Nat.le_trans (dep_mem z) (Nat.le_max_right _ _)
theorem dep_kid {d k : PyData} (h : k ∈ kidsD d) : k.depth < d.depth := by
  unfold kidsD at h
  split at h
  · rename_i w ds
    split at h
    · rename_i p s e
      have m : k ∈ (PyData.str w :: ds) := List.mem_cons_of_mem _ (List.mem_of_mem_take h)
      have := dep_mem m
      simp only [PyData.depth]
      omega
    · cases h
  · cases h
/-- the first with something, and its number before it -/
def flK (f : PyData → Option (List Nat)) : Nat → List PyData → Option (List Nat)
  | _, [] => none
  | i, k :: ks => match f k with
    | some q => some (i :: q)
    | none => flK f (i + 1) ks
theorem flK_congr {f g : PyData → Option (List Nat)} : ∀ (ks : List PyData) (i : Nat), (∀ k ∈ ks, f k = g k) → flK f i ks = flK g i ks
  | [], _, _ => rfl
  | k :: ks, i, h => by
    unfold flK
    rw [h k List.mem_cons_self, flK_congr ks (i + 1) fun k hk => h k (List.mem_cons_of_mem _ hk)]
section
variable (xs ns : List Str)
def flF : Nat → PyData → Option (List Nat)
  | 0, _ => some []
  | n + 1, d => if formD xs ns d = true then flK (flF n) 0 (kidsD d) else some []
/-- the path of the first part without form -/
def fl (d : PyData) : Option (List Nat) := flF xs ns (d.depth + 1) d
theorem flF_eq : ∀ (n m : Nat) (d : PyData), d.depth < n → d.depth < m → flF xs ns n d = flF xs ns m d
  | 0, _, _, h, _ => absurd h (Nat.not_lt_zero _)
  | _, 0, _, _, h => absurd h (Nat.not_lt_zero _)
  | n + 1, m + 1, d, h, g => by
    unfold flF
    rw [flK_congr (f := flF xs ns n) (g := flF xs ns m) (kidsD d) 0 fun k hk => flF_eq n m k (by have := dep_kid hk; omega) (by have := dep_kid hk; omega)]
theorem fl_eq (d : PyData) : fl xs ns d = if formD xs ns d = true then flK (fl xs ns) 0 (kidsD d) else some [] := by
  show flF xs ns (d.depth + 1) d = _
  rw [flF]
  rw [flK_congr (f := flF xs ns d.depth) (g := fl xs ns) (kidsD d) 0 fun k hk => flF_eq xs ns _ _ k (dep_kid hk) (Nat.lt_succ_self _)]
/-- paths and parts, one's own first -/
def kp {α : Type} (p : List Nat) : Nat → List α → List (List Nat × α)
  | _, [] => []
  | i, k :: ks => (p ++ [i], k) :: kp p (i + 1) ks
theorem kp_mem {α : Type} {p : List Nat} : ∀ {ks : List α} {i : Nat} {x : List Nat × α}, x ∈ kp p i ks → x.2 ∈ ks ∧ x.1.length = p.length + 1
  | k :: ks, i, x, h => by
    rcases List.mem_cons.mp h with z | z
    · rw [z]; exact ⟨List.mem_cons_self, by simp⟩
    · have := kp_mem z
      exact ⟨List.mem_cons_of_mem _ this.1, this.2⟩
theorem kp_len {α : Type} {p : List Nat} : ∀ {ks : List α} {i : Nat}, (kp p i ks).length = ks.length
  | [], _ => rfl
  | _ :: ks, i => congrArg Nat.succ (kp_len (ks := ks) (i := i + 1))
theorem kp_at {α : Type} {p : List Nat} : ∀ {ks : List α} {i j : Nat} {k : α}, ks[j]? = some k → (kp p i ks)[j]? = some (p ++ [i + j], k)
  | k :: ks, i, 0, k', h => by
    obtain rfl : k = k' := by simpa using h
    rfl
  | k :: ks, i, j + 1, k', h => by
    have := kp_at (p := p) (i := i + 1) (j := j) (ks := ks) (k := k') (by simpa using h)
    rw [show i + (j + 1) = i + 1 + j by omega]
    simpa [kp] using this
theorem kp_map {α β : Type} (f : α → β) {p : List Nat} : ∀ (ks : List α) (i : Nat), (kp p i ks).map (fun x => (x.1, f x.2)) = kp p i (ks.map f)
  | [], _ => rfl
  | k :: ks, i => congrArg (_ :: ·) (kp_map f ks (i + 1))
def preF : Nat → List Nat → PyData → List (List Nat × PyData)
  | 0, p, d => [(p, d)]
  | n + 1, p, d => (p, d) :: if formD xs ns d = true then (kp p 0 (kidsD d)).flatMap fun x => preF n x.1 x.2 else []
def preD (p : List Nat) (d : PyData) : List (List Nat × PyData) := preF xs ns (d.depth + 1) p d
theorem preF_eq : ∀ (n m : Nat) (p : List Nat) (d : PyData), d.depth < n → d.depth < m → preF xs ns n p d = preF xs ns m p d
  | 0, _, _, _, h, _ => absurd h (Nat.not_lt_zero _)
  | _, 0, _, _, _, h => absurd h (Nat.not_lt_zero _)
  | n + 1, m + 1, p, d, h, g => by
    unfold preF
    have : ((kp p 0 (kidsD d)).flatMap fun x => preF xs ns n x.1 x.2) = (kp p 0 (kidsD d)).flatMap fun x => preF xs ns m x.1 x.2 := by
      rw [List.flatMap_def, List.flatMap_def]
      congr 1
      refine List.map_congr_left fun x hx => ?_
      have := dep_kid (kp_mem hx).1
      exact preF_eq n m x.1 x.2 (by omega) (by omega)
    rw [this]
theorem preD_eq (p : List Nat) (d : PyData) : preD xs ns p d = (p, d) :: if formD xs ns d = true then (kp p 0 (kidsD d)).flatMap fun x => preD xs ns x.1 x.2 else [] := by
  show preF xs ns (d.depth + 1) p d = _
  rw [preF]
  have : ((kp p 0 (kidsD d)).flatMap fun x => preF xs ns d.depth x.1 x.2) = (kp p 0 (kidsD d)).flatMap fun x => preD xs ns x.1 x.2 := by
    rw [List.flatMap_def, List.flatMap_def]
    congr 1
    refine List.map_congr_left fun x hx => ?_
    exact preF_eq xs ns _ _ x.1 x.2 (dep_kid (kp_mem hx).1) (Nat.lt_succ_self _)
  rw [this]
def badP (x : List Nat × PyData) : Bool := !formD xs ns x.2
theorem find_app {α : Type} (f : α → Bool) : ∀ (l m : List α), (l ++ m).find? f = match l.find? f with
    | some a => some a
    | none => m.find? f
  | [], m => rfl
  | a :: l, m => by
    rw [List.cons_append, List.find?_cons, List.find?_cons]
    cases f a with
    | true => rfl
    | false => exact find_app f l m
theorem pre_fl : ∀ (n : Nat) (d : PyData) (p : List Nat), d.depth < n → ((preD xs ns p d).find? (badP xs ns)).map (·.1) = (fl xs ns d).map (p ++ ·)
  | 0, _, _, h => absurd h (Nat.not_lt_zero _)
  | n + 1, d, p, h => by
    rw [preD_eq, fl_eq, List.find?_cons]
    unfold badP
    cases c : formD xs ns d with
    | false => simp
    | true =>
      rw [if_pos rfl, if_pos rfl]
      show ((List.find? (badP xs ns) ((kp p 0 (kidsD d)).flatMap fun x => preD xs ns x.1 x.2)).map (·.1)) = _
      have key : ∀ (ks : List PyData) (i : Nat), (∀ k ∈ ks, k.depth < n) → ((List.find? (badP xs ns) ((kp p i ks).flatMap fun x => preD xs ns x.1 x.2)).map (·.1)) = (flK (fl xs ns) i ks).map (p ++ ·) := fun ks => by
        induction ks with
        | nil => intro i _; rfl
        | cons k ks ih =>
          intro i hk
          have e := pre_fl n k (p ++ [i]) (hk k List.mem_cons_self)
          show ((List.find? (badP xs ns) (preD xs ns (p ++ [i]) k ++ (kp p (i + 1) ks).flatMap fun x => preD xs ns x.1 x.2)).map (·.1)) = _
          rw [find_app]
          unfold flK
          cases z : fl xs ns k with
          | some q =>
            rw [z] at e
            cases z2 : (preD xs ns (p ++ [i]) k).find? (badP xs ns) with
            | none => rw [z2] at e; cases e
            | some y =>
              rw [z2] at e
              simp only [Option.map_some, Option.some.injEq] at e ⊢
              rw [e, List.append_assoc]
              rfl
          | none =>
            rw [z] at e
            cases z2 : (preD xs ns (p ++ [i]) k).find? (badP xs ns) with
            | some y => rw [z2] at e; cases e
            | none => exact ih (i + 1) fun k hk' => hk k (List.mem_cons_of_mem _ hk')
      exact key _ 0 fun k hk => by have := dep_kid hk; omega
theorem pre_first (d : PyData) : ((preD xs ns [] d).find? (badP xs ns)).map (·.1) = fl xs ns d := by
  rw [pre_fl xs ns _ d [] (Nat.lt_succ_self _)]
  cases fl xs ns d <;> rfl
end
end K43

namespace K43
open PySem PySem.Spec PyProof.Rows L2 Ow Xv
/-! ### the parts below, the sorts told, the form, of any value -/
def spPBv (K : PySem.W.Frag) : Sp := fun vs H Q _ => ∃ (a : Addr) (w : Str) (xs : List V) (p s : Nat), vs = [.ref a] ∧ SqT K H a (.str w :: xs) ∧ shp w = some (p, s) ∧ p ≤ xs.length ∧ ∀ (T : Addr) (H' : Hp), Same H H' → H' T = some (.tup (xs.take p)) → Q (.ref T) H'
def spSTv (K : PySem.W.Frag) : Sp := fun vs H Q _ => ∃ (a : Addr) (w : Str) (xs : List V) (p s : Nat), vs = [.ref a] ∧ SqT K H a (.str w :: xs) ∧ shp w = some (p, s) ∧ s ≤ xs.length ∧ ∀ (T : Addr) (H' : Hp), Same H H' → H' T = some (.tup (xs.take s)) → Q (.ref T) H'
abbrev NHF : List Str := ["frame", "value", "word", "sort"]
theorem scHF : FnScope NHF ["frame", "value"] (defScope sHasForm) := ⟨rfl, rfl, rfl, by decide +kernel, rfl, by decide +kernel, by decide +kernel⟩
def spHF (K : PySem.W.Frag) : Sp := fun vs H Q _ => ∃ (x : Addr) (v : V) (d : PyData) (xs : List Str) (ls : List Lt), vs = [.ref x, v] ∧ FrmA K H x xs ls ∧ Va K H v d ∧ ∀ H', Same H H' → Q (.bl (formD xs (ls.map (·.1)) d)) H'
section
variable {P : Program} {w : World} {K : PySem.W.Frag} {mg : Str → Option Value} {base : Heap} {f : Addr} {fd : FuncData}
theorem dicPB (Y : Fx w K mg) : He.dicW K (He.ga K "_PARTS_BELOW") = some (He.keysIn w.params kPARTSBELOW) := by
  have e : tabs.map (fun t => He.dicW K (t.1 K)) = tabs.map fun t => some (He.keysIn w.params t.2) := congrArg (fun z : He.AlT => z.2) Y.t
  exact (List.cons.inj e).1
theorem dicST (Y : Fx w K mg) : He.dicW K (He.ga K "_SORTS_TOLD") = some (He.keysIn w.params kSORTSTOLD) := by
  have e : tabs.map (fun t => He.dicW K (t.1 K)) = tabs.map fun t => some (He.keysIn w.params t.2) := congrArg (fun z : He.AlT => z.2) Y.t
  exact (List.cons.inj (List.cons.inj e).2).1
/-- how many sorts a word tells, as the table answers -/
theorem stGet (Y : Fx w K mg) {x : Str} {p s : Nat} (h : shp x = some (p, s)) : ∃ (r : Option Value) (v : V), PySem.W.nsIn K (He.ga K "_SORTS_TOLD") x = some r ∧ (match r with
    | none => v = .int 0
    | some u => RelV v u) ∧ v = .int (s : Int) := by
  rcases shp_st h with ⟨m, _⟩ | ⟨rfl, no⟩
  · obtain ⟨u, eu, ru⟩ := He.valsB_ok Y.x10 m
    exact ⟨some u, .int (s : Int), eu, ru, rfl⟩
  · exact ⟨none, .int 0, dicW_no (dicST Y) no, rfl, rfl⟩
theorem ok_pbv (F : FnP K "parts_below" sPartsBelow f fd) (Y : Fx w K mg) : FnOk P w K mg base CX0 1 f fd ["term"] (spPBv K) := by
  obtain ⟨es, n, D⟩ := Y.kPARTSBELOW
  refine okD F scPB (fun vs H Q E h => ?_) (fun cdv A outer s H vs Q E hr h => ?_)
  · obtain ⟨a, x, xs, p, s, rfl, _⟩ := h
    rfl
  · have nd := scPB.nd
    refine ⟨_, pss_one (ps_ret (pe_slice sl_tupA (pv 0) (po_some pe_int) (po_some (pe_op op_add pe_int (pe_ix ix_kdict (pe_glob (v := .ref (He.ga K "_PARTS_BELOW")) (by rfl) Y.gPARTSBELOW rfl) (pe_ix ix_tup (pv 0) pe_int (fun _ _ => rfl)) (fun _ _ => rfl)))))), ?_⟩
    obtain ⟨a, x, xs, p, s, rfl, h1, hs, lp, k⟩ := h
    obtain ⟨u, eu, ru⟩ := He.valsB_ok Y.x9 (shp_pb hs)
    refine ⟨_, rfl, _, rfl, _, rfl, a, _, 0, _, rfl, rfl, h1, atI_0 _ _, _, _, _, rfl, rfl, ⟨es, n, u, D.at_, D.lit, eu, ru⟩, ?_⟩
    refine ⟨_, _, rfl, rfl, _, rfl, a, _, rfl, h1, fun hh => absurd ⟨hh.1, trivial⟩ (sIx_1 _ _), fun _ T hT => ?_⟩
    rw [show (1 : Int) + (p : Int) = ((1 + p : Nat) : Int) by omega, cutV_1 _ _ _ lp]
    exact k T _ (same_upd hT) upd_same
theorem ok_stv (F : FnP K "sorts_told" sSortsTold f fd) (Y : Fx w K mg) : FnOk P w K mg base CX0 1 f fd ["part"] (spSTv K) := by
  obtain ⟨es, n, D⟩ := Y.kSORTSTOLD
  refine okD F scST (fun vs H Q E h => ?_) (fun cdv A outer s H vs Q E hr h => ?_)
  · obtain ⟨a, x, xs, p, s, rfl, _⟩ := h
    rfl
  · have nd := scST.nd
    refine ⟨_, pss_one (ps_ret (pe_slice sl_tupA (pv 0) (po_some pe_int) (po_some (pe_op op_add pe_int (pe_kdget2 D (pe_glob (v := .ref (He.ga K "_SORTS_TOLD")) (by rfl) Y.gSORTSTOLD rfl) (pe_ix ix_tup (pv 0) pe_int (fun _ _ => rfl)) pe_int ⟨rfl, rfl, rfl, rfl⟩))))), ?_⟩
    obtain ⟨a, x, xs, p, s, rfl, h1, hs, ls, k⟩ := h
    obtain ⟨r, v, e1, e2, rfl⟩ := stGet Y hs
    refine ⟨_, rfl, _, rfl, rfl, _, rfl, a, _, 0, _, rfl, rfl, h1, atI_0 _ _, x, r, .int (s : Int), rfl, e1, e2, ?_⟩
    refine ⟨_, _, rfl, rfl, _, rfl, a, _, rfl, h1, fun hh => absurd ⟨hh.1, trivial⟩ (sIx_1 _ _), fun _ T hT => ?_⟩
    rw [show (1 : Int) + (s : Int) = ((1 + s : Nat) : Int) by omega, cutV_1 _ _ _ ls]
    exact k T _ (same_upd hT) upd_same
theorem ok_hf (F : FnP K "has_form" sHasForm f fd) (Y : Fx w K mg) : FnOk P w K mg base CX0 2 f fd ["frame", "value"] (spHF K) := by
  obtain ⟨es, n, D⟩ := Y.kPARTSBELOW
  obtain ⟨es2, n2, D2⟩ := Y.kSORTSTOLD
  obtain ⟨d1, F1⟩ := Y.dFrame_HasLetter
  obtain ⟨d2, F2⟩ := Y.dFrame_HasSort
  obtain ⟨d3, F3⟩ := Y.dSortsTold
  have b1 := FunD.bindsN (ps := ["self", "value"]) F1 fun _ _ _ _ _ _ us hl => match us, hl with | [_, _], _ => rfl
  have b2 := FunD.bindsN (ps := ["self", "value"]) F2 fun _ _ _ _ _ _ us hl => match us, hl with | [_, _], _ => rfl
  have b3 := FunD.bindsN (ps := ["part"]) F3 fun _ _ _ _ _ _ us hl => match us, hl with | [_], _ => rfl
  have G1 : FnOk P w K mg base CX0 1 _ d1 ["self", "value"] (spHL K) := ok_hl F1 Y
  have G2 : FnOk P w K mg base CX0 1 _ d2 ["self", "value"] (spHS K) := ok_hs F2 Y
  have G3 : FnOk P w K mg base CX0 1 _ d3 ["part"] (spSTv K) := ok_stv F3 Y
  refine okD F scHF (fun vs H Q E h => ?_) (fun cdv A outer s H vs Q E hr h => ?_)
  · obtain ⟨x, v, d, xs, ls, rfl, _⟩ := h
    rfl
  · have nd := scHF.nd
    refine ⟨_, pss_cons (ps_if (pw_or (pt_not (pt_val (pe_callB call_isi (by rfl) Y.bIsinstance boot_isinstance (pa_cons (pv 1) (pa_cons (pe_bltn (v := .ty "tuple") (u := .type "tuple") (by rfl) Y.bTuple (by decide +kernel) rfl) pa_nil)))))
        (pw_or1 (pt_not (pt_truth (pv 1) (by intro _; rfl))))).pt (pss_one (ps_ret pe_bl)) pss_nil)
      (pss_cons (ps_set (i := 2) nd rfl (Or.inl rfl) (pe_ix ix_tup (pv 1) pe_int (fun _ _ => rfl)))
      (pss_cons (ps_if (pw_or (pt_not (pt_val (pe_callB call_isi (by rfl) Y.bIsinstance boot_isinstance (pa_cons (pv 2) (pa_cons (pe_bltn (v := .ty "str") (u := .type "str") (by rfl) Y.bStr (by decide +kernel) rfl) pa_nil)))))
        (pw_or1 (pt_cmpR (op_notIn_kd D) (pv 2) (pe_glob (v := .ref (He.ga K "_PARTS_BELOW")) (by rfl) Y.gPARTSBELOW rfl) (by rfl)))).pt (pss_one (ps_ret pe_bl)) pss_nil)
      (pss_cons (ps_if (pt_cmpR op_eq (pv 2) pe_str (nomark _)) (pss_one (ps_ret (pe_and (pe_cmpR op_eq (pe_callB call_len_seq (by rfl) Y.bLen PySem.boot_len (pa_cons (pv 1) pa_nil)) pe_int (nomark _))
        (pe_one (pe_meth (pv 0) Y.cFrame Y.mFrame_HasLetter G1 hr b1 .nil pass0 (pa_cons (pe_ix ix_tup (pv 1) pe_int (fun _ _ => rfl)) pa_nil)))))) pss_nil)
      (pss_cons (ps_if (pt_cmpR op_ne (pe_callB call_len_seq (by rfl) Y.bLen PySem.boot_len (pa_cons (pv 1) pa_nil)) (pe_op op_add (pe_op op_add pe_int (pe_ix ix_kdict (pe_glob (v := .ref (He.ga K "_PARTS_BELOW")) (by rfl) Y.gPARTSBELOW rfl) (pv 2) (fun _ _ => rfl)))
          (pe_kdget2 D2 (pe_glob (v := .ref (He.ga K "_SORTS_TOLD")) (by rfl) Y.gSORTSTOLD rfl) (pv 2) pe_int ⟨rfl, rfl, rfl, rfl⟩)) (nomark _)) (pss_one (ps_ret pe_bl)) pss_nil)
      (pss_one (ps_ret (pe_callB (cr_all rfl) (by rfl) Y.bAll (by decide +kernel) (pa_cons (pe_lc (own := [("sort", 3)]) (g := gName 3) (tt := tYes) (te := tMeth (CFrame K) "has_sort" (spHS K) [] E0 (tVar 0) (tCons (tVar 3) tNil)) rfl nd
        (pi_seqA (pe_call G3 hr (by rfl) Y.gSortsTold F3.kp b3 .nil pass0 (pa_cons (pv 1) pa_nil))) (blkOk_by (N := NHF) (sc := defScope sHasForm) (by decide +kernel)) (fun _ _ _ _ _ => pg_name (i := 3) nd rfl (Or.inl rfl)) (fun _ _ _ _ _ => pts_nil)
        (fun _ _ _ _ _ => pe_meth (pv 0) Y.cFrame Y.mFrame_HasSort G2 hr b2 .nil pass0 (pa_cons (pv 3) pa_nil))) pa_nil)))))))), ?_⟩
    obtain ⟨x, v, d, xs, ls, rfl, hF, hv, k⟩ := h
    obtain ⟨tz, hF⟩ := hF
    obtain ⟨T, hT, _, kb⟩ := hv.ty
    refine ⟨_, rfl, _, _, _, _, kdTup d, rfl, .ty _, hT, kit_ty kb, _, rfl, ?_⟩
    rcases hv.tupD with ⟨a, vs, ds, rfl, rfl, hq, hg⟩ | hno
    · refine iteF ?_
      refine ⟨_, rfl, _, .inr (.inl ⟨_, hq, rfl⟩), ?_⟩
      cases hg with
      | nil => exact iteT (k _ (Same.refl _))
      | @cons v0 vs d0 ds h0 hg =>
        refine iteF ?_
        obtain ⟨T0, hT0, kb0, _⟩ := h0.ty
        refine ⟨_, rfl, a, _, 0, _, rfl, rfl, hq, atI_0 _ _, ?_⟩
        refine ⟨_, rfl, _, _, _, _, kdStr d0, rfl, .ty _, hT0, kit_ty kb0, _, rfl, ?_⟩
        rcases h0.strD with ⟨z, rfl, rfl⟩ | ⟨ez, hz⟩
        · refine iteF ?_
          cases hs : shp z with
          | none =>
            have e : formD xs (ls.map (·.1)) (.tuple (.str z :: ds)) = false := by
              show formW xs (ls.map (·.1)) z ds = false
              unfold formW
              rw [hs]
              have n : z ≠ ("letter" : Str) := fun q => by
                subst q
                exact shp_none hs (by decide +kernel)
              rw [if_neg n]
            rw [e] at k
            refine ⟨_, rfl, z, none, rfl, rfl, dicW_no (dicPB Y) (by rw [pt_kpb]; exact shp_none hs), _, rfl, ?_⟩
            exact iteT (k _ (Same.refl _))
          | some ps =>
            obtain ⟨p, s⟩ := ps
            obtain ⟨dx, f1, f2, f3, f4, hx, _⟩ := id hF
            obtain ⟨u, eu, ru⟩ := He.valsB_ok Y.x9 (shp_pb hs)
            refine ⟨_, rfl, z, some u, rfl, rfl, eu, _, rfl, ?_⟩
            refine iteF ?_
            refine ⟨_, rfl, rfl, _, rfl, ite2 (fun hc => ?_) (fun hc => ?_)⟩
            · have ew : z = ("letter" : Str) := V.str.inj (of_decide_eq_true hc)
              have e : formD xs (ls.map (·.1)) (.tuple (.str z :: ds)) = (decide (ds.length = 1) && ds.all (inT (ls.map (·.1)))) := by
                show formW xs (ls.map (·.1)) z ds = _
                unfold formW
                rw [if_pos ew]
              rw [e] at k
              have lg := hg.len
              refine ⟨_, rfl, a, _, rfl, .inr hq, rfl, _, rfl, ite2 (fun hl => ?_) (fun hl => ?_)⟩
              · have l1 : vs.length = 1 := by
                  have z2 : ((V.str z :: vs).length : Int) = 2 := V.int.inj (of_decide_eq_true hl)
                  rw [List.length_cons] at z2
                  omega
                cases hg with
                | nil => cases l1
                | @cons v1 vs1 d1 ds1 hv1 hg1 =>
                cases hg1 with
                | cons => cases l1
                | nil =>
                refine ⟨_, rfl, x, dx, _, rfl, hx, rfl, _, rfl, a, _, 1, _, rfl, rfl, hq, rfl, x, v1, d1, xs, ls, tz, rfl, hF, hv1, ?_⟩
                have e2 : (decide ([d1].length = 1) && [d1].all (inT (ls.map (·.1)))) = isTx v1 (ls.map (·.1)) := by
                  rw [isTx_inT hv1]
                  simp
                rw [e2] at k
                exact k _ (Same.refl _)
              · have n1 : ds.length ≠ 1 := fun q => hl (by
                  rw [List.length_cons, lg, q]
                  rfl)
                rw [decide_eq_false n1, Bool.false_and] at k
                exact k _ (Same.refl _)
            · have ew : z ≠ ("letter" : Str) := fun q => hc (by rw [q]; exact decide_eq_true rfl)
              have e : formD xs (ls.map (·.1)) (.tuple (.str z :: ds)) = (decide (ds.length = p + s) && (ds.take s).all (inT xs)) := by
                show formW xs (ls.map (·.1)) z ds = _
                unfold formW
                rw [if_neg ew, hs]
              rw [e] at k
              have lg := hg.len
              obtain ⟨r, rv, e1, e2, rfl⟩ := stGet Y hs
              refine ⟨_, rfl, a, _, rfl, .inr hq, _, rfl, _, _, _, rfl, rfl, ⟨es, n, u, D.at_, D.lit, eu, ru⟩, ?_⟩
              refine ⟨_, _, rfl, rfl, rfl, _, rfl, z, r, .int (s : Int), rfl, e1, e2, _, _, rfl, rfl, rfl, _, rfl, ite2 (fun hl => ?_) (fun hl => ?_)⟩
              · have n1 : ds.length ≠ p + s := fun q => by
                  have z2 : V.int ((V.str z :: vs).length : Int) ≠ V.int (1 + (p : Int) + (s : Int)) := by simpa using hl
                  refine z2 (congrArg V.int ?_)
                  rw [List.length_cons, lg, q]
                  omega
                rw [decide_eq_false n1, Bool.false_and] at k
                exact k _ (Same.refl _)
              · have n1 : ds.length = p + s := by
                  have z2 : V.int ((V.str z :: vs).length : Int) = V.int (1 + (p : Int) + (s : Int)) := by simpa using hl
                  have z3 := V.int.inj z2
                  rw [List.length_cons] at z3
                  omega
                rw [decide_eq_true n1, Bool.true_and] at k
                have hx2 := (hg.take s)
                have lt := hx2.len
                have s2 : s ≤ 2 := by
                  have z2 := List.all_eq_true.mp (show (PT.all fun q => decide (q.2.2 ≤ 2)) = true by decide +kernel) _ (shp_some hs)
                  exact of_decide_eq_true z2
                refine ⟨_, rfl, a, z, vs, p, s, rfl, hq, hs, by omega, fun T2 H1 s1 hT2 => ?_⟩
                refine ⟨T2, vs.take s, rfl, .inr (SqT.of hT2), fun J GG wk gk D hD => ?_⟩
                refine lc_it wk (fun i G => G D = some (.lst ((((ds.take s).take i).map (inT xs)).map V.bl)) ∧ Same H1 G) ⟨upd_same, same_upd hD⟩ (fun i G _ p => gk G p.2) ?_ ?_
                · rintro i v G G' hi ⟨e, sm⟩ ⟨rfl, ev⟩
                  obtain ⟨d', ed, hv'⟩ := hx2.at_ ev
                  have sm1 := s1.trans sm
                  have li := (List.getElem?_eq_some_iff.mp ed).1
                  rw [List.length_take] at li
                  refine ⟨rfl, _, rfl, x, dx, _, rfl, sm1 _ _ hx, rfl, _, rfl, x, v, d', xs, ls, tz, rfl, hF.same sm1, hv'.mono sm1, ?_⟩
                  refine ⟨_, e, ?_, ?_, same_put hD sm⟩
                  · rw [List.length_map, List.length_map, List.length_take, List.length_take]
                    exact small1000 (by omega)
                  · rw [upd_same, List.take_add_one, ed, isTx_inT hv']
                    simp
                · rintro G ⟨e, sm⟩
                  rw [lt, List.take_length] at e
                  refine ⟨D, _, rfl, SqL.of e, ?_⟩
                  have z3 := k G (s1.trans sm)
                  rw [List.all_map]
                  exact z3
        · have e : formD xs (ls.map (·.1)) (.tuple (d0 :: ds)) = false := by
            cases d0 with
            | str z => cases ez
            | _ => rfl
          rw [e] at k
          rw [ez]
          exact iteT (iteT (k _ (Same.refl _)))
    · have e : formD xs (ls.map (·.1)) d = false := by
        cases d with
        | tuple ds => cases hno
        | _ => rfl
      rw [e] at k
      rw [hno]
      exact iteT (iteT (k _ (Same.refl _)))
end
end K43

namespace K43
open PySem PySem.Spec PyProof.Rows L2 Ow Xv
/-! ### a path with its part; the raise of BadTerm; _below over any value -/
def paV (p : List Nat) : List V := p.map fun n : Nat => V.int (n : Int)
abbrev PaV (α : Type) : Type := List Nat × V × α
section
variable {α : Type} {K : PySem.W.Frag} {H H' : Hp}
def Pr (K : PySem.W.Frag) (H : Hp) (r : Addr) (x : PaV α) : Prop := ∃ q : Addr, SqT K H r [.ref q, x.2.1] ∧ H q = some (.tup (paV x.1))
inductive Prs (K : PySem.W.Frag) (H : Hp) : List Addr → List (PaV α) → Prop
  | nil : Prs K H [] []
  | cons {a : Addr} {t : PaV α} {as : List Addr} {ts : List (PaV α)} : Pr K H a t → Prs K H as ts → Prs K H (a :: as) (t :: ts)
theorem Pr.same (s : Same H H') {r : Addr} {t : PaV α} (h : Pr K H r t) : Pr K H' r t := let ⟨q, a, b⟩ := h; ⟨q, sqt_same s a, s _ _ b⟩
theorem Pr.put {D : Addr} {l : List V} {o : HO} (e : H D = some (.lst l)) {r : Addr} {t : PaV α} (h : Pr K H r t) : Pr K (upd H D o) r t := let ⟨q, a, b⟩ := h; ⟨q, sqt_put e a, (upd_ne fun z => by subst z; rw [e] at b; cases b).trans b⟩
theorem Prs.same (s : Same H H') : ∀ {as : List Addr} {ts : List (PaV α)}, Prs K H as ts → Prs K H' as ts
  | _, _, .nil => .nil
  | _, _, .cons h g => .cons (h.same s) (g.same s)
theorem Prs.put {D : Addr} {l : List V} {o : HO} (e : H D = some (.lst l)) : ∀ {as : List Addr} {ts : List (PaV α)}, Prs K H as ts → Prs K (upd H D o) as ts
  | _, _, .nil => .nil
  | _, _, .cons h g => .cons (h.put e) (g.put e)
theorem Prs.len : ∀ {as : List Addr} {ts : List (PaV α)}, Prs K H as ts → as.length = ts.length
  | _, _, .nil => rfl
  | _, _, .cons _ g => congrArg Nat.succ g.len
theorem Prs.app : ∀ {as bs : List Addr} {ts us : List (PaV α)}, Prs K H as ts → Prs K H bs us → Prs K H (as ++ bs) (ts ++ us)
  | _, _, _, _, .nil, g => g
  | _, _, _, _, .cons h r, g => .cons h (r.app g)
theorem Prs.rev : ∀ {as : List Addr} {ts : List (PaV α)}, Prs K H as ts → Prs K H as.reverse ts.reverse
  | _, _, .nil => .nil
  | _, _, .cons h g => by rw [List.reverse_cons, List.reverse_cons]; exact g.rev.app (.cons h .nil)
theorem Prs.get : ∀ {as : List Addr} {ts : List (PaV α)}, Prs K H as ts → ∀ {i : Nat} {a : Addr}, as[i]? = some a → ∃ t, ts[i]? = some t ∧ Pr K H a t
  | _, _, .nil, i, a, e => by cases e
  | _, _, .cons h r, 0, a, e => ⟨_, rfl, (Option.some.inj e) ▸ h⟩
  | _, _, .cons h r, i + 1, a, e => r.get (i := i) e
theorem Prs.last {as : List Addr} {a : Addr} {ts : List (PaV α)} (h : Prs K H (as ++ [a]) ts) : ∃ us t, ts = us ++ [t] ∧ Prs K H as us ∧ Pr K H a t := by
  have z := h.rev
  rw [List.reverse_append] at z
  generalize e : ts.reverse = rs at z
  cases z with
  | cons h1 g1 =>
    rename_i t rs'
    have e2 : ts = rs'.reverse ++ [t] := by rw [← List.reverse_reverse ts, e, List.reverse_cons]
    have g2 : Prs K H as rs'.reverse := by
      have z2 := g1.rev
      simpa using z2
    exact ⟨_, _, e2, g2, h1⟩
end
theorem scXN6 : FnScope ["self", "path"] ["self", "path"] (defScope sBadTerm_Init) := ⟨rfl, rfl, rfl, by decide +kernel, rfl, by decide +kernel, by decide +kernel⟩
def spXP (K : PySem.W.Frag) (C : Addr) (n : Str) : Sp := fun vs H Q _ => ∃ (a q : Addr) (zs : List V), vs = [.ref a, .ref q] ∧ H a = some (exo a C none) ∧ SqT K H q zs ∧ ∀ (dx : Addr), H dx = none → dx ≠ a → Q .non (upd (upd H dx (exd dx [(n, .ref q)])) a (exo a C (some dx)))
theorem mkO_tup {K : PySem.W.Frag} {C q : Addr} {n : Str} {zs : List V} {H : Hp} {Q : XK} (hq : SqT K H q zs) (k : ∀ (d : Addr) (H' : Hp), Same H H' → H d = none → H' d = some (.xd [(n, .ref q)]) → Q (.ref C) (some d) H') (a : Addr) (ha : H a = none) :
    spXP K C n (.ref a :: ([.ref q] ++ [])) (upd H a (exo a C none)) (fun v H2 => v = .non ∧ ∃ (d : Addr) (fs : List (Str × V)), H2 a = some (exo a C (some d)) ∧ H2 d = some (exd d fs) ∧ H d = none ∧ Q (.ref C) (some d) (upd (del H2 a) d (.xd fs))) (fun _ _ _ => False) := by
  refine ⟨a, q, zs, rfl, upd_same, sqt_same (same_upd ha) hq, fun dx h1 h2 => ?_⟩
  have hd1 : H dx = none := (upd_ne h2).symm.trans h1
  refine ⟨rfl, dx, _, upd_same, (upd_ne h2).trans upd_same, hd1, k dx _ (fun b o eb => ?_) hd1 upd_same⟩
  have n1 := ne_of_none eb ha
  have n2 := ne_of_none eb hd1
  rw [upd_ne n2, del_ne n1, upd_ne n1, upd_ne n2, upd_ne n1]
  exact eb
abbrev NBe : List Str := ["path", "part", "number", "below"]
theorem scBe : FnScope NBe ["path", "part"] (defScope sBelow) := ⟨rfl, rfl, rfl, by decide +kernel, rfl, by decide +kernel, by decide +kernel⟩
def spBe (α : Type) (K : PySem.W.Frag) : Sp := fun vs H Q _ => ∃ (q a : Addr) (p : List Nat) (x : Str) (xs : List V) (m s : Nat) (kids : List (V × α)), vs = [.ref q, .ref a] ∧ SqT K H q (paV p) ∧ p.length ≤ 900 ∧ SqT K H a (.str x :: xs) ∧ shp x = some (m, s) ∧ m ≤ xs.length ∧ kids.map (·.1) = xs.take m ∧
  ∀ (L : Addr) (rs : List Addr) (H' : Hp), Same H H' → H L = none → H' L = some (.lst (rs.map V.ref)) → Prs K H' rs (kp p 0 kids) → Q (.ref L) H'
section
variable {P : Program} {w : World} {K : PySem.W.Frag} {mg : Str → Option Value} {base : Heap} {f : Addr} {fd : FuncData}
theorem Fx.xBT (Y : Fx w K mg) : XC K (CBadTerm K) "path" veB "ValueError.__new__" := xc_of Y.x6
theorem raBT (Y : Fx w K mg) : RaC P w K mg base (CBadTerm K) ["self", "path"] (spXP K (CBadTerm K) "path") := by
  obtain ⟨fd, F⟩ := Y.dBadTerm_Init
  have b := FunD.bindsN (ps := ["self", "path"]) F fun _ _ _ _ _ _ us hl => match us, hl with | [_, _], _ => rfl
  refine ⟨⟨_, _, _, _, _, fd, PySem.F.excBase_ValueError, Y.xBT.q, Y.xBT.iC, Y.xBT.tI, ?_, b⟩, Y.xBT.ec.kp, Y.xBT.ec.be, Y.xBT.ty⟩
  refine okD F scXN6 (fun vs H Q E h => ?_) (fun cdv A outer s H vs Q E hr h => ?_)
  · obtain ⟨a, m, zs, rfl, _⟩ := h
    rfl
  · refine ⟨_, pss_one (ps_st (C := CBadTerm K) PySem.F.store_ValueError Y.xBT.ec Y.xBT.ov Y.xBT.tk (pv 0) (pe_callTy call_tuple_of (by rfl) Y.bTuple (by decide +kernel) (pa_cons (pv 1) pa_nil))), ?_⟩
    obtain ⟨a, q, zs, rfl, ha, hq, k⟩ := h
    exact ⟨_, rfl, q, zs, rfl, .inr ⟨hq, _, rfl, a, rfl, .inl ⟨ha, fun dx h1 h2 => k dx h1 h2⟩⟩⟩
theorem ok_be {α : Type} (F : FnP K "_below" sBelow f fd) (Y : Fx w K mg) : FnOk P w K mg base CX0 2 f fd ["path", "part"] (spBe α K) := by
  obtain ⟨d1, F1⟩ := Y.dPartsBelow
  have b1 := FunD.bindsN (ps := ["term"]) F1 fun _ _ _ _ _ _ us hl => match us, hl with | [_], _ => rfl
  have G1 : FnOk P w K mg base CX0 1 _ d1 ["term"] (spPBv K) := ok_pbv F1 Y
  refine okD F scBe (fun vs H Q E h => ?_) (fun cdv A outer s H vs Q E hr h => ?_)
  · obtain ⟨q, a, pp, x, xs, m, s, kids, rfl, _⟩ := h
    rfl
  · have nd := scBe.nd
    refine ⟨_, pss_one (ps_ret (pe_lc (own := [("number", 2), ("below", 3)]) (g := gTup K 2 (gCons (gName 2) (gCons (gName 3) gNil))) (tt := tYes) (te := tTup (tCons (tOp (rCatA K) (tVar 0) (tTup (tCons (tVar 2) tNil))) (tCons (tVar 3) tNil))) rfl nd
      (pi_enumA (by rfl) Y.bEnumerate (pa_cons (pe_call G1 hr (by rfl) Y.gPartsBelow F1.kp b1 .nil pass0 (pa_cons (pv 1) pa_nil)) pa_nil)) (blkOk_by (N := NBe) (sc := defScope sBelow) (by decide +kernel))
      (fun _ _ _ _ _ => pg_tup rfl (pgs_cons (pg_name (i := 2) nd rfl (Or.inl rfl)) (pgs_cons (pg_name (i := 3) nd rfl (Or.inl rfl)) pgs_nil))) (fun _ _ _ _ _ => pts_nil)
      (fun _ _ _ _ _ => pe_tup (pa_cons (pe_op op_catA (pv 0) (pe_tup (pa_cons (pv 2) pa_nil))) (pa_cons (pv 3) pa_nil))))), ?_⟩
    obtain ⟨q, a, pp, x, xs, m, sn, kids, rfl, hq, lx, ha, hs, lm, ek, k⟩ := h
    have lpv : (paV pp).length = pp.length := by unfold paV; rw [List.length_map]
    have m2 : m ≤ 2 := by
      have z2 := List.all_eq_true.mp (show (PT.all fun q => decide (q.2.1 ≤ 2)) = true by decide +kernel) _ (shp_some hs)
      exact of_decide_eq_true z2
    have lk : kids.length ≤ 2 := by
      have z := congrArg List.length ek
      rw [List.length_map, List.length_take] at z
      omega
    refine ⟨_, rfl, a, x, xs, m, sn, rfl, ha, hs, lm, fun p H1 s1 hp => ?_⟩
    rw [← ek] at hp
    refine ⟨p, kids.map (·.1), rfl, .inr (SqT.of hp), fun J GG wk gk D hD => lc_it wk (fun i G => ∃ rs : List Addr, G D = some (.lst (rs.map V.ref)) ∧ Prs K G rs ((kp pp 0 kids).take i) ∧ Same H1 G) ⟨[], upd_same, .nil, same_upd hD⟩ (fun i G _ ⟨_, _, _, z⟩ => gk G z) ?_ ?_⟩
    · rintro i v G G' hi ⟨rs, e, hP, sm⟩ ⟨T, x, y, rfl, hT, rfl, ex, ey⟩
      cases ex
      obtain ⟨kd, eu, rfl⟩ : ∃ u, kids[i]? = some u ∧ y = u.1 := by
        replace ey : (kids.map (·.1))[i]? = some y := ey
        rw [List.getElem?_map] at ey
        cases z : kids[i]? with
        | none => rw [z] at ey; cases ey
        | some u => rw [z] at ey; exact ⟨u, rfl, (Option.some.inj ey).symm⟩
      have li := (List.getElem?_eq_some_iff.mp eu).1
      have ekp := kp_at (p := pp) (i := 0) eu
      rw [Nat.zero_add] at ekp
      have lr := hP.len
      rw [List.length_take] at lr
      have sT := same_upd (o := .tup [V.int (i : Int), kd.1]) hT
      refine ⟨T, _, rfl, SqT.of upd_same, rfl, _, _, rfl, _, _, rfl, rfl, rfl, _, rfl, _, rfl, szl (by show 1 ≤ 1000; decide), fun T2 hT2 => ?_⟩
      have sT2 := same_upd (o := .tup [V.int (i : Int)]) hT2
      refine ⟨q, T2, paV pp, [.int (i : Int)], rfl, rfl, sqt_same (s1.trans (sm.trans (sT.trans sT2))) hq, SqT.of upd_same, szl (by show (paV pp).length + 1 ≤ 1000; omega), fun hx => ?_, fun hx h0 => absurd h0 (List.cons_ne_nil _ _), fun hx _ => ?_⟩
      · refine ⟨_, rfl, szl (by show 2 ≤ 1000; decide), fun T3 hT3 => ?_⟩
        have sT3 := same_upd (o := .tup [V.ref T2, kd.1]) hT3
        have s9 := sT.trans (sT2.trans sT3)
        have e9 := s9 _ _ e
        refine ⟨_, e9, ?_, rs ++ [T3], ?_, ?_, same_put hD (sm.trans s9)⟩
        · rw [List.length_map]
          exact small1000 (by omega)
        · rw [upd_same, List.map_append]
          rfl
        · rw [List.take_add_one, ekp]
          have p0 : pp = [] := by cases pp with
            | nil => rfl
            | cons x l => cases hx
          refine Prs.put e9 ((hP.same s9).app (.cons ⟨T2, SqT.of upd_same, ?_⟩ .nil))
          rw [p0]
          exact sT3 _ _ (upd_same : upd _ T2 (.tup [V.int (i : Int)]) T2 = _)
      · intro T4 hT4
        have sT4 := same_upd (o := .tup (paV pp ++ [V.int (i : Int)])) hT4
        refine ⟨_, rfl, szl (by show 2 ≤ 1000; decide), fun T3 hT3 => ?_⟩
        have sT3 := same_upd (o := .tup [V.ref T4, kd.1]) hT3
        have s9 := sT.trans (sT2.trans (sT4.trans sT3))
        have e9 := s9 _ _ e
        refine ⟨_, e9, ?_, rs ++ [T3], ?_, ?_, same_put hD (sm.trans s9)⟩
        · rw [List.length_map]
          exact small1000 (by omega)
        · rw [upd_same, List.map_append]
          rfl
        · rw [List.take_add_one, ekp]
          refine Prs.put e9 ((hP.same s9).app (.cons ⟨T4, SqT.of upd_same, ?_⟩ .nil))
          rw [show paV (pp ++ [i]) = paV pp ++ [V.int (i : Int)] by unfold paV; rw [List.map_append]; rfl]
          exact sT3 _ _ upd_same
    · rintro G ⟨rs, e, hP, sm⟩
      rw [List.length_map, List.take_of_length_le (by rw [kp_len]; exact Nat.le_refl _)] at hP
      have hD0 : H D = none := by
        cases z : H D with
        | none => rfl
        | some u => exact absurd (s1 _ _ z) (by rw [hD]; intro q; cases q)
      exact k D rs G (s1.trans sm) hD0 e hP
end
end K43

namespace K43
open PySem PySem.Spec PyProof.Rows L2 Ow Xv
/-! ### the parts of a value checked -/
theorem formD_some {xs ns : List Str} {d : PyData} (h : formD xs ns d = true) : ∃ (w : Str) (ds : List PyData) (m s : Nat), d = .tuple (.str w :: ds) ∧ shp w = some (m, s) ∧ m ≤ ds.length ∧ s ≤ ds.length + (if w = ("letter" : Str) then 1 else 0) ∧ kidsD d = ds.take m := by
  unfold formD at h
  split at h
  · rename_i w ds
    unfold formW at h
    by_cases c : w = ("letter" : Str)
    · subst c
      exact ⟨_, ds, 0, 0, rfl, by decide +kernel, Nat.zero_le _, Nat.zero_le _, by
        show (match shp "letter" with
          | some (p, _) => ds.take p
          | none => []) = _
        rw [show shp "letter" = some (0, 0) by decide +kernel]⟩
    · rw [if_neg c] at h
      cases hs : shp w with
      | none => rw [hs] at h; cases h
      | some q =>
        obtain ⟨m, s⟩ := q
        rw [hs] at h
        obtain ⟨h1, _⟩ := an h
        have l := of_decide_eq_true h1
        refine ⟨w, ds, m, s, rfl, hs, by omega, by omega, ?_⟩
        show (match shp w with
          | some (p, _) => ds.take p
          | none => []) = _
        rw [hs]
  · cases h
theorem none_same {H G : Hp} (s : Same H G) {D : Addr} (hD : G D = none) : H D = none := none_of s hD
def lenAt (σ : L2.St) (i : Nat) (G : Hp) : Nat := match σ[i]? with
  | some (some (V.ref b)) => (match G b with
    | some (.lst zs) => zs.length
    | _ => 0)
  | _ => 0
theorem VaAll.zip {K : PySem.W.Frag} {H : Hp} : ∀ {vs : List V} {ds : List PyData}, VaAll K H vs ds → (∀ q ∈ vs.zip ds, Va K H q.1 q.2) ∧ (vs.zip ds).map (·.1) = vs ∧ (vs.zip ds).map (·.2) = ds
  | _, _, .nil => ⟨fun _ h => absurd h List.not_mem_nil, rfl, rfl⟩
  | _, _, .cons h g => by
    obtain ⟨a, b, c⟩ := VaAll.zip g
    refine ⟨fun q hq => ?_, by rw [List.zip_cons_cons, List.map_cons, b], by rw [List.zip_cons_cons, List.map_cons, c]⟩
    rw [List.zip_cons_cons] at hq
    rcases List.mem_cons.mp hq with z | z
    · rw [z]; exact h
    · exact a q z
abbrev NPC : List Str := ["frame", "value", "found", "waiting", "path", "part"]
theorem scPC : FnScope NPC ["frame", "value"] (defScope sPartsChecked) := ⟨rfl, rfl, rfl, by decide +kernel, rfl, by decide +kernel, by decide +kernel⟩
def stkD (xs ns : List Str) (us : List (PaV PyData)) : List (List Nat × PyData) := us.reverse.flatMap fun u => preD xs ns u.1 u.2.2
theorem stk_push {xs ns : List Str} {us : List (PaV PyData)} {p : List Nat} {d : PyData} {v : V} {kids : List (V × PyData)} (hf : formD xs ns d = true) (hk : kids.map (·.2) = kidsD d) :
    stkD xs ns (us ++ [(p, v, d)]) = (p, d) :: stkD xs ns (us ++ (kp p 0 kids).reverse) := by
  unfold stkD
  rw [List.reverse_append, List.reverse_append, List.reverse_reverse]
  show preD xs ns p d ++ _ = _
  rw [preD_eq, if_pos hf, List.flatMap_append, List.cons_append]
  congr 2
  rw [← hk, ← kp_map (fun q : V × PyData => q.2) kids 0, List.flatMap_def, List.flatMap_def, List.map_map]
  rfl
theorem stk_bad {xs ns : List Str} {us : List (PaV PyData)} {p : List Nat} {d : PyData} {v : V} (hf : formD xs ns d = false) : (stkD xs ns (us ++ [(p, v, d)])).find? (badP xs ns) = some (p, d) := by
  unfold stkD
  rw [List.reverse_append]
  show (preD xs ns p d ++ _).find? _ = _
  rw [preD_eq, List.cons_append, List.find?_cons]
  unfold badP
  rw [show (!formD xs ns (p, d).2) = true by rw [hf]; rfl]
theorem stk_len {xs ns : List Str} (us : List (PaV PyData)) : us.length ≤ (stkD xs ns us).length := by
  unfold stkD
  rw [← List.length_reverse (as := us)]
  generalize us.reverse = l
  induction l with
  | nil => exact Nat.le_refl _
  | cons x l ih =>
    rw [List.flatMap_cons, List.length_append, List.length_cons, preD_eq, List.length_cons]
    omega
def spPCv (K : PySem.W.Frag) : Sp := fun vs H Q E => ∃ (x : Addr) (v : V) (d : PyData) (xs : List Str) (ls : List Lt), vs = [.ref x, v] ∧ FrmA K H x xs ls ∧ Va K H v d ∧ (preD xs (ls.map (·.1)) [] d).length ≤ 400 ∧
  (∀ p, fl xs (ls.map (·.1)) d = some p → ∀ (q dx : Addr) (H' : Hp), Same H H' → SqT K H' q (paV p) → H dx = none → H' dx = some (.xd [("path", .ref q)]) → E (.ref (CBadTerm K)) (some dx) H') ∧
  (fl xs (ls.map (·.1)) d = none → ∀ (L : Addr) (H' : Hp), Same H H' → Q (.ref L) H')
section
variable {P : Program} {w : World} {K : PySem.W.Frag} {mg : Str → Option Value} {base : Heap} {f : Addr} {fd : FuncData}
theorem ok_pcv (F : FnP K "_parts_checked" sPartsChecked f fd) (Y : Fx w K mg) : FnOk P w K mg base (L2.CX P w) 3 f fd ["frame", "value"] (spPCv K) := by
  obtain ⟨d1, F1⟩ := Y.dBelow
  obtain ⟨d2, F2⟩ := Y.dHasForm
  have b1 := FunD.bindsN (ps := ["path", "part"]) F1 fun _ _ _ _ _ _ us hl => match us, hl with | [_, _], _ => rfl
  have b2 := FunD.bindsN (ps := ["frame", "value"]) F2 fun _ _ _ _ _ _ us hl => match us, hl with | [_, _], _ => rfl
  have G1 : FnOk P w K mg base CX0 2 _ d1 ["path", "part"] (spBe PyData K) := ok_be F1 Y
  have G2 : FnOk P w K mg base CX0 2 _ d2 ["frame", "value"] (spHF K) := ok_hf F2 Y
  refine F.ok scPC (fun vs H Q E h => ?_) (fun cdv A outer s H vs Q E hr h => ?_)
  · obtain ⟨x, v, d, xs, ls, rfl, _⟩ := h
    rfl
  · have nd := scPC.nd
    refine ⟨_, pss_cons (ps_set (i := 2) nd rfl (Or.inl rfl) (pe_lst pa_nil))
      (pss_cons (ps_set (i := 3) nd rfl (Or.inl rfl) (pe_lst (pa_cons (pe_tup (pa_cons (pe_tup pa_nil) (pa_cons (pv 1) pa_nil))) pa_nil)))
      (pss_cons (ps_while (passes_of rfl) (pt_truth (pv 3) (by intro _; rfl))
        (pss_cons (ps_asg (pe_bm0 PySem.F.plainAttrs_list PySem.F.slot_list_pop PySem.F.type_list_pop mt_pop (pv 3)) (pg_tup rfl (pgs_cons (pg_name (i := 4) nd rfl (Or.inl rfl)) (pgs_cons (pg_name (i := 5) nd rfl (Or.inl rfl)) pgs_nil))))
        (pss_cons (ps_if (pw_and (pt_cmp (pc_notN (pv 0))) (pw_and1 (pt_not (pt_val (pe_call G2 hr (by rfl) Y.gHasForm F2.kp b2 .nil pass0 (pa_cons (pv 0) (pa_cons (pv 5) pa_nil))))))).pt (pss_one (ps_raise rfl (takes_of rfl rfl rfl rfl) (pmk_ra (raBT Y) hr (by rfl) Y.gBadTerm (pa_cons (pv 4) pa_nil)))) pss_nil)
        (pss_cons (ps_expr (pe_bm PySem.F.plainAttrs_list PySem.F.slot_list_append PySem.F.type_list_append mt_append (pv 2) (pa_cons (pe_tup (pa_cons (pv 4) (pa_cons (pv 5) pa_nil))) pa_nil)))
        (pss_one (ps_expr (pe_bm PySem.F.plainAttrs_list PySem.F.slot_list_extend PySem.F.type_list_extend mt_extend (pv 3) (pa_cons (pe_rev (pe_call G1 hr (by rfl) Y.gBelow F1.kp b1 .nil pass0 (pa_cons (pv 4) (pa_cons (pv 5) pa_nil))) (pe_un un_neg pe_int)) pa_nil))))))))
      (pss_one (ps_ret (pv 2))))), ?_⟩
    obtain ⟨x, v, d, xs, ls, rfl, hFr, hv, z4, kE, kQ⟩ := h
    refine ⟨szl (by show 0 ≤ 1000; decide), fun Fd hF => ?_⟩
    have s0 := same_upd (o := .lst []) hF
    refine ⟨szl (by show 0 ≤ 1000; decide), fun T0 hT0 => ?_⟩
    have s1 := same_upd (o := .tup []) hT0
    refine ⟨_, rfl, szl (by show 2 ≤ 1000; decide), fun T1 hT1 => ?_⟩
    have s2 := same_upd (o := .tup [V.ref T0, v]) hT1
    refine ⟨szl (by show 1 ≤ 1000; decide), fun Wt hW => ?_⟩
    have s3 := same_upd (o := .lst [V.ref T1]) hW
    have e3F := s3 _ _ (s2 _ _ (s1 _ _ (upd_same : upd H Fd (.lst []) Fd = _)))
    have e3W := (upd_same : upd (upd (upd (upd H Fd (.lst [])) T0 (.tup [])) T1 (.tup [V.ref T0, v])) Wt (.lst [V.ref T1]) Wt = _)
    have q3 : SqT K (upd (upd (upd (upd H Fd (.lst [])) T0 (.tup [])) T1 (.tup [V.ref T0, v])) Wt (.lst [V.ref T1])) T1 [.ref T0, v] := sqt_same s3 (SqT.of upd_same)
    have q4 : (upd (upd (upd (upd H Fd (.lst [])) T0 (.tup [])) T1 (.tup [V.ref T0, v])) Wt (.lst [V.ref T1])) T0 = some (.tup (paV [])) := (s2.trans s3) _ _ upd_same
    have s9 := s0.trans (s1.trans (s2.trans s3))
    have hW0 : H Wt = none := none_same (s0.trans (s1.trans s2)) hW
    have nFW : Fd ≠ Wt := fun q => by
      subst q
      have z := (s1.trans s2) _ _ (upd_same : upd H Fd (.lst []) Fd = _)
      rw [hW] at z
      cases z
    obtain ⟨G0, eG⟩ : ∃ Z, Z = upd (upd (upd (upd H Fd (.lst [])) T0 (.tup [])) T1 (.tup [V.ref T0, v])) Wt (.lst [V.ref T1]) := ⟨_, rfl⟩
    dsimp only [gName]
    change tSeq (tWhile _ _) _ _ [some (.ref x), some v, some (.ref Fd), some (.ref Wt), none, none] (upd (upd (upd (upd H Fd (.lst [])) T0 (.tup [])) T1 (.tup [V.ref T0, v])) Wt (.lst [V.ref T1]))
    rw [← eG] at e3F e3W q3 q4 s9 ⊢
    clear eG s0 s1 s2 s3 hW hT1 hT0
    obtain ⟨ns, ens⟩ : ∃ ns, ns = ls.map (·.1) := ⟨_, rfl⟩
    rw [← ens] at z4 kE kQ
    refine while_by (fun σ G => ∃ (rs ws : List Addr) (us : List (PaV PyData)) (v4 v5 : Option V), σ = [some (.ref x), some v, some (.ref Fd), some (.ref Wt), v4, v5] ∧ G Fd = some (.lst (rs.map V.ref)) ∧ G Wt = some (.lst (ws.map V.ref)) ∧ Prs K G ws us ∧ (∀ u ∈ us, Va K H u.2.1 u.2.2 ∧ u.1.length ≤ rs.length) ∧
        (stkD xs ns us).find? (badP xs ns) = (preD xs ns [] d).find? (badP xs ns) ∧ rs.length + (stkD xs ns us).length = (preD xs ns [] d).length ∧ Same H G)
      (fun σ G => (preD xs ns [] d).length - lenAt σ 2 G) ⟨[], [T1], [([], v, d)], none, none, rfl, e3F, e3W, .cons ⟨T0, q3, q4⟩ .nil, fun u hu => by rw [List.mem_singleton.mp hu]; exact ⟨hv, Nat.le_refl _⟩, by simp [stkD], by simp [stkD], s9⟩ ?_ ?_
    · rintro σ G ⟨rs, ws, us, v4, v5, rfl, eF, eW, P2, hR, hfd, hN, sm⟩
      have l2 := P2.len
      have lu := stk_len (xs := xs) (ns := ns) us
      refine ⟨_, rfl, !(ws.map V.ref).isEmpty, .inl ⟨_, SqL.of eW, rfl⟩, ?_⟩
      rcases List.eq_nil_or_concat ws with rfl | ⟨ws', r, rfl⟩
      · refine iteF ?_
        rw [List.length_eq_zero_iff.mp l2.symm] at hfd
        refine ⟨_, rfl, kQ ?_ Fd G sm⟩
        rw [← pre_first, ← hfd]
        rfl
      · rw [List.concat_eq_append] at *
        have ne : (!((ws' ++ [r]).map V.ref).isEmpty) = true := by simp
        rw [ne]
        refine iteT ?_
        obtain ⟨us', ⟨pu, uv, u⟩, rfl, P3, q, h1, h2e⟩ := P2.last
        have h2 : SqT K G q (paV pu) := SqT.of h2e
        obtain ⟨hVu, lpu⟩ := hR (pu, uv, u) (List.mem_append_right _ List.mem_cons_self)
        replace hVu : Va K H uv u := hVu
        replace lpu : pu.length ≤ rs.length := lpu
        refine ⟨_, rfl, .inl ⟨rfl, _, SqL.of eW⟩, Wt, _, .ref r, rfl, rfl, eW, by rw [List.map_append, List.length_append, List.map_cons, List.map_nil, List.length_cons, List.length_nil, Nat.add_sub_cancel]; simp, ?_⟩
        rw [List.map_append, List.map_cons, List.map_nil, List.dropLast_concat]
        have smA := same_put (o := .lst (ws'.map V.ref)) hW0 sm
        have eFA : upd G Wt (.lst (ws'.map V.ref)) Fd = some (.lst (rs.map V.ref)) := (upd_ne nFW).trans eF
        have eWA : upd G Wt (.lst (ws'.map V.ref)) Wt = some (.lst (ws'.map V.ref)) := upd_same
        have P3A := P3.put (o := .lst (ws'.map V.ref)) eW
        have h1A := sqt_put (o := .lst (ws'.map V.ref)) eW h1
        have h2A := sqt_put (o := .lst (ws'.map V.ref)) eW h2
        generalize upd G Wt (.lst (ws'.map V.ref)) = GA at smA eFA eWA P3A h1A h2A ⊢
        refine ⟨r, _, rfl, h1A, rfl, _, _, rfl, _, _, rfl, rfl, ?_⟩
        dsimp only
        change tSeq _ _ _ [some (.ref x), some v, some (.ref Fd), some (.ref Wt), some (.ref q), some uv] GA
        refine ⟨_, rfl, _, rfl, ?_⟩
        refine iteT ?_
        refine ⟨_, rfl, _, rfl, x, uv, u, xs, ls, rfl, hFr.same smA, hVu.mono smA, fun GB sB => ⟨_, rfl, ?_⟩⟩
        rw [← ens]
        have smB := smA.trans sB
        have eFB := sB _ _ eFA
        have eWB := sB _ _ eWA
        have P3B := P3A.same sB
        have h2B := sqt_same sB h2A
        cases hf : formD xs ns u with
        | false =>
          refine iteT ?_
          have ebad := (stk_bad (us := us') (p := pu) (v := uv) hf).symm.trans hfd
          have ef : fl xs ns d = some pu := by
            rw [← pre_first, ← ebad]
            rfl
          refine ⟨_, rfl, (by show 1 ≤ 1000; decide), fun a ha => mkO_tup h2B (fun dx H' s' hd e => kE pu ef q dx H' (smB.trans s') (sqt_same s' h2B) (none_same smB hd) e) a ha⟩
        | true =>
          refine iteF ?_
          obtain ⟨wd, ds, m, sn, rfl, hs, lm, _, ek⟩ := formD_some hf
          rcases hVu.tupD with ⟨ua, xs0, ds0, rfl, ed, hq, hg⟩ | hno
          · cases ed
            cases hg with
            | @cons v0 xsv _ _ h0 hg =>
            cases h0
            have hgm := hg.take m
            obtain ⟨z1, z2, z3⟩ := VaAll.zip hgm
            have lg := hg.len
            obtain ⟨kids, ekd⟩ : ∃ kids, kids = (xsv.take m).zip (ds.take m) := ⟨_, rfl⟩
            rw [← ekd] at z1 z2 z3
            have hst := stk_push (us := us') (p := pu) (v := V.ref ua) (kids := kids) hf (z3.trans ek.symm)
            have lst := stk_len (xs := xs) (ns := ns) (us' ++ (kp pu 0 kids).reverse)
            rw [hst, List.length_cons] at hN
            have hfd2 : (stkD xs ns (us' ++ (kp pu 0 kids).reverse)).find? (badP xs ns) = (preD xs ns [] d).find? (badP xs ns) := by
              rw [← hfd, hst, List.find?_cons]
              unfold badP
              rw [show (!formD xs ns (pu, PyData.tuple (PyData.str wd :: ds)).2) = false by rw [hf]; rfl]
            rw [List.length_append, List.length_reverse] at lst
            have l9 : rs.length ≤ 399 := by omega
            have ll2 := P3.len
            have lkp : (kp pu 0 kids).length = kids.length := kp_len
            have hR2 : ∀ y ∈ us' ++ (kp pu 0 kids).reverse, Va K H y.2.1 y.2.2 ∧ y.1.length ≤ rs.length + 1 := fun y hy => by
              rcases List.mem_append.mp hy with z | z
              · have q := hR y (List.mem_append_left _ z)
                exact ⟨q.1, Nat.le_succ_of_le q.2⟩
              · obtain ⟨m1, m2⟩ := kp_mem (List.mem_reverse.mp z)
                exact ⟨z1 _ m1, by omega⟩
            have smB0 := smB
            refine ⟨_, rfl, .inl ⟨rfl, _, SqL.of eFB⟩, _, rfl, _, rfl, szl (by show 2 ≤ 1000; decide), fun T hT => ?_⟩
            have sT := same_upd (o := .tup [V.ref q, V.ref ua]) hT
            have eFC := sT _ _ eFB
            refine ⟨Fd, _, _, rfl, rfl, eFC, by rw [List.length_map]; exact small1000 (by omega), ?_⟩
            have nm : rs.map V.ref ++ [V.ref T] = (rs ++ [T]).map V.ref := by rw [List.map_append]; rfl
            rw [nm]
            have P3C := (P3B.same sT).put (o := .lst ((rs ++ [T]).map V.ref)) eFC
            have h2C := sqt_put (o := .lst ((rs ++ [T]).map V.ref)) eFC (sqt_same sT h2B)
            have smC := same_put (o := .lst ((rs ++ [T]).map V.ref)) hF (smB.trans sT)
            have eFD : upd (upd GB T (.tup [V.ref q, V.ref ua])) Fd (.lst ((rs ++ [T]).map V.ref)) Fd = some (.lst ((rs ++ [T]).map V.ref)) := upd_same
            have eWD : upd (upd GB T (.tup [V.ref q, V.ref ua])) Fd (.lst ((rs ++ [T]).map V.ref)) Wt = some (.lst (ws'.map V.ref)) := (upd_ne nFW.symm).trans (sT _ _ eWB)
            generalize upd (upd GB T (.tup [V.ref q, V.ref ua])) Fd (.lst ((rs ++ [T]).map V.ref)) = GC at P3C h2C smC eFD eWD ⊢
            refine ⟨_, rfl, .inl ⟨rfl, _, SqL.of eWD⟩, _, rfl, _, rfl, q, ua, pu, wd, xsv, m, sn, kids, rfl, h2C, by omega, sqt_same smC hq, hs, by omega, z2, fun L rs2 GD sD hL eL hP => ?_⟩
            refine ⟨_, rfl, rfl, L, _, rfl, .inl ⟨SqL.of eL, fun p hp => ?_⟩⟩
            have sp := same_upd (o := .lst (rs2.map V.ref).reverse) hp
            have eWE := sp _ _ (sD _ _ eWD)
            have lr2 := hP.len
            refine ⟨Wt, p, _, _, rfl, rfl, eWE, upd_same, szl (by rw [List.length_map, List.length_reverse, List.length_map]; omega), ?_⟩
            have nm2 : ws'.map V.ref ++ (rs2.map V.ref).reverse = (ws' ++ rs2.reverse).map V.ref := by rw [List.map_append, List.map_reverse]
            rw [nm2]
            have eFE := (upd_ne (o := HO.lst ((ws' ++ rs2.reverse).map V.ref)) nFW).trans (sp _ _ (sD _ _ eFD))
            have lr : (rs ++ [T]).length = rs.length + 1 := by rw [List.length_append]; rfl
            refine ⟨⟨rs ++ [T], ws' ++ rs2.reverse, us' ++ (kp pu 0 kids).reverse, _, _, rfl, eFE, upd_same, ?_, by rw [lr]; exact hR2, hfd2, by rw [lr]; omega, same_put hW0 (smC.trans (sD.trans sp))⟩, ?_⟩
            · exact ((P3C.same (sD.trans sp)).app (hP.same sp).rev).put eWE
            · show (preD xs ns [] d).length - (match upd (upd GD p (.lst (rs2.map V.ref).reverse)) Wt (.lst ((ws' ++ rs2.reverse).map V.ref)) Fd with
                | some (HO.lst zs) => zs.length
                | _ => 0) < (preD xs ns [] d).length - (match G Fd with
                | some (HO.lst zs) => zs.length
                | _ => 0)
              rw [eFE, eF]
              dsimp only
              rw [List.length_map, List.length_map, lr]
              omega
          · cases hno
    · rintro σ G Q1 Q2 hq ⟨v, e1, b, e2, z⟩
      exact ⟨v, e1, b, e2, hq _ _ z⟩
end
end K43

namespace K43
open PySem PySem.Spec PyProof.Rows L2 Ow Xv
/-! ### values with form are terms; their ends -/
def dat : Tm → PyData
  | .leaf w ss => .tuple (.str w :: ss.map PyData.str)
  | .one w t => .tuple [.str w, dat t]
  | .two w s t => .tuple [.str w, dat s, dat t]
def LeafFm (xs ns : List Str) (w : Str) (ss : List Str) : Prop := (w = "letter" ∧ ∃ n : Str, ss = [n] ∧ n ∈ ns) ∨ (w = "same" ∧ ∃ a : Str, ss = [a] ∧ a ∈ xs) ∨ (w = "other" ∧ ∃ a : Str, ss = [a] ∧ a ∈ xs) ∨ (w = "none" ∧ ∃ a b : Str, ss = [a, b] ∧ a ∈ xs ∧ b ∈ xs) ∨ (w = "all" ∧ ∃ a b : Str, ss = [a, b] ∧ a ∈ xs ∧ b ∈ xs)
/-- a term of these sorts and letters -/
def Fmd (xs ns : List Str) : Tm → Prop
  | .leaf w ss => LeafFm xs ns w ss
  | .one w t => OneOk w ∧ Fmd xs ns t
  | .two w s t => TwoOk w ∧ Fmd xs ns s ∧ Fmd xs ns t
theorem inT_all1 {xs : List Str} {d : PyData} (h : [d].all (inT xs) = true) : ∃ a, d = .str a ∧ a ∈ xs := by
  rw [List.all_cons, List.all_nil, Bool.and_true] at h
  unfold inT at h
  split at h
  · exact ⟨_, rfl, of_decide_eq_true h⟩
  · cases h
theorem len1 {α : Type} {l : List α} (h : l.length = 1) : ∃ a, l = [a] := by
  match l, h with
  | [a], _ => exact ⟨a, rfl⟩
theorem len2 {α : Type} {l : List α} (h : l.length = 2) : ∃ a b, l = [a, b] := by
  match l, h with
  | [a, b], _ => exact ⟨a, b, rfl⟩
theorem flK_none {f : PyData → Option (List Nat)} : ∀ {ks : List PyData} {i : Nat}, flK f i ks = none → ∀ k ∈ ks, f k = none
  | k :: ks, i, h, k', hk => by
    unfold flK at h
    cases z : f k with
    | some q => rw [z] at h; cases h
    | none =>
      rw [z] at h
      rcases List.mem_cons.mp hk with e | e
      · rw [e]; exact z
      · exact flK_none h k' e
theorem pt_cases {w : Str} {p s : Nat} (h : shp w = some (p, s)) : (w = "letter" ∧ p = 0 ∧ s = 0) ∨ (w = "same" ∧ p = 0 ∧ s = 1) ∨ (w = "other" ∧ p = 0 ∧ s = 1) ∨ (w = "none" ∧ p = 0 ∧ s = 2) ∨ (w = "all" ∧ p = 0 ∧ s = 2) ∨ (OneOk w ∧ p = 1 ∧ s = 0) ∨ (TwoOk w ∧ p = 2 ∧ s = 0) := by
  have z := shp_some h
  simp only [PT, List.mem_cons, List.mem_nil_iff, or_false, Prod.mk.injEq] at z
  unfold OneOk TwoOk
  rcases z with z | z | z | z | z | z | z | z | z | z | z | z <;> obtain ⟨rfl, rfl, rfl⟩ := z
  · exact .inl ⟨rfl, rfl, rfl⟩
  · exact .inr (.inl ⟨rfl, rfl, rfl⟩)
  · exact .inr (.inr (.inl ⟨rfl, rfl, rfl⟩))
  · exact .inr (.inr (.inr (.inl ⟨rfl, rfl, rfl⟩)))
  · exact .inr (.inr (.inr (.inr (.inl ⟨rfl, rfl, rfl⟩))))
  · exact .inr (.inr (.inr (.inr (.inr (.inl ⟨.inl rfl, rfl, rfl⟩)))))
  · exact .inr (.inr (.inr (.inr (.inr (.inl ⟨.inr (.inl rfl), rfl, rfl⟩)))))
  · exact .inr (.inr (.inr (.inr (.inr (.inr ⟨.inl rfl, rfl, rfl⟩)))))
  · exact .inr (.inr (.inr (.inr (.inr (.inr ⟨.inr (.inl rfl), rfl, rfl⟩)))))
  · exact .inr (.inr (.inr (.inr (.inr (.inr ⟨.inr (.inr rfl), rfl, rfl⟩)))))
  · exact .inr (.inr (.inr (.inr (.inr (.inl ⟨.inr (.inr (.inl rfl)), rfl, rfl⟩)))))
  · exact .inr (.inr (.inr (.inr (.inr (.inl ⟨.inr (.inr (.inr rfl)), rfl, rfl⟩)))))
theorem fm_of {xs ns : List Str} : ∀ (n : Nat) (d : PyData), d.depth < n → fl xs ns d = none → ∃ t, d = dat t ∧ Fmd xs ns t
  | 0, _, h, _ => absurd h (Nat.not_lt_zero _)
  | n + 1, d, h, e => by
    rw [fl_eq] at e
    cases c : formD xs ns d with
    | false => rw [c, if_neg Bool.false_ne_true] at e; cases e
    | true =>
      rw [c, if_pos rfl] at e
      have hk := flK_none e
      obtain ⟨w, ds, m, s, rfl, hs, lm, _, ek⟩ := formD_some c
      have hform : formW xs ns w ds = true := c
      unfold formW at hform
      by_cases ew : w = ("letter" : Str)
      · rw [if_pos ew] at hform
        obtain ⟨h1, h2⟩ := an hform
        obtain ⟨a, rfl⟩ := len1 (of_decide_eq_true h1)
        obtain ⟨z, rfl, hz⟩ := inT_all1 h2
        exact ⟨.leaf w [z], rfl, .inl ⟨ew, z, rfl, hz⟩⟩
      · rw [if_neg ew, hs] at hform
        obtain ⟨h1, h2⟩ := an hform
        have l := of_decide_eq_true h1
        rcases pt_cases hs with ⟨rfl, rfl, rfl⟩ | ⟨rfl, rfl, rfl⟩ | ⟨rfl, rfl, rfl⟩ | ⟨rfl, rfl, rfl⟩ | ⟨rfl, rfl, rfl⟩ | ⟨ok, rfl, rfl⟩ | ⟨ok, rfl, rfl⟩
        · exact absurd rfl ew
        · obtain ⟨a, rfl⟩ := len1 l
          obtain ⟨z, rfl, hz⟩ := inT_all1 h2
          exact ⟨.leaf _ [z], rfl, .inr (.inl ⟨rfl, z, rfl, hz⟩)⟩
        · obtain ⟨a, rfl⟩ := len1 l
          obtain ⟨z, rfl, hz⟩ := inT_all1 h2
          exact ⟨.leaf _ [z], rfl, .inr (.inr (.inl ⟨rfl, z, rfl, hz⟩))⟩
        · obtain ⟨a, b, rfl⟩ := len2 l
          have h2' : (inT xs a && (inT xs b && true)) = true := h2
          obtain ⟨q1, q2⟩ := an h2'
          obtain ⟨z, rfl, hz⟩ := inT_all1 (xs := xs) (d := a) (by rw [List.all_cons, q1]; rfl)
          obtain ⟨y, rfl, hy⟩ := inT_all1 (xs := xs) (d := b) q2
          exact ⟨.leaf _ [z, y], rfl, .inr (.inr (.inr (.inl ⟨rfl, z, y, rfl, hz, hy⟩)))⟩
        · obtain ⟨a, b, rfl⟩ := len2 l
          have h2' : (inT xs a && (inT xs b && true)) = true := h2
          obtain ⟨q1, q2⟩ := an h2'
          obtain ⟨z, rfl, hz⟩ := inT_all1 (xs := xs) (d := a) (by rw [List.all_cons, q1]; rfl)
          obtain ⟨y, rfl, hy⟩ := inT_all1 (xs := xs) (d := b) q2
          exact ⟨.leaf _ [z, y], rfl, .inr (.inr (.inr (.inr ⟨rfl, z, y, rfl, hz, hy⟩)))⟩
        · obtain ⟨a, rfl⟩ := len1 l
          have ma : a ∈ kidsD (.tuple [.str w, a]) := by rw [ek]; exact List.mem_cons_self
          obtain ⟨t, rfl, ht⟩ := fm_of n a (by have := dep_kid ma; omega) (hk a ma)
          exact ⟨.one w t, rfl, ok, ht⟩
        · obtain ⟨a, b, rfl⟩ := len2 l
          have ma : a ∈ kidsD (.tuple [.str w, a, b]) := by rw [ek]; exact List.mem_cons_self
          have mb : b ∈ kidsD (.tuple [.str w, a, b]) := by rw [ek]; exact List.mem_cons_of_mem _ List.mem_cons_self
          obtain ⟨t, rfl, ht⟩ := fm_of n a (by have := dep_kid ma; omega) (hk a ma)
          obtain ⟨u, rfl, hu⟩ := fm_of n b (by have := dep_kid mb; omega) (hk b mb)
          exact ⟨.two w t u, rfl, ok, ht, hu⟩
theorem strs_inv {K : PySem.W.Frag} {H : Hp} : ∀ {vs : List V} {ss : List Str}, VaAll K H vs (ss.map PyData.str) → vs = ss.map V.str
  | _, [], .nil => rfl
  | _, s :: ss, .cons h g => by
    cases h
    rw [strs_inv g]
    rfl
theorem va_tm {K : PySem.W.Frag} {H : Hp} : ∀ {t : Tm} {v : V}, Va K H v (dat t) → ∃ a, v = .ref a ∧ TmAt K H a t
  | .leaf w ss, v, h => by
    rcases h.tupD with ⟨a, xs, ds, rfl, e, hq, hg⟩ | z
    · injection e with e
      subst e
      have z := strs_inv (ss := w :: ss) hg
      rw [z] at hq
      exact ⟨a, rfl, hq⟩
    · cases z
  | .one w t, v, h => by
    rcases h.tupD with ⟨a, xs, ds, rfl, e, hq, hg⟩ | z
    · injection e with e
      subst e
      cases hg with
      | cons h0 hg =>
      cases h0
      cases hg with
      | cons h1 hg =>
      cases hg
      obtain ⟨b, rfl, hb⟩ := va_tm h1
      exact ⟨a, rfl, b, hq, hb⟩
    · cases z
  | .two w s t, v, h => by
    rcases h.tupD with ⟨a, xs, ds, rfl, e, hq, hg⟩ | z
    · injection e with e
      subst e
      cases hg with
      | cons h0 hg =>
      cases h0
      cases hg with
      | cons h1 hg =>
      cases hg with
      | cons h2 hg =>
      cases hg
      obtain ⟨b, rfl, hb⟩ := va_tm h1
      obtain ⟨c, rfl, hc⟩ := va_tm h2
      exact ⟨a, rfl, b, c, hq, hb, hc⟩
    · cases z
theorem tm_va {K : PySem.W.Frag} {H : Hp} : ∀ {t : Tm} {a : Addr}, TmAt K H a t → Va K H (.ref a) (dat t)
  | .leaf w ss, a, h => .tup h (.cons (.str w) (VaAll.strs ss))
  | .one w t, a, ⟨b, h, g⟩ => .tup h (.cons (.str w) (.cons (tm_va g) .nil))
  | .two w s t, a, ⟨b, c, h, g, g2⟩ => .tup h (.cons (.str w) (.cons (tm_va g) (.cons (tm_va g2) .nil)))
/-! the ends -/
section
variable (ls : List Lt)
def eL : Tm → Str × Str
  | .leaf w ss => if w = ("letter" : Str) then (endOf ls (ss.headD "")).2 else (ss.headD "", ss.getLastD "")
  | .one w t => if w = ("turned" : Str) then ((eL t).2, (eL t).1) else eL t
  | .two w s t => if w = ("then" : Str) then ((eL s).1, (eL t).2) else eL s
def fitT : Tm → Bool
  | .leaf _ _ => true
  | .one w t => !(decide (w = ("closed" : Str) ∨ w = ("walked" : Str)) && decide ((eL ls t).1 ≠ (eL ls t).2))
  | .two w s t => if w = ("then" : Str) then decide ((eL ls s).2 = (eL ls t).1) else decide (eL ls s = eL ls t)
/-- the parts in the order of the ends: each behind its own -/
def post : List Nat → Tm → List (List Nat × Tm)
  | p, .leaf w ss => [(p, .leaf w ss)]
  | p, .one w t => post (p ++ [0]) t ++ [(p, .one w t)]
  | p, .two w s t => post (p ++ [0]) s ++ (post (p ++ [1]) t ++ [(p, .two w s t)])
/-- the first part whose ends do not fit -/
def bT : Tm → Option (List Nat)
  | .leaf _ _ => none
  | .one w t => match bT t with
    | some q => some (0 :: q)
    | none => if fitT ls (.one w t) = true then none else some []
  | .two w s t => match bT s with
    | some q => some (0 :: q)
    | none => match bT t with
      | some q => some (1 :: q)
      | none => if fitT ls (.two w s t) = true then none else some []
def misE (x : List Nat × Tm) : Bool := !fitT ls x.2
end
theorem post_find {ls : List Lt} : ∀ (t : Tm) (p : List Nat), ((post p t).find? (misE ls)).map (·.1) = (bT ls t).map (p ++ ·)
  | .leaf w ss, p => rfl
  | .one w t, p => by
    have e := post_find (ls := ls) t (p ++ [0])
    unfold post bT
    rw [find_app]
    cases z : bT ls t with
    | some q =>
      rw [z] at e
      cases z2 : (post (p ++ [0]) t).find? (misE ls) with
      | none => rw [z2] at e; cases e
      | some y =>
        rw [z2] at e
        simp only [Option.map_some, Option.some.injEq] at e ⊢
        rw [e]
        simp
    | none =>
      rw [z] at e
      cases z2 : (post (p ++ [0]) t).find? (misE ls) with
      | some y => rw [z2] at e; cases e
      | none =>
        dsimp only
        rw [List.find?_cons]
        unfold misE
        cases c : fitT ls (.one w t) <;> simp
  | .two w s t, p => by
    have e := post_find (ls := ls) s (p ++ [0])
    have f := post_find (ls := ls) t (p ++ [1])
    unfold post bT
    rw [find_app]
    cases z : bT ls s with
    | some q =>
      rw [z] at e
      cases z2 : (post (p ++ [0]) s).find? (misE ls) with
      | none => rw [z2] at e; cases e
      | some y =>
        rw [z2] at e
        simp only [Option.map_some, Option.some.injEq] at e ⊢
        rw [e]
        simp
    | none =>
      rw [z] at e
      cases z2 : (post (p ++ [0]) s).find? (misE ls) with
      | some y => rw [z2] at e; cases e
      | none =>
        dsimp only
        rw [find_app]
        cases y : bT ls t with
        | some q =>
          rw [y] at f
          cases y2 : (post (p ++ [1]) t).find? (misE ls) with
          | none => rw [y2] at f; cases f
          | some y3 =>
            rw [y2] at f
            simp only [Option.map_some, Option.some.injEq] at f ⊢
            rw [f]
            simp
        | none =>
          rw [y] at f
          cases y2 : (post (p ++ [1]) t).find? (misE ls) with
          | some y3 => rw [y2] at f; cases f
          | none =>
            dsimp only
            rw [List.find?_cons]
            unfold misE
            cases c : fitT ls (.two w s t) <;> simp
theorem post_first {ls : List Lt} (t : Tm) : ((post [] t).find? (misE ls)).map (·.1) = bT ls t := by
  rw [post_find]
  cases bT ls t <;> rfl
theorem fit_one {ls : List Lt} {w : Str} {t : Tm} : fitT ls (.one w t) = !(decide (w = ("closed" : Str) ∨ w = ("walked" : Str)) && decide ((eL ls t).1 ≠ (eL ls t).2)) := rfl
theorem fit_two {ls : List Lt} {w : Str} {s t : Tm} : fitT ls (.two w s t) = if w = ("then" : Str) then decide ((eL ls s).2 = (eL ls t).1) else decide (eL ls s = eL ls t) := rfl
theorem eL_one {ls : List Lt} {w : Str} {t : Tm} : eL ls (.one w t) = if w = ("turned" : Str) then ((eL ls t).2, (eL ls t).1) else eL ls t := rfl
theorem eL_two {ls : List Lt} {w : Str} {s t : Tm} : eL ls (.two w s t) = if w = ("then" : Str) then ((eL ls s).1, (eL ls t).2) else eL ls s := rfl
theorem eL_leaf {ls : List Lt} {w : Str} {ss : List Str} : eL ls (.leaf w ss) = if w = ("letter" : Str) then (endOf ls (ss.headD "")).2 else (ss.headD "", ss.getLastD "") := rfl
theorem bT_one {ls : List Lt} {w : Str} {t : Tm} : bT ls (.one w t) = match bT ls t with
    | some q => some (0 :: q)
    | none => if fitT ls (.one w t) = true then none else some [] := rfl
theorem bT_two {ls : List Lt} {w : Str} {s t : Tm} : bT ls (.two w s t) = match bT ls s with
    | some q => some (0 :: q)
    | none => match bT ls t with
      | some q => some (1 :: q)
      | none => if fitT ls (.two w s t) = true then none else some [] := rfl
/-- a right term's ends -/
theorem Ty.eL {xs : List Str} {ls : List Lt} (nd : ∀ q ∈ ls, endOf ls q.1 = q) {t : Tm} {x y : Str} (h : Ty xs ls t x y) : eL ls t = (x, y) ∧ bT ls t = Option.none := by
  induction h with
  | letter h =>
    refine ⟨?_, rfl⟩
    rw [eL_leaf]
    rw [if_pos rfl]
    exact congrArg Prod.snd (nd _ h)
  | same h => exact ⟨by rw [eL_leaf]; rw [if_neg (by decide +kernel)]; rfl, rfl⟩
  | other h => exact ⟨by rw [eL_leaf]; rw [if_neg (by decide +kernel)]; rfl, rfl⟩
  | none h g => exact ⟨by rw [eL_leaf]; rw [if_neg (by decide +kernel)]; rfl, rfl⟩
  | all h g => exact ⟨by rw [eL_leaf]; rw [if_neg (by decide +kernel)]; rfl, rfl⟩
  | @rest t' a b _ ih =>
    obtain ⟨e, b⟩ := ih
    have ok : fitT ls (.one "rest" t') = true := by
      rw [fit_one]
      rw [show decide (("rest" : Str) = ("closed" : Str) ∨ ("rest" : Str) = ("walked" : Str)) = false by decide +kernel, Bool.false_and]
      rfl
    exact ⟨by rw [eL_one]; rw [if_neg (by decide +kernel), e], by rw [bT_one]; rw [b]; dsimp only; rw [if_pos ok]⟩
  | @turned t' a b _ ih =>
    obtain ⟨e, b⟩ := ih
    have ok : fitT ls (.one "turned" t') = true := by
      rw [fit_one]
      rw [show decide (("turned" : Str) = ("closed" : Str) ∨ ("turned" : Str) = ("walked" : Str)) = false by decide +kernel, Bool.false_and]
      rfl
    exact ⟨by rw [eL_one]; rw [if_pos rfl, e], by rw [bT_one]; rw [b]; dsimp only; rw [if_pos ok]⟩
  | @closed t' a _ ih =>
    obtain ⟨e, b⟩ := ih
    have ok : fitT ls (.one "closed" t') = true := by
      rw [fit_one]
      rw [e]
      simp
    exact ⟨by rw [eL_one]; rw [if_neg (by decide +kernel), e], by rw [bT_one]; rw [b]; dsimp only; rw [if_pos ok]⟩
  | @walked t' a _ ih =>
    obtain ⟨e, b⟩ := ih
    have ok : fitT ls (.one "walked" t') = true := by
      rw [fit_one]
      rw [e]
      simp
    exact ⟨by rw [eL_one]; rw [if_neg (by decide +kernel), e], by rw [bT_one]; rw [b]; dsimp only; rw [if_pos ok]⟩
  | @joined s' t' a b _ _ i1 i2 =>
    obtain ⟨e1, b1⟩ := i1
    obtain ⟨e2, b2⟩ := i2
    have ok : fitT ls (.two "joined" s' t') = true := by
      rw [fit_two]
      rw [if_neg (by decide +kernel), e1, e2, decide_eq_true rfl]
    exact ⟨by rw [eL_two]; rw [if_neg (by decide +kernel), e1], by rw [bT_two]; rw [b1]; dsimp only; rw [b2]; dsimp only; rw [if_pos ok]⟩
  | @cut s' t' a b _ _ i1 i2 =>
    obtain ⟨e1, b1⟩ := i1
    obtain ⟨e2, b2⟩ := i2
    have ok : fitT ls (.two "cut" s' t') = true := by
      rw [fit_two]
      rw [if_neg (by decide +kernel), e1, e2, decide_eq_true rfl]
    exact ⟨by rw [eL_two]; rw [if_neg (by decide +kernel), e1], by rw [bT_two]; rw [b1]; dsimp only; rw [b2]; dsimp only; rw [if_pos ok]⟩
  | @then_ s' t' a m b _ _ i1 i2 =>
    obtain ⟨e1, b1⟩ := i1
    obtain ⟨e2, b2⟩ := i2
    have ok : fitT ls (.two "then" s' t') = true := by
      rw [fit_two]
      rw [if_pos rfl, e1, e2, decide_eq_true rfl]
    exact ⟨by rw [eL_two]; rw [if_pos rfl, e1, e2], by rw [bT_two]; rw [b1]; dsimp only; rw [b2]; dsimp only; rw [if_pos ok]⟩
end K43

namespace K43
open PySem PySem.Spec PyProof.Rows L2 Ow Xv
/-! ### the parts, each behind its own -/
theorem oneOk_shp {w : Str} (h : OneOk w) : shp w = some (1, 0) := by
  rcases h with rfl | rfl | rfl | rfl <;> decide +kernel
theorem twoOk_shp {w : Str} (h : TwoOk w) : shp w = some (2, 0) := by
  rcases h with rfl | rfl | rfl <;> decide +kernel
theorem leafFm_shp {xs ns : List Str} {w : Str} {ss : List Str} (h : LeafFm xs ns w ss) : ∃ s, shp w = some (0, s) ∧ s ≤ ss.length := by
  rcases h with ⟨rfl, a, rfl, _⟩ | ⟨rfl, a, rfl, _⟩ | ⟨rfl, a, rfl, _⟩ | ⟨rfl, a, b, rfl, _⟩ | ⟨rfl, a, b, rfl, _⟩
  · exact ⟨0, by decide +kernel, Nat.zero_le _⟩
  · exact ⟨1, by decide +kernel, Nat.le_refl _⟩
  · exact ⟨1, by decide +kernel, Nat.le_refl _⟩
  · exact ⟨2, by decide +kernel, Nat.le_refl _⟩
  · exact ⟨2, by decide +kernel, Nat.le_refl _⟩
/-- what stands at the value of a pair -/
def AtT (K : PySem.W.Frag) (H : Hp) (xs ns : List Str) (q : V × Tm) : Prop := (∃ b, q.1 = .ref b ∧ TmAt K H b q.2) ∧ Fmd xs ns q.2
theorem AtT.same {K : PySem.W.Frag} {H H' : Hp} {xs ns : List Str} {q : V × Tm} (s : Same H H') (h : AtT K H xs ns q) : AtT K H' xs ns q := let ⟨⟨b, e, g⟩, f⟩ := h; ⟨⟨b, e, g.same s⟩, f⟩
theorem tm_parts {K : PySem.W.Frag} {H : Hp} {xs ns : List Str} {a : Addr} {t : Tm} (h : TmAt K H a t) (f : Fmd xs ns t) : ∃ (vs : List V) (m s : Nat) (kids : List (V × Tm)), SqT K H a (.str t.hd :: vs) ∧ shp t.hd = some (m, s) ∧ m ≤ vs.length ∧ kids.map (·.1) = vs.take m ∧ kids.map (·.2) = t.kids ∧ ∀ q ∈ kids, AtT K H xs ns q := by
  cases t with
  | leaf w ss =>
    obtain ⟨s, hs, _⟩ := leafFm_shp f
    exact ⟨ss.map V.str, 0, s, [], h, hs, Nat.zero_le _, rfl, rfl, fun q hq => absurd hq List.not_mem_nil⟩
  | one w t =>
    obtain ⟨b, h1, h2⟩ := h
    exact ⟨[.ref b], 1, 0, [(.ref b, t)], h1, oneOk_shp f.1, Nat.le_refl _, rfl, rfl, fun q hq => by rw [List.mem_singleton.mp hq]; exact ⟨⟨b, rfl, h2⟩, f.2⟩⟩
  | two w s t =>
    obtain ⟨b, c, h1, h2, h3⟩ := h
    refine ⟨[.ref b, .ref c], 2, 0, [(.ref b, s), (.ref c, t)], h1, twoOk_shp f.1, Nat.le_refl _, rfl, rfl, fun q hq => ?_⟩
    rcases List.mem_cons.mp hq with z | z
    · rw [z]; exact ⟨⟨b, rfl, h2⟩, f.2.1⟩
    · rw [List.mem_singleton.mp z]; exact ⟨⟨c, rfl, h3⟩, f.2.2⟩
theorem post_kids (p : List Nat) (t : Tm) : (post p t).reverse = (p, t) :: (kp p 0 t.kids).reverse.flatMap fun x => (post x.1 x.2).reverse := by
  cases t with
  | leaf w ss => rfl
  | one w t => simp [post, Tm.kids, kp]
  | two w s t => simp [post, Tm.kids, kp]
theorem post_len : ∀ (t : Tm) (p : List Nat), (post p t).length = t.sz
  | .leaf w ss, p => rfl
  | .one w t, p => by
    have := post_len t (p ++ [0])
    simp only [post, List.length_append, List.length_singleton, this, Tm.sz]
    omega
  | .two w s t, p => by
    have h1 := post_len s (p ++ [0])
    have h2 := post_len t (p ++ [1])
    simp only [post, List.length_append, List.length_singleton, h1, h2, Tm.sz]
    omega
def sndT (u : PaV Tm) : List Nat × Tm := (u.1, u.2.2)
/-- what is still to come of a stack -/
def stkT (us : List (PaV Tm)) : List (List Nat × Tm) := us.reverse.flatMap fun u => (post u.1 u.2.2).reverse
theorem stkT_push {us : List (PaV Tm)} {p : List Nat} {t : Tm} {v : V} {kids : List (V × Tm)} (hk : kids.map (·.2) = t.kids) :
    stkT (us ++ [(p, v, t)]) = (p, t) :: stkT (us ++ kp p 0 kids) := by
  unfold stkT
  rw [List.reverse_append, List.reverse_append]
  show (post p t).reverse ++ _ = _
  rw [post_kids, List.flatMap_append, List.cons_append]
  congr 2
  rw [← hk, ← kp_map (fun q : V × Tm => q.2) kids 0, ← List.map_reverse, List.flatMap_def, List.flatMap_def, List.map_map]
  rfl
theorem stkT_len (us : List (PaV Tm)) : us.length ≤ (stkT us).length := by
  unfold stkT
  rw [← List.length_reverse (as := us)]
  generalize us.reverse = l
  induction l with
  | nil => exact Nat.le_refl _
  | cons x l ih =>
    rw [List.flatMap_cons, List.length_append, List.length_cons, post_kids, List.length_cons]
    omega
abbrev NPI : List Str := ["term", "found", "waiting", "path", "part"]
theorem scPI : FnScope NPI ["term"] (defScope sPartsInnerFirst) := ⟨rfl, rfl, rfl, by decide +kernel, rfl, by decide +kernel, by decide +kernel⟩
def spPI (K : PySem.W.Frag) : Sp := fun vs H Q _ => ∃ (a : Addr) (t : Tm) (xs ns : List Str), vs = [.ref a] ∧ TmAt K H a t ∧ Fmd xs ns t ∧ t.sz ≤ 400 ∧
  ∀ (L : Addr) (rs : List Addr) (us : List (PaV Tm)) (H' : Hp), Same H H' → H' L = some (.lst (rs.map V.ref)) → Prs K H' rs us → us.map sndT = post [] t → (∀ u ∈ us, AtT K H' xs ns u.2 ∧ u.1.length ≤ 400) → Q (.ref L) H'
section
variable {P : Program} {w : World} {K : PySem.W.Frag} {mg : Str → Option Value} {base : Heap} {f : Addr} {fd : FuncData}
theorem ok_pi (F : FnP K "parts_inner_first" sPartsInnerFirst f fd) (Y : Fx w K mg) : FnOk P w K mg base CX0 3 f fd ["term"] (spPI K) := by
  obtain ⟨d1, F1⟩ := Y.dBelow
  have b1 := FunD.bindsN (ps := ["path", "part"]) F1 fun _ _ _ _ _ _ us hl => match us, hl with | [_, _], _ => rfl
  have G1 : FnOk P w K mg base CX0 2 _ d1 ["path", "part"] (spBe Tm K) := ok_be F1 Y
  refine okD F scPI (fun vs H Q E h => ?_) (fun cdv A outer s H vs Q E hr h => ?_)
  · obtain ⟨a, t, xs, ns, rfl, _⟩ := h
    rfl
  · have nd := scPI.nd
    refine ⟨_, pss_cons (ps_set (i := 1) nd rfl (Or.inl rfl) (pe_lst pa_nil))
      (pss_cons (ps_set (i := 2) nd rfl (Or.inl rfl) (pe_lst (pa_cons (pe_tup (pa_cons (pe_tup pa_nil) (pa_cons (pv 0) pa_nil))) pa_nil)))
      (pss_cons (ps_while PassesOwn.never (pt_truth (pv 2) (by intro _; rfl))
        (pss_cons (ps_asg (pe_bm0 PySem.F.plainAttrs_list PySem.F.slot_list_pop PySem.F.type_list_pop mt_pop (pv 2)) (pg_tup rfl (pgs_cons (pg_name (i := 3) nd rfl (Or.inl rfl)) (pgs_cons (pg_name (i := 4) nd rfl (Or.inl rfl)) pgs_nil))))
        (pss_cons (ps_expr (pe_bm PySem.F.plainAttrs_list PySem.F.slot_list_append PySem.F.type_list_append mt_append (pv 1) (pa_cons (pe_tup (pa_cons (pv 3) (pa_cons (pv 4) pa_nil))) pa_nil)))
        (pss_one (ps_expr (pe_bm PySem.F.plainAttrs_list PySem.F.slot_list_extend PySem.F.type_list_extend mt_extend (pv 2) (pa_cons (pe_call G1 hr (by rfl) Y.gBelow F1.kp b1 .nil pass0 (pa_cons (pv 3) (pa_cons (pv 4) pa_nil))) pa_nil)))))))
      (pss_one (ps_ret (pe_rev (pv 1) (pe_un un_neg pe_int)))))), ?_⟩
    obtain ⟨a, t, xs, ns, rfl, ha, fm, z4, k⟩ := h
    refine ⟨szl (by show 0 ≤ 1000; decide), fun Fd hF => ?_⟩
    have s0 := same_upd (o := .lst []) hF
    refine ⟨szl (by show 0 ≤ 1000; decide), fun T0 hT0 => ?_⟩
    have s1 := same_upd (o := .tup []) hT0
    refine ⟨_, rfl, szl (by show 2 ≤ 1000; decide), fun T1 hT1 => ?_⟩
    have s2 := same_upd (o := .tup [V.ref T0, V.ref a]) hT1
    refine ⟨szl (by show 1 ≤ 1000; decide), fun Wt hW => ?_⟩
    have s3 := same_upd (o := .lst [V.ref T1]) hW
    have e3F := s3 _ _ (s2 _ _ (s1 _ _ (upd_same : upd H Fd (.lst []) Fd = _)))
    have e3W := (upd_same : upd (upd (upd (upd H Fd (.lst [])) T0 (.tup [])) T1 (.tup [V.ref T0, V.ref a])) Wt (.lst [V.ref T1]) Wt = _)
    have q3 : SqT K (upd (upd (upd (upd H Fd (.lst [])) T0 (.tup [])) T1 (.tup [V.ref T0, V.ref a])) Wt (.lst [V.ref T1])) T1 [.ref T0, V.ref a] := sqt_same s3 (SqT.of upd_same)
    have q4 : (upd (upd (upd (upd H Fd (.lst [])) T0 (.tup [])) T1 (.tup [V.ref T0, V.ref a])) Wt (.lst [V.ref T1])) T0 = some (.tup (paV [])) := (s2.trans s3) _ _ upd_same
    have s9 := s0.trans (s1.trans (s2.trans s3))
    have hW0 : H Wt = none := none_same (s0.trans (s1.trans s2)) hW
    have nFW : Fd ≠ Wt := fun q => by
      subst q
      have z := (s1.trans s2) _ _ (upd_same : upd H Fd (.lst []) Fd = _)
      rw [hW] at z
      cases z
    obtain ⟨G0, eG⟩ : ∃ Z, Z = upd (upd (upd (upd H Fd (.lst [])) T0 (.tup [])) T1 (.tup [V.ref T0, V.ref a])) Wt (.lst [V.ref T1]) := ⟨_, rfl⟩
    dsimp only [gName]
    change tSeq (tWhile _ _) _ _ [some (.ref a), some (.ref Fd), some (.ref Wt), none, none] (upd (upd (upd (upd H Fd (.lst [])) T0 (.tup [])) T1 (.tup [V.ref T0, V.ref a])) Wt (.lst [V.ref T1]))
    rw [← eG] at e3F e3W q3 q4 s9 ⊢
    clear eG s0 s1 s2 s3 hW hT1 hT0
    refine while_by (fun σ G => ∃ (rs ws : List Addr) (ts us : List (PaV Tm)) (v4 v5 : Option V), σ = [some (.ref a), some (.ref Fd), some (.ref Wt), v4, v5] ∧ G Fd = some (.lst (rs.map V.ref)) ∧ G Wt = some (.lst (ws.map V.ref)) ∧ Prs K G rs ts ∧ Prs K G ws us ∧ (∀ u ∈ ts, AtT K H xs ns u.2 ∧ u.1.length ≤ 400) ∧ (∀ u ∈ us, AtT K H xs ns u.2 ∧ u.1.length ≤ rs.length) ∧
        ts.map sndT ++ stkT us = (post [] t).reverse ∧ Same H G)
      (fun σ G => t.sz - lenAt σ 1 G) ⟨[], [T1], [], [([], .ref a, t)], none, none, rfl, e3F, e3W, .nil, .cons ⟨T0, q3, q4⟩ .nil, fun u hu => absurd hu List.not_mem_nil, fun u hu => by rw [List.mem_singleton.mp hu]; exact ⟨⟨⟨a, rfl, ha⟩, fm⟩, Nat.le_refl _⟩, by simp [stkT], s9⟩ ?_ ?_
    · rintro σ G ⟨rs, ws, ts, us, v4, v5, rfl, eF, eW, P1, P2, hT, hR, hsum, sm⟩
      have l1 := P1.len
      have l2 := P2.len
      have lsum := congrArg List.length hsum
      rw [List.length_append, List.length_reverse, post_len, List.length_map] at lsum
      refine ⟨_, rfl, !(ws.map V.ref).isEmpty, .inl ⟨_, SqL.of eW, rfl⟩, ?_⟩
      rcases List.eq_nil_or_concat ws with rfl | ⟨ws', r, rfl⟩
      · refine iteF ?_
        rw [List.length_eq_zero_iff.mp l2.symm] at hsum
        have e : ts.map sndT = (post [] t).reverse := by rw [← hsum]; simp [stkT]
        refine ⟨_, rfl, _, rfl, rfl, Fd, _, rfl, .inl ⟨SqL.of eF, fun p hp => ?_⟩⟩
        have sp := same_upd (o := .lst (rs.map V.ref).reverse) hp
        refine k p rs.reverse ts.reverse _ (sm.trans sp) (by rw [upd_same, List.map_reverse]) (P1.same sp).rev ?_ fun u hu => ?_
        · rw [List.map_reverse, e, List.reverse_reverse]
        · obtain ⟨m1, m2⟩ := hT u (List.mem_reverse.mp hu)
          exact ⟨m1.same (sm.trans sp), m2⟩
      · rw [List.concat_eq_append] at *
        have ne : (!((ws' ++ [r]).map V.ref).isEmpty) = true := by simp
        rw [ne]
        refine iteT ?_
        obtain ⟨us', ⟨pu, uv, u⟩, rfl, P3, q, h1, h2e⟩ := P2.last
        have h2 : SqT K G q (paV pu) := SqT.of h2e
        obtain ⟨hAu, lpu⟩ := hR (pu, uv, u) (List.mem_append_right _ List.mem_cons_self)
        replace lpu : pu.length ≤ rs.length := lpu
        obtain ⟨⟨ua, eua, htu⟩, fu⟩ := id hAu
        replace eua : uv = .ref ua := eua
        subst eua
        obtain ⟨xsv, m, sn, kids, hq, hs, lm, ek1, ek2, hkid⟩ := tm_parts htu fu
        rw [stkT_push ek2] at hsum lsum
        have lst := stkT_len (us' ++ kp pu 0 kids)
        have lkp : (kp pu 0 kids).length = kids.length := kp_len
        rw [List.length_append] at lst
        rw [List.length_cons] at lsum
        have l9 : rs.length ≤ 399 := by omega
        have ll2 := P3.len
        have hR2 : ∀ y ∈ us' ++ kp pu 0 kids, AtT K H xs ns y.2 ∧ y.1.length ≤ rs.length + 1 := fun y hy => by
          rcases List.mem_append.mp hy with z | z
          · have q := hR y (List.mem_append_left _ z)
            exact ⟨q.1, Nat.le_succ_of_le q.2⟩
          · obtain ⟨m1, m2⟩ := kp_mem z
            exact ⟨hkid _ m1, by omega⟩
        have hT2 : ∀ y ∈ ts ++ [(pu, V.ref ua, u)], AtT K H xs ns y.2 ∧ y.1.length ≤ 400 := fun y hy => by
          rcases List.mem_append.mp hy with z | z
          · exact hT y z
          · rw [List.mem_singleton.mp z]
            exact ⟨hAu, by show pu.length ≤ 400; omega⟩
        have hsum2 : (ts ++ [(pu, V.ref ua, u)]).map sndT ++ stkT (us' ++ kp pu 0 kids) = (post [] t).reverse := by
          rw [← hsum, List.map_append, List.append_assoc]
          rfl
        refine ⟨_, rfl, .inl ⟨rfl, _, SqL.of eW⟩, Wt, _, .ref r, rfl, rfl, eW, by rw [List.map_append, List.length_append, List.map_cons, List.map_nil, List.length_cons, List.length_nil, Nat.add_sub_cancel]; simp, ?_⟩
        rw [List.map_append, List.map_cons, List.map_nil, List.dropLast_concat]
        have smA := same_put (o := .lst (ws'.map V.ref)) hW0 sm
        have eFA : upd G Wt (.lst (ws'.map V.ref)) Fd = some (.lst (rs.map V.ref)) := (upd_ne nFW).trans eF
        have eWA : upd G Wt (.lst (ws'.map V.ref)) Wt = some (.lst (ws'.map V.ref)) := upd_same
        have P1A := P1.put (o := .lst (ws'.map V.ref)) eW
        have P3A := P3.put (o := .lst (ws'.map V.ref)) eW
        have h1A := sqt_put (o := .lst (ws'.map V.ref)) eW h1
        have h2A : upd G Wt (.lst (ws'.map V.ref)) q = some (.tup (paV pu)) := (upd_ne fun z => by subst z; rw [eW] at h2e; cases h2e).trans h2e
        generalize upd G Wt (.lst (ws'.map V.ref)) = GA at smA eFA eWA P1A P3A h1A h2A ⊢
        refine ⟨r, _, rfl, h1A, rfl, _, _, rfl, _, _, rfl, rfl, ?_⟩
        dsimp only
        change tSeq _ _ _ [some (.ref a), some (.ref Fd), some (.ref Wt), some (.ref q), some (.ref ua)] GA
        refine ⟨_, rfl, .inl ⟨rfl, _, SqL.of eFA⟩, _, rfl, _, rfl, szl (by show 2 ≤ 1000; decide), fun T hT' => ?_⟩
        have sT := same_upd (o := .tup [V.ref q, V.ref ua]) hT'
        have eFC := sT _ _ eFA
        refine ⟨Fd, _, _, rfl, rfl, eFC, by rw [List.length_map]; exact small1000 (by omega), ?_⟩
        have nm : rs.map V.ref ++ [V.ref T] = (rs ++ [T]).map V.ref := by rw [List.map_append]; rfl
        rw [nm]
        have prT : Pr K (upd GA T (.tup [V.ref q, V.ref ua])) T (pu, V.ref ua, u) := ⟨q, SqT.of upd_same, sT _ _ h2A⟩
        have P1C := ((P1A.same sT).app (.cons prT .nil)).put (o := .lst ((rs ++ [T]).map V.ref)) eFC
        have P3C := (P3A.same sT).put (o := .lst ((rs ++ [T]).map V.ref)) eFC
        have h2C := sqt_put (K := K) (o := .lst ((rs ++ [T]).map V.ref)) eFC (sqt_same sT (SqT.of h2A))
        have smC := same_put (o := .lst ((rs ++ [T]).map V.ref)) hF (smA.trans sT)
        have eFD : upd (upd GA T (.tup [V.ref q, V.ref ua])) Fd (.lst ((rs ++ [T]).map V.ref)) Fd = some (.lst ((rs ++ [T]).map V.ref)) := upd_same
        have eWD : upd (upd GA T (.tup [V.ref q, V.ref ua])) Fd (.lst ((rs ++ [T]).map V.ref)) Wt = some (.lst (ws'.map V.ref)) := (upd_ne nFW.symm).trans (sT _ _ eWA)
        generalize upd (upd GA T (.tup [V.ref q, V.ref ua])) Fd (.lst ((rs ++ [T]).map V.ref)) = GC at P1C P3C h2C smC eFD eWD ⊢
        refine ⟨_, rfl, .inl ⟨rfl, _, SqL.of eWD⟩, _, rfl, _, rfl, q, ua, pu, u.hd, xsv, m, sn, kids, rfl, h2C, by omega, sqt_same smC hq, hs, lm, ek1, fun L rs2 GD sD hL eL hP => ?_⟩
        have eWE := sD _ _ eWD
        have eFE := sD _ _ eFD
        have lr2 := hP.len
        refine ⟨Wt, L, _, _, rfl, rfl, eWE, eL, szl (by rw [List.length_map, List.length_map]; omega), ?_⟩
        have nm2 : ws'.map V.ref ++ rs2.map V.ref = (ws' ++ rs2).map V.ref := by rw [List.map_append]
        rw [nm2]
        have lr : (rs ++ [T]).length = rs.length + 1 := by rw [List.length_append]; rfl
        have eFF := (upd_ne (o := HO.lst ((ws' ++ rs2).map V.ref)) nFW).trans eFE
        refine ⟨⟨rs ++ [T], ws' ++ rs2, ts ++ [(pu, V.ref ua, u)], us' ++ kp pu 0 kids, _, _, rfl, eFF, upd_same, ?_, ?_, hT2, by rw [lr]; exact hR2, hsum2, same_put hW0 (smC.trans sD)⟩, ?_⟩
        · exact (P1C.same sD).put eWE
        · exact ((P3C.same sD).app hP).put eWE
        · show t.sz - (match upd GD Wt (.lst ((ws' ++ rs2).map V.ref)) Fd with
            | some (HO.lst zs) => zs.length
            | _ => 0) < t.sz - (match G Fd with
            | some (HO.lst zs) => zs.length
            | _ => 0)
          rw [eFF, eF]
          dsimp only
          rw [List.length_map, List.length_map, lr]
          omega
    · rintro σ G Q1 Q2 hq ⟨v, e1, b, e2, z⟩
      exact ⟨v, e1, b, e2, hq _ _ z⟩
end
end K43

namespace K43
open PySem PySem.Spec PyProof.Rows L2 Ow Xv
/-! ### the ends above the ends below -/
def prV (e : Str × Str) : List V := [.str e.1, .str e.2]
theorem end_in {xs : List Str} {ls : List Lt} (ok : FrOk xs ls) {n : Str} (h : n ∈ ls.map (·.1)) : endOf ls n ∈ ls ∧ (endOf ls n).1 = n ∧ (endOf ls n).2.1 ∈ xs ∧ (endOf ls n).2.2 ∈ xs := by
  obtain ⟨a, b⟩ := endOf_ok h
  exact ⟨a, b, ok.ends _ a⟩
theorem eL_in {xs : List Str} {ls : List Lt} (ok : FrOk xs ls) : ∀ {t : Tm}, Fmd xs (ls.map (·.1)) t → (eL ls t).1 ∈ xs ∧ (eL ls t).2 ∈ xs
  | .leaf w ss, h => by
    rw [eL_leaf]
    rcases h with ⟨rfl, a, rfl, m⟩ | ⟨rfl, a, rfl, m⟩ | ⟨rfl, a, rfl, m⟩ | ⟨rfl, a, b, rfl, m, n⟩ | ⟨rfl, a, b, rfl, m, n⟩
    · rw [if_pos rfl]
      obtain ⟨_, _, h1, h2⟩ := end_in ok m
      exact ⟨h1, h2⟩
    · rw [if_neg (by decide +kernel)]; exact ⟨m, m⟩
    · rw [if_neg (by decide +kernel)]; exact ⟨m, m⟩
    · rw [if_neg (by decide +kernel)]; exact ⟨m, n⟩
    · rw [if_neg (by decide +kernel)]; exact ⟨m, n⟩
  | .one w t, h => by
    have := eL_in ok h.2
    rw [eL_one]
    by_cases c : w = ("turned" : Str)
    · rw [if_pos c]; exact ⟨this.2, this.1⟩
    · rw [if_neg c]; exact this
  | .two w s t, h => by
    have h1 := eL_in ok h.2.1
    have h2 := eL_in ok h.2.2
    rw [eL_two]
    by_cases c : w = ("then" : Str)
    · rw [if_pos c]; exact ⟨h1.1, h2.2⟩
    · rw [if_neg c]; exact h1
abbrev NEL : List Str := ["frame", "part", "sorts"]
theorem scEL : FnScope NEL ["frame", "part"] (defScope sEndsOfLeaf) := ⟨rfl, rfl, rfl, by decide +kernel, rfl, by decide +kernel, by decide +kernel⟩
def spEL (K : PySem.W.Frag) : Sp := fun vs H Q _ => ∃ (x a : Addr) (xs : List Str) (ls : List Lt) (wd : Str) (ss : List Str), vs = [.ref x, .ref a] ∧ FrmA K H x xs ls ∧ FrOk xs ls ∧ SqT K H a (.str wd :: ss.map V.str) ∧ LeafFm xs (ls.map (·.1)) wd ss ∧
  ∀ (T : Addr) (H' : Hp), Same H H' → SqT K H' T (prV (eL ls (.leaf wd ss))) → Q (.ref T) H'
abbrev NEO : List Str := ["word", "ends", "first", "second"]
theorem scEO : FnScope NEO ["word", "ends"] (defScope sEndsOfOne) := ⟨rfl, rfl, rfl, by decide +kernel, rfl, by decide +kernel, by decide +kernel⟩
def oneE (w : Str) (p : Str × Str) : Option (Str × Str) := if w = ("turned" : Str) then some (p.2, p.1) else if (w = ("closed" : Str) ∨ w = ("walked" : Str)) ∧ p.1 ≠ p.2 then none else some p
def spEO (K : PySem.W.Frag) : Sp := fun vs H Q _ => ∃ (wd : Str) (e : Addr) (p : Str × Str), vs = [.str wd, .ref e] ∧ SqT K H e (prV p) ∧ (oneE wd p = none → ∀ H', Same H H' → Q .non H') ∧ ∀ q, oneE wd p = some q → ∀ (T : Addr) (H' : Hp), Same H H' → SqT K H' T (prV q) → Q (.ref T) H'
theorem scE2 : FnScope ["word", "ends", "others"] ["word", "ends", "others"] (defScope sEndsOfTwo) := ⟨rfl, rfl, rfl, by decide +kernel, rfl, by decide +kernel, by decide +kernel⟩
def twoE (w : Str) (p q : Str × Str) : Option (Str × Str) := if w = ("then" : Str) then (if p.2 = q.1 then some (p.1, q.2) else none) else if p = q then some p else none
def spE2 (K : PySem.W.Frag) : Sp := fun vs H Q _ => ∃ (wd : Str) (e o : Addr) (p q : Str × Str), vs = [.str wd, .ref e, .ref o] ∧ SqT K H e (prV p) ∧ SqT K H o (prV q) ∧ Wd p.1 ∧ Wd p.2 ∧ Wd q.1 ∧ Wd q.2 ∧
  (twoE wd p q = none → ∀ H', Same H H' → Q .non H') ∧ ∀ r, twoE wd p q = some r → ∀ (T : Addr) (H' : Hp), Same H H' → SqT K H' T (prV r) → Q (.ref T) H'
section
variable {P : Program} {w : World} {K : PySem.W.Frag} {mg : Str → Option Value} {base : Heap} {f : Addr} {fd : FuncData}
theorem ok_el (F : FnP K "_ends_of_leaf" sEndsOfLeaf f fd) (Y : Fx w K mg) : FnOk P w K mg base CX0 4 f fd ["frame", "part"] (spEL K) := by
  obtain ⟨d1, F1⟩ := Y.dFrame_Ends
  obtain ⟨d3, F3⟩ := Y.dSortsTold
  have b1 := FunD.bindsN (ps := ["self", "name"]) F1 fun _ _ _ _ _ _ us hl => match us, hl with | [_, _], _ => rfl
  have b3 := FunD.bindsN (ps := ["part"]) F3 fun _ _ _ _ _ _ us hl => match us, hl with | [_], _ => rfl
  have G1 : FnOk P w K mg base (L2.CX P w) 3 _ d1 ["self", "name"] (spEn K) := ok_en F1 Y
  have G3 : FnOk P w K mg base CX0 1 _ d3 ["part"] (spSTv K) := ok_stv F3 Y
  refine okD F scEL (fun vs H Q E h => ?_) (fun cdv A outer s H vs Q E hr h => ?_)
  · obtain ⟨x, a, xs, ls, wd, ss, rfl, _⟩ := h
    rfl
  · have nd := scEL.nd
    have hr1 : Room 1 _ := hr.mono (by decide)
    refine ⟨_, pss_cons (ps_if (pt_cmpR op_eq (pe_ix ix_tup (pv 1) pe_int (fun _ _ => rfl)) pe_str (nomark _)) (pss_one (ps_ret (pe_meth (pv 0) Y.cFrame Y.mFrame_Ends G1 hr b1 .nil passX (pa_cons (pe_ix ix_tup (pv 1) pe_int (fun _ _ => rfl)) pa_nil)))) pss_nil)
      (pss_cons (ps_set (i := 2) nd rfl (Or.inl rfl) (pe_call G3 hr1 (by rfl) Y.gSortsTold F3.kp b3 .nil pass0 (pa_cons (pv 1) pa_nil)))
      (pss_one (ps_ret (pe_tup (pa_cons (pe_ix ix_tup (pv 2) pe_int (fun _ _ => rfl)) (pa_cons (pe_ix ix_tup (pv 2) (pe_un un_neg pe_int) (fun _ _ => rfl)) pa_nil)))))), ?_⟩
    obtain ⟨x, a, xs, ls, wd, ss, rfl, hF, ok, ha, hl, k⟩ := h
    obtain ⟨tz, hF⟩ := hF
    obtain ⟨dx, f1, f2, f3, f4, hx, _⟩ := id hF
    refine ⟨_, rfl, a, _, 0, _, rfl, rfl, ha, atI_0 _ _, rfl, _, rfl, ite2 (fun hc => ?_) (fun hc => ?_)⟩
    · have ew : wd = ("letter" : Str) := V.str.inj (of_decide_eq_true hc)
      obtain ⟨n, rfl, hn⟩ : ∃ n, ss = [n] ∧ n ∈ ls.map (·.1) := by
        rcases hl with ⟨_, n, e, m⟩ | ⟨e, _⟩ | ⟨e, _⟩ | ⟨e, _⟩ | ⟨e, _⟩
        · exact ⟨n, e, m⟩
        all_goals exact absurd (ew.symm.trans e) (by decide +kernel)
      obtain ⟨h1, h2, _⟩ := end_in ok hn
      refine ⟨_, rfl, x, dx, _, rfl, hx, rfl, _, rfl, a, _, 1, _, rfl, rfl, ha, rfl, x, .str n, .str n, xs, ls, tz, rfl, hF, ok.nl.nd, .str n, fun e => ?_, fun q hq e t ht => ?_⟩
      · rw [isTx_str, decide_eq_true hn] at e
        cases e
      · have en : n = q.1 := V.str.inj e
        refine k t _ (Same.refl _) ?_
        rw [eL_leaf, if_pos ew]
        have e2 : endOf ls n = q := by rw [en]; exact find_nd ok.nl.nd hq
        show SqT K _ t (prV (endOf ls n).2)
        rw [e2]
        exact ht
    · have ew : wd ≠ ("letter" : Str) := fun q => hc (by rw [q]; exact decide_eq_true rfl)
      obtain ⟨s, hs, ls2, ss0⟩ : ∃ s, shp wd = some (0, s) ∧ s = ss.length ∧ ((∃ y, ss = [y]) ∨ ∃ y z, ss = [y, z]) := by
        rcases hl with ⟨e, _⟩ | ⟨rfl, y, rfl, _⟩ | ⟨rfl, y, rfl, _⟩ | ⟨rfl, y, z, rfl, _⟩ | ⟨rfl, y, z, rfl, _⟩
        · exact absurd e ew
        · exact ⟨1, by decide +kernel, rfl, .inl ⟨y, rfl⟩⟩
        · exact ⟨1, by decide +kernel, rfl, .inl ⟨y, rfl⟩⟩
        · exact ⟨2, by decide +kernel, rfl, .inr ⟨y, z, rfl⟩⟩
        · exact ⟨2, by decide +kernel, rfl, .inr ⟨y, z, rfl⟩⟩
      refine ⟨_, rfl, a, wd, ss.map V.str, 0, s, rfl, ha, hs, by rw [List.length_map]; omega, fun T H1 s1 hT => ?_⟩
      rw [List.take_of_length_le (by rw [List.length_map]; omega)] at hT
      rw [eL_leaf, if_neg ew] at k
      rcases ss0 with ⟨y, rfl⟩ | ⟨y, z, rfl⟩
      · exact ⟨_, rfl, T, _, 0, _, rfl, rfl, SqT.of hT, rfl, _, rfl, _, rfl, T, _, -1, _, rfl, rfl, SqT.of hT, rfl, szl (by show 2 ≤ 1000; decide), fun p hp => k p _ (s1.trans (same_upd hp)) (SqT.of upd_same)⟩
      · exact ⟨_, rfl, T, _, 0, _, rfl, rfl, SqT.of hT, rfl, _, rfl, _, rfl, T, _, -1, _, rfl, rfl, SqT.of hT, rfl, szl (by show 2 ≤ 1000; decide), fun p hp => k p _ (s1.trans (same_upd hp)) (SqT.of upd_same)⟩
theorem ok_eo (F : FnP K "_ends_of_one" sEndsOfOne f fd) (Y : Fx w K mg) : FnOk P w K mg base CX0 1 f fd ["word", "ends"] (spEO K) := by
  refine okD F scEO (fun vs H Q E h => ?_) (fun cdv A outer s H vs Q E hr h => ?_)
  · obtain ⟨wd, e, p, rfl, _⟩ := h
    rfl
  · have nd := scEO.nd
    refine ⟨_, pss_cons (ps_asg (pv 1) (pg_tup rfl (pgs_cons (pg_name (i := 2) nd rfl (Or.inl rfl)) (pgs_cons (pg_name (i := 3) nd rfl (Or.inl rfl)) pgs_nil))))
      (pss_cons (ps_if (pt_cmpR op_eq (pv 0) pe_str (nomark _)) (pss_one (ps_ret (pe_tup (pa_cons (pv 3) (pa_cons (pv 2) pa_nil))))) pss_nil)
      (pss_cons (ps_if (pw_and (pt_cmpR op_in_seq (pv 0) (pe_tup (pa_cons pe_str (pa_cons pe_str pa_nil))) (by rfl)) (pw_and1 (pt_cmpR op_ne (pv 2) (pv 3) (nomark _)))).pt (pss_one (ps_ret pe_non)) pss_nil)
      (pss_one (ps_ret (pe_tup (pa_cons (pv 2) (pa_cons (pv 3) pa_nil))))))), ?_⟩
    obtain ⟨wd, e, ⟨a, b⟩, rfl, he, kN, kS⟩ := h
    refine ⟨_, rfl, e, _, rfl, he, rfl, _, _, rfl, _, _, rfl, rfl, ?_⟩
    dsimp only
    refine ⟨_, rfl, rfl, _, rfl, ite2 (fun hc => ?_) (fun hc => ?_)⟩
    · have ew : wd = ("turned" : Str) := V.str.inj (of_decide_eq_true hc)
      refine ⟨_, rfl, _, rfl, szl (by show 2 ≤ 1000; decide), fun T hT => kS (b, a) ?_ T _ (same_upd hT) (SqT.of upd_same)⟩
      unfold oneE
      rw [if_pos ew]
    · have ew : wd ≠ ("turned" : Str) := fun q => hc (by rw [q]; exact decide_eq_true rfl)
      refine ⟨_, rfl, szl (by show 2 ≤ 1000; decide), fun T hT => ?_⟩
      have sT := same_upd (o := .tup [V.str "closed", V.str "walked"]) hT
      refine ⟨T, _, rfl, .inr (SqT.of upd_same), rfl, rfl, _, rfl, ite2 (fun h1 => ?_) (fun h1 => ?_)⟩
      · have cw : wd = ("closed" : Str) ∨ wd = ("walked" : Str) := by
          have z : (decide (V.str "closed" = V.str wd) || (decide (V.str "walked" = V.str wd) || false)) = true := by simpa [inV, eqV] using h1
          rcases Bool.or_eq_true_iff.mp z with z | z
          · exact .inl (V.str.inj (of_decide_eq_true z)).symm
          · rw [Bool.or_false] at z
            exact .inr (V.str.inj (of_decide_eq_true z)).symm
        refine ⟨_, rfl, _, rfl, rfl, _, rfl, ite2 (fun h2 => ?_) (fun h2 => ?_)⟩
        · have n2 : a ≠ b := by
            have z : (!decide (V.str a = V.str b)) = true := h2
            intro q
            rw [q] at z
            simp at z
          refine kN ?_ _ sT
          unfold oneE
          rw [if_neg ew, if_pos ⟨cw, n2⟩]
        · have n2 : a = b := by
            have z : ¬ (!decide (V.str a = V.str b)) = true := h2
            simpa using z
          refine ⟨_, rfl, _, rfl, szl (by show 2 ≤ 1000; decide), fun T2 hT2 => kS (a, b) ?_ T2 _ (sT.trans (same_upd hT2)) (SqT.of upd_same)⟩
          unfold oneE
          rw [if_neg ew, if_neg (fun z => z.2 n2)]
      · have nw : ¬ (wd = ("closed" : Str) ∨ wd = ("walked" : Str)) := by
          intro q
          apply h1
          rcases q with rfl | rfl <;> decide +kernel
        refine ⟨_, rfl, _, rfl, szl (by show 2 ≤ 1000; decide), fun T2 hT2 => kS (a, b) ?_ T2 _ (sT.trans (same_upd hT2)) (SqT.of upd_same)⟩
        unfold oneE
        rw [if_neg ew, if_neg (fun z => nw z.1)]
end
end K43

namespace K43
open PySem PySem.Spec PyProof.Rows L2 Ow Xv
theorem scEA : FnScope ["frame", "part", "below"] ["frame", "part", "below"] (defScope sEndsAbove) := ⟨rfl, rfl, rfl, by decide +kernel, rfl, by decide +kernel, by decide +kernel⟩
/-- the tuples of these ends -/
inductive Ens (K : PySem.W.Frag) (H : Hp) : List Addr → List (Str × Str) → Prop
  | nil : Ens K H [] []
  | cons {a : Addr} {p : Str × Str} {as : List Addr} {ps : List (Str × Str)} : SqT K H a (prV p) → Ens K H as ps → Ens K H (a :: as) (p :: ps)
theorem Ens.same {K : PySem.W.Frag} {H H' : Hp} (s : Same H H') : ∀ {as : List Addr} {ps : List (Str × Str)}, Ens K H as ps → Ens K H' as ps
  | _, _, .nil => .nil
  | _, _, .cons h g => .cons (sqt_same s h) (g.same s)
theorem Ens.put {K : PySem.W.Frag} {H : Hp} {D : Addr} {l : List V} {o : HO} (e : H D = some (.lst l)) : ∀ {as : List Addr} {ps : List (Str × Str)}, Ens K H as ps → Ens K (upd H D o) as ps
  | _, _, .nil => .nil
  | _, _, .cons h g => .cons (sqt_put e h) (g.put e)
theorem Ens.app {K : PySem.W.Frag} {H : Hp} : ∀ {as bs : List Addr} {ps qs : List (Str × Str)}, Ens K H as ps → Ens K H bs qs → Ens K H (as ++ bs) (ps ++ qs)
  | _, _, _, _, .nil, g => g
  | _, _, _, _, .cons h r, g => .cons h (r.app g)
theorem Ens.len {K : PySem.W.Frag} {H : Hp} : ∀ {as : List Addr} {ps : List (Str × Str)}, Ens K H as ps → as.length = ps.length
  | _, _, .nil => rfl
  | _, _, .cons _ g => congrArg Nat.succ g.len
def spEA (K : PySem.W.Frag) : Sp := fun vs H Q _ => ∃ (x a L : Addr) (xs : List Str) (ls : List Lt) (t : Tm) (es : List Addr), vs = [.ref x, .ref a, .ref L] ∧ FrmA K H x xs ls ∧ FrOk xs ls ∧ TmAt K H a t ∧ Fmd xs (ls.map (·.1)) t ∧ SqL K H L (es.map V.ref) ∧ Ens K H es (t.kids.map (eL ls)) ∧
  (fitT ls t = false → ∀ H', Same H H' → Q .non H') ∧ (fitT ls t = true → ∀ (T : Addr) (H' : Hp), Same H H' → SqT K H' T (prV (eL ls t)) → Q (.ref T) H')
section
variable {P : Program} {w : World} {K : PySem.W.Frag} {mg : Str → Option Value} {base : Heap} {f : Addr} {fd : FuncData}
theorem ok_e2 (F : FnP K "_ends_of_two" sEndsOfTwo f fd) (Y : Fx w K mg) : FnOk P w K mg base CX0 1 f fd ["word", "ends", "others"] (spE2 K) := by
  refine okD F scE2 (fun vs H Q E h => ?_) (fun cdv A outer s H vs Q E hr h => ?_)
  · obtain ⟨wd, e, o, p, q, rfl, _⟩ := h
    rfl
  · have nd := scE2.nd
    have hu64 := hu64_of hr
    refine ⟨_, pss_cons (ps_if (pt_cmpR op_eq (pv 0) pe_str (nomark _)) (pss_one (ps_ret (pe_ifExp (pt_cmpR op_eq (pe_ix ix_tup (pv 1) pe_int (fun _ _ => rfl)) (pe_ix ix_tup (pv 2) pe_int (fun _ _ => rfl)) (nomark _))
        (pe_tup (pa_cons (pe_ix ix_tup (pv 1) pe_int (fun _ _ => rfl)) (pa_cons (pe_ix ix_tup (pv 2) pe_int (fun _ _ => rfl)) pa_nil))) pe_non))) pss_nil)
      (pss_one (ps_ret (pe_ifExp (pt_cmpR (op_eqD hu64) (pv 1) (pv 2) (nomark _)) (pv 1) pe_non))), ?_⟩
    obtain ⟨wd, e, o, ⟨a, b⟩, ⟨c, d⟩, rfl, he, ho, w1, w2, w3, w4, kN, kS⟩ := h
    refine ⟨_, rfl, rfl, _, rfl, ite2 (fun hc => ?_) (fun hc => ?_)⟩
    · have ew : wd = ("then" : Str) := V.str.inj (of_decide_eq_true hc)
      refine ⟨_, rfl, e, _, 1, _, rfl, rfl, he, rfl, _, rfl, o, _, 0, _, rfl, rfl, ho, rfl, rfl, _, rfl, ite2 (fun h1 => ?_) (fun h1 => ?_)⟩
      · have eb : b = c := V.str.inj (of_decide_eq_true h1)
        refine ⟨_, rfl, e, _, 0, _, rfl, rfl, he, rfl, _, rfl, o, _, 1, _, rfl, rfl, ho, rfl, szl (by show 2 ≤ 1000; decide), fun T hT => kS (a, d) ?_ T _ (same_upd hT) (SqT.of upd_same)⟩
        unfold twoE
        rw [if_pos ew, if_pos eb]
      · have eb : b ≠ c := fun q => h1 (by show decide (V.str b = V.str c) = true; rw [q]; exact decide_eq_true rfl)
        refine kN ?_ _ (Same.refl _)
        unfold twoE
        rw [if_pos ew, if_neg eb]
    · have ew : wd ≠ ("then" : Str) := fun q => hc (by rw [q]; exact decide_eq_true rfl)
      refine ⟨_, rfl, _, rfl, eq_ends w1 w2 w3 w4 he ho ⟨_, rfl, ite2 (fun h1 => ?_) (fun h1 => ?_)⟩⟩
      · have eq : ((a, b) : Str × Str) = (c, d) := by
          have z : a = c ∧ b = d := of_decide_eq_true h1
          rw [z.1, z.2]
        refine ⟨_, rfl, kS (a, b) ?_ e _ (Same.refl _) he⟩
        unfold twoE
        rw [if_neg ew, if_pos eq]
      · have eq : ((a, b) : Str × Str) ≠ (c, d) := fun q => h1 (by
          injection q with q1 q2
          exact decide_eq_true ⟨q1, q2⟩)
        refine kN ?_ _ (Same.refl _)
        unfold twoE
        rw [if_neg ew, if_neg eq]
theorem ok_ea (F : FnP K "ends_above" sEndsAbove f fd) (Y : Fx w K mg) : FnOk P w K mg base CX0 5 f fd ["frame", "part", "below"] (spEA K) := by
  obtain ⟨d1, F1⟩ := Y.dEndsOfTwo
  obtain ⟨d2, F2⟩ := Y.dEndsOfOne
  obtain ⟨d3, F3⟩ := Y.dEndsOfLeaf
  have b1 := FunD.bindsN (ps := ["word", "ends", "others"]) F1 fun _ _ _ _ _ _ us hl => match us, hl with | [_, _, _], _ => rfl
  have b2 := FunD.bindsN (ps := ["word", "ends"]) F2 fun _ _ _ _ _ _ us hl => match us, hl with | [_, _], _ => rfl
  have b3 := FunD.bindsN (ps := ["frame", "part"]) F3 fun _ _ _ _ _ _ us hl => match us, hl with | [_, _], _ => rfl
  have G1 : FnOk P w K mg base CX0 1 _ d1 ["word", "ends", "others"] (spE2 K) := ok_e2 F1 Y
  have G2 : FnOk P w K mg base CX0 1 _ d2 ["word", "ends"] (spEO K) := ok_eo F2 Y
  have G3 : FnOk P w K mg base CX0 4 _ d3 ["frame", "part"] (spEL K) := ok_el F3 Y
  refine okD F scEA (fun vs H Q E h => ?_) (fun cdv A outer s H vs Q E hr h => ?_)
  · obtain ⟨x, a, L, xs, ls, t, es, rfl, _⟩ := h
    rfl
  · have nd := scEA.nd
    have hr1 : Room 1 _ := hr.mono (by decide)
    refine ⟨_, pss_cons (ps_if (pt_cmpR op_eq (pe_callB call_len_seq (by rfl) Y.bLen PySem.boot_len (pa_cons (pv 2) pa_nil)) pe_int (nomark _)) (pss_one (ps_ret (pe_call G1 hr1 (by rfl) Y.gEndsOfTwo F1.kp b1 .nil pass0 (pa_cons (pe_ix ix_tup (pv 1) pe_int (fun _ _ => rfl)) (pa_cons (pe_ix ix_list (pv 2) pe_int (fun _ _ => rfl)) (pa_cons (pe_ix ix_list (pv 2) pe_int (fun _ _ => rfl)) pa_nil)))))) pss_nil)
      (pss_cons (ps_if (pt_cmpR op_eq (pe_callB call_len_seq (by rfl) Y.bLen PySem.boot_len (pa_cons (pv 2) pa_nil)) pe_int (nomark _)) (pss_one (ps_ret (pe_call G2 hr1 (by rfl) Y.gEndsOfOne F2.kp b2 .nil pass0 (pa_cons (pe_ix ix_tup (pv 1) pe_int (fun _ _ => rfl)) (pa_cons (pe_ix ix_list (pv 2) pe_int (fun _ _ => rfl)) pa_nil))))) pss_nil)
      (pss_one (ps_ret (pe_call G3 hr (by rfl) Y.gEndsOfLeaf F3.kp b3 .nil pass0 (pa_cons (pv 0) (pa_cons (pv 1) pa_nil)))))), ?_⟩
    obtain ⟨x, a, L, xs, ls, t, es, rfl, hF, ok, ha, fm, hL, hE, kN, kS⟩ := h
    have le := hE.len
    rw [List.length_map] at le
    refine ⟨_, rfl, L, _, rfl, .inl hL, rfl, _, rfl, ite2 (fun hc => ?_) (fun hc => ?_)⟩
    · have l2 : es.length = 2 := by
        have z := V.int.inj (of_decide_eq_true hc)
        rw [List.length_map] at z
        omega
      cases t with
      | leaf wd ss => rw [l2] at le; cases le
      | one wd t => rw [l2] at le; cases le
      | two wd s t =>
      obtain ⟨b, c, h1, h2, h3⟩ := ha
      obtain ⟨ok2, f1, f2⟩ := fm
      cases hE with
      | @cons e _ es _ he1 hE =>
      cases hE with
      | @cons o _ es _ he2 hE =>
      cases hE
      have i1 := eL_in ok f1
      have i2 := eL_in ok f2
      refine ⟨_, rfl, a, _, 0, _, rfl, rfl, h1, rfl, _, rfl, L, _, 0, _, rfl, rfl, hL, rfl, _, rfl, L, _, 1, _, rfl, rfl, hL, rfl, wd, e, o, _, _, rfl, he1, he2, ok.nx.w _ i1.1, ok.nx.w _ i1.2, ok.nx.w _ i2.1, ok.nx.w _ i2.2, fun en H' s' => kN ?_ H' s', fun r er T H' s' hT => ?_⟩
      · rw [fit_two]
        unfold twoE at en
        by_cases cw : wd = ("then" : Str)
        · rw [if_pos cw] at en ⊢
          by_cases ce : (eL ls s).2 = (eL ls t).1
          · rw [if_pos ce] at en; cases en
          · exact decide_eq_false ce
        · rw [if_neg cw] at en ⊢
          by_cases ce : eL ls s = eL ls t
          · rw [if_pos ce] at en; cases en
          · exact decide_eq_false ce
      · unfold twoE at er
        by_cases cw : wd = ("then" : Str)
        · rw [if_pos cw] at er
          by_cases ce : (eL ls s).2 = (eL ls t).1
          · rw [if_pos ce] at er
            cases er
            refine kS (by rw [fit_two, if_pos cw]; exact decide_eq_true ce) T H' s' ?_
            rw [eL_two, if_pos cw]
            exact hT
          · rw [if_neg ce] at er; cases er
        · rw [if_neg cw] at er
          by_cases ce : eL ls s = eL ls t
          · rw [if_pos ce] at er
            cases er
            refine kS (by rw [fit_two, if_neg cw]; exact decide_eq_true ce) T H' s' ?_
            rw [eL_two, if_neg cw]
            exact hT
          · rw [if_neg ce] at er; cases er
    · have l2 : es.length ≠ 2 := fun q => hc (by
        show decide (V.int ((es.map V.ref).length : Int) = V.int 2) = true
        rw [List.length_map, q]
        rfl)
      refine ⟨_, rfl, L, _, rfl, .inl hL, rfl, _, rfl, ite2 (fun hd => ?_) (fun hd => ?_)⟩
      · have l1 : es.length = 1 := by
          have z := V.int.inj (of_decide_eq_true hd)
          rw [List.length_map] at z
          omega
        cases t with
        | leaf wd ss => rw [l1] at le; cases le
        | two wd s t => rw [l1] at le; cases le
        | one wd t =>
        obtain ⟨b, h1, h2⟩ := ha
        obtain ⟨ok2, f1⟩ := fm
        cases hE with
        | @cons e _ es _ he1 hE =>
        cases hE
        have key : oneE wd (eL ls t) = if fitT ls (.one wd t) = true then some (eL ls (.one wd t)) else none := by
          rw [fit_one, eL_one]
          unfold oneE
          by_cases cw : wd = ("turned" : Str)
          · rw [if_pos cw, if_pos cw, cw]
            rw [show decide (("turned" : Str) = ("closed" : Str) ∨ ("turned" : Str) = ("walked" : Str)) = false by decide +kernel]
            rfl
          · rw [if_neg cw, if_neg cw]
            by_cases c1 : wd = ("closed" : Str) ∨ wd = ("walked" : Str)
            · by_cases c2 : (eL ls t).1 ≠ (eL ls t).2
              · rw [if_pos ⟨c1, c2⟩, decide_eq_true c1, decide_eq_true c2]; rfl
              · rw [if_neg (fun z => c2 z.2), decide_eq_true c1, decide_eq_false c2]; rfl
            · rw [if_neg (fun z => c1 z.1), decide_eq_false c1]; rfl
        refine ⟨_, rfl, a, _, 0, _, rfl, rfl, h1, rfl, _, rfl, L, _, 0, _, rfl, rfl, hL, rfl, wd, e, _, rfl, he1, fun en H' s' => ?_, fun r er T H' s' hT => ?_⟩
        · rw [key] at en
          cases cf : fitT ls (.one wd t) with
          | false => exact kN cf H' s'
          | true => rw [cf, if_pos rfl] at en; cases en
        · rw [key] at er
          cases cf : fitT ls (.one wd t) with
          | false => rw [cf, if_neg Bool.false_ne_true] at er; cases er
          | true =>
            rw [cf, if_pos rfl] at er
            cases er
            exact kS cf T H' s' hT
      · have l1 : es.length ≠ 1 := fun q => hd (by
          show decide (V.int ((es.map V.ref).length : Int) = V.int 1) = true
          rw [List.length_map, q]
          rfl)
        cases t with
        | one wd t => exact absurd le l1
        | two wd s t => exact absurd le l2
        | leaf wd ss => exact ⟨_, rfl, _, rfl, x, a, xs, ls, wd, ss, rfl, hF, ok, ha, fm, fun T H' s' hT => kS rfl T H' s' hT⟩
end
end K43

namespace K43
open PySem PySem.Spec PyProof.Rows L2 Ow Xv
/-! ### what the order of the ends gives -/
def subT : Tm → List Nat → Option Tm
  | t, [] => some t
  | .one _ t, 0 :: r => subT t r
  | .two _ s _, 0 :: r => subT s r
  | .two _ _ t, 1 :: r => subT t r
  | _, _ => none
theorem post_sub : ∀ (t : Tm) (p q : List Nat) (u : Tm), (q, u) ∈ post p t → ∃ r, q = p ++ r ∧ subT t r = some u
  | .leaf w ss, p, q, u, h => by
    have z := List.mem_singleton.mp h
    cases z
    exact ⟨[], by simp, by simp [subT]⟩
  | .one w t, p, q, u, h => by
    rcases List.mem_append.mp h with z | z
    · obtain ⟨r, e1, e2⟩ := post_sub t (p ++ [0]) q u z
      exact ⟨0 :: r, by rw [e1, List.append_assoc]; rfl, by simpa [subT] using e2⟩
    · have z := List.mem_singleton.mp z
      cases z
      exact ⟨[], by simp, by simp [subT]⟩
  | .two w s t, p, q, u, h => by
    rcases List.mem_append.mp h with z | z
    · obtain ⟨r, e1, e2⟩ := post_sub s (p ++ [0]) q u z
      exact ⟨0 :: r, by rw [e1, List.append_assoc]; rfl, by simpa [subT] using e2⟩
    · rcases List.mem_append.mp z with z | z
      · obtain ⟨r, e1, e2⟩ := post_sub t (p ++ [1]) q u z
        exact ⟨1 :: r, by rw [e1, List.append_assoc]; rfl, by simpa [subT] using e2⟩
      · have z := List.mem_singleton.mp z
        cases z
        exact ⟨[], by simp, by simp [subT]⟩
theorem post_inj {t : Tm} {q : List Nat} {u u' : Tm} (h : (q, u) ∈ post [] t) (h' : (q, u') ∈ post [] t) : u = u' := by
  obtain ⟨r, e1, e2⟩ := post_sub t [] q u h
  obtain ⟨r', e1', e2'⟩ := post_sub t [] q u' h'
  have : r = r' := by rw [List.nil_append] at e1 e1'; rw [← e1, ← e1']
  rw [this, e2'] at e2
  exact (Option.some.inj e2).symm
theorem post_root : ∀ (t : Tm) (p : List Nat), (p, t) ∈ post p t
  | .leaf w ss, p => List.mem_singleton.mpr rfl
  | .one w t, p => List.mem_append_right _ (List.mem_singleton.mpr rfl)
  | .two w s t, p => List.mem_append_right _ (List.mem_append_right _ (List.mem_singleton.mpr rfl))
theorem take_app_mem {α : Type} {l m : List α} {i : Nat} {x : α} (h : x ∈ l.take i) : x ∈ (l ++ m).take i := by
  rw [List.take_append]
  exact List.mem_append_left _ h
theorem take_app_mem2 {α : Type} {l m : List α} {i : Nat} {x : α} (h : x ∈ m.take i) : x ∈ (l ++ m).take (l.length + i) := by
  rw [List.take_append]
  refine List.mem_append_right _ ?_
  rw [Nat.add_sub_cancel_left]
  exact h
theorem take_app_all {α : Type} {l m : List α} {i : Nat} {x : α} (h : x ∈ l) : x ∈ (l ++ m).take (l.length + i) := by
  rw [List.take_append]
  refine List.mem_append_left _ ?_
  rw [List.take_of_length_le (by omega)]
  exact h
/-- each part's own parts stand before it -/
theorem post_before : ∀ (t : Tm) (p : List Nat) (i : Nat) (q : List Nat) (u : Tm), (post p t)[i]? = some (q, u) → ∀ (j : Nat) (k : Tm), u.kids[j]? = some k → (q ++ [j], k) ∈ (post p t).take i
  | .leaf w ss, p, i, q, u, h, j, k, hk => by
    have m := List.mem_of_getElem? h
    have z := List.mem_singleton.mp m
    cases z
    cases hk
  | .one w t, p, i, q, u, h, j, k, hk => by
    unfold post at h ⊢
    by_cases l : i < (post (p ++ [0]) t).length
    · rw [List.getElem?_append_left l] at h
      exact take_app_mem (post_before t (p ++ [0]) i q u h j k hk)
    · rw [List.getElem?_append_right (by omega)] at h
      have z := List.mem_singleton.mp (List.mem_of_getElem? h)
      cases z
      have e : i = (post (p ++ [0]) t).length + (i - (post (p ++ [0]) t).length) := by omega
      rw [e]
      refine take_app_all ?_
      cases j with
      | zero =>
        have : t = k := by simpa [Tm.kids] using hk
        rw [← this]
        exact post_root t _
      | succ j => simp [Tm.kids] at hk
  | .two w s t, p, i, q, u, h, j, k, hk => by
    unfold post at h ⊢
    by_cases l : i < (post (p ++ [0]) s).length
    · rw [List.getElem?_append_left l] at h
      exact take_app_mem (post_before s (p ++ [0]) i q u h j k hk)
    · rw [List.getElem?_append_right (by omega)] at h
      obtain ⟨i', ei⟩ : ∃ i', i = (post (p ++ [0]) s).length + i' := ⟨i - (post (p ++ [0]) s).length, by omega⟩
      subst ei
      rw [Nat.add_sub_cancel_left] at h
      by_cases l2 : i' < (post (p ++ [1]) t).length
      · rw [List.getElem?_append_left l2] at h
        exact take_app_mem2 (take_app_mem (post_before t (p ++ [1]) i' q u h j k hk))
      · rw [List.getElem?_append_right (by omega)] at h
        have z := List.mem_singleton.mp (List.mem_of_getElem? h)
        cases z
        match j, hk with
        | 0, hk =>
          have : s = k := by simpa [Tm.kids] using hk
          rw [← this]
          exact take_app_all (post_root s _)
        | 1, hk =>
          have : t = k := by simpa [Tm.kids] using hk
          rw [← this]
          refine take_app_mem2 ?_
          have e : i' = (post (p ++ [1]) t).length + (i' - (post (p ++ [1]) t).length) := by omega
          rw [e]
          exact take_app_all (post_root t _)
        | j + 2, hk => simp [Tm.kids] at hk
theorem find_at {α : Type} {f : α → Bool} : ∀ {l : List α} {i : Nat} {a : α}, l[i]? = some a → f a = true → (∀ b ∈ l.take i, f b = false) → l.find? f = some a
  | x :: l, 0, a, h, fa, _ => by
    obtain rfl : x = a := by simpa using h
    rw [List.find?_cons, fa]
  | x :: l, i + 1, a, h, fa, hb => by
    have fx := hb x (by rw [List.take_succ_cons]; exact List.mem_cons_self)
    rw [List.find?_cons, fx]
    exact find_at (i := i) (by simpa using h) fa fun b m => hb b (by rw [List.take_succ_cons]; exact List.mem_cons_of_mem _ m)
theorem form_dat {xs ns : List Str} : ∀ {t : Tm}, Fmd xs ns t → formD xs ns (dat t) = true ∧ kidsD (dat t) = t.kids.map dat
  | .leaf w ss, h => by
    rcases h with ⟨rfl, a, rfl, m⟩ | ⟨rfl, a, rfl, m⟩ | ⟨rfl, a, rfl, m⟩ | ⟨rfl, a, b, rfl, m, n⟩ | ⟨rfl, a, b, rfl, m, n⟩
    · refine ⟨?_, ?_⟩
      · show formW xs ns "letter" [.str a] = true
        unfold formW
        rw [if_pos rfl]
        simp [inT, m]
      · show (match shp "letter" with
          | some (p, _) => [PyData.str a].take p
          | none => []) = _
        rw [show shp "letter" = some (0, 0) by decide +kernel]
        rfl
    · refine ⟨?_, ?_⟩
      · show formW xs ns "same" [.str a] = true
        unfold formW
        rw [if_neg (by decide +kernel), show shp "same" = some (0, 1) by decide +kernel]
        simp [inT, m]
      · show (match shp "same" with
          | some (p, _) => [PyData.str a].take p
          | none => []) = _
        rw [show shp "same" = some (0, 1) by decide +kernel]
        rfl
    · refine ⟨?_, ?_⟩
      · show formW xs ns "other" [.str a] = true
        unfold formW
        rw [if_neg (by decide +kernel), show shp "other" = some (0, 1) by decide +kernel]
        simp [inT, m]
      · show (match shp "other" with
          | some (p, _) => [PyData.str a].take p
          | none => []) = _
        rw [show shp "other" = some (0, 1) by decide +kernel]
        rfl
    · refine ⟨?_, ?_⟩
      · show formW xs ns "none" [.str a, .str b] = true
        unfold formW
        rw [if_neg (by decide +kernel), show shp "none" = some (0, 2) by decide +kernel]
        simp [inT, m, n]
      · show (match shp "none" with
          | some (p, _) => [PyData.str a, PyData.str b].take p
          | none => []) = _
        rw [show shp "none" = some (0, 2) by decide +kernel]
        rfl
    · refine ⟨?_, ?_⟩
      · show formW xs ns "all" [.str a, .str b] = true
        unfold formW
        rw [if_neg (by decide +kernel), show shp "all" = some (0, 2) by decide +kernel]
        simp [inT, m, n]
      · show (match shp "all" with
          | some (p, _) => [PyData.str a, PyData.str b].take p
          | none => []) = _
        rw [show shp "all" = some (0, 2) by decide +kernel]
        rfl
  | .one w t, h => by
    have hs := oneOk_shp h.1
    have n : w ≠ ("letter" : Str) := fun q => by rw [q] at hs; exact absurd hs (by decide +kernel)
    refine ⟨?_, ?_⟩
    · show formW xs ns w [dat t] = true
      unfold formW
      rw [if_neg n, hs]
      rfl
    · show (match shp w with
        | some (p, _) => [dat t].take p
        | none => []) = _
      rw [hs]
      rfl
  | .two w s t, h => by
    have hs := twoOk_shp h.1
    have n : w ≠ ("letter" : Str) := fun q => by rw [q] at hs; exact absurd hs (by decide +kernel)
    refine ⟨?_, ?_⟩
    · show formW xs ns w [dat s, dat t] = true
      unfold formW
      rw [if_neg n, hs]
      rfl
    · show (match shp w with
        | some (p, _) => [dat s, dat t].take p
        | none => []) = _
      rw [hs]
      rfl
theorem pre_dat {xs ns : List Str} : ∀ {t : Tm} (p : List Nat), Fmd xs ns t → (preD xs ns p (dat t)).length = t.sz
  | .leaf w ss, p, h => by
    obtain ⟨a, b⟩ := form_dat h
    rw [preD_eq, if_pos a, b]
    rfl
  | .one w t, p, h => by
    obtain ⟨a, b⟩ := form_dat h
    rw [preD_eq, if_pos a, b]
    have e := pre_dat (p ++ [0]) h.2
    simp only [Tm.kids, List.map_cons, List.map_nil, kp, List.flatMap_cons, List.flatMap_nil, List.append_nil, List.length_cons, e, Tm.sz]
    omega
  | .two w s t, p, h => by
    obtain ⟨a, b⟩ := form_dat h
    rw [preD_eq, if_pos a, b]
    have e := pre_dat (p ++ [0]) h.2.1
    have e2 := pre_dat (p ++ [1]) h.2.2
    simp only [Tm.kids, List.map_cons, List.map_nil, kp, List.flatMap_cons, List.flatMap_nil, List.append_nil, List.length_cons, List.length_append, Nat.zero_add, e, e2, Tm.sz]
    omega
end K43

namespace K43
open PySem PySem.Spec PyProof.Rows L2 Ow Xv
/-! ### the ends of a term -/
section
variable {K : PySem.W.Frag} {H : Hp} {D : Addr} {l : List (List Key × V)}
theorem sqt_del {t : Addr} {xs : List V} (e : H D = some (.dT l)) (h : SqT K H t xs) : SqT K (del H D) t xs := by
  have one : ∀ {u : HO}, H t = some u → (∀ l, u ≠ .dT l) → del H D t = some u := fun {u} z n => (del_ne (fun q => by
    subst q
    rw [e] at z
    cases z
    exact n l rfl)).trans z
  exact h.elim (fun h => .inl (h.elim (fun h => .inl (one h fun _ z => nomatch z)) fun ⟨o, h⟩ => .inr ⟨o, one h fun _ z => nomatch z⟩)) fun h => .inr h
theorem sqt_putT {t : Addr} {xs : List V} {o : HO} (e : H D = some (.dT l)) (h : SqT K H t xs) : SqT K (upd H D o) t xs := by
  have one : ∀ {u : HO}, H t = some u → (∀ l, u ≠ .dT l) → upd H D o t = some u := fun {u} z n => (upd_ne (fun q => by
    subst q
    rw [e] at z
    cases z
    exact n l rfl)).trans z
  exact h.elim (fun h => .inl (h.elim (fun h => .inl (one h fun _ z => nomatch z)) fun ⟨o, h⟩ => .inr ⟨o, one h fun _ z => nomatch z⟩)) fun h => .inr h
theorem TmAt.del (e : H D = some (.dT l)) : ∀ {t : Tm} {a : Addr}, TmAt K H a t → TmAt K (del H D) a t
  | .leaf _ _, _, h => sqt_del e h
  | .one _ _, _, ⟨b, h, g⟩ => ⟨b, sqt_del e h, g.del e⟩
  | .two _ _ _, _, ⟨b, c, h, g, g2⟩ => ⟨b, c, sqt_del e h, g.del e, g2.del e⟩
theorem Prs.del {α : Type} (e : H D = some (.dT l)) : ∀ {as : List Addr} {ts : List (PaV α)}, Prs K H as ts → Prs K (del H D) as ts
  | _, _, .nil => .nil
  | _, _, .cons ⟨q, a, b⟩ g => .cons ⟨q, sqt_del e a, (del_ne fun z => by subst z; rw [e] at b; cases b).trans b⟩ (g.del e)
theorem AtT.del {xs ns : List Str} {q : V × Tm} (e : H D = some (.dT l)) (h : AtT K H xs ns q) : AtT K (del H D) xs ns q := let ⟨⟨b, e1, g⟩, f⟩ := h; ⟨⟨b, e1, g.del e⟩, f⟩
theorem del_sub : Same (del H D) H := fun b o e => by
  by_cases z : b = D
  · rw [z, del_same] at e; cases e
  · rwa [del_ne z] at e
theorem same_del {H0 : Hp} (h : H0 D = none) (s : Same H0 H) : Same H0 (del H D) := fun b o e => (del_ne (fun z => by subst z; rw [h] at e; cases e)).trans (s b o e)
end
def keyP (p : List Nat) : List Key := p.map fun n : Nat => (Sum.inl (n : Int) : Key)
theorem keyP_V (p : List Nat) : (keyP p).map kV = paV p := by
  unfold keyP paV
  rw [List.map_map]
  rfl
theorem keyP_inj {p q : List Nat} (h : keyP p = keyP q) : p = q := by
  have : ∀ {p q : List Nat}, keyP p = keyP q → p = q := fun {p} => by
    induction p with
    | nil => intro q h; cases q with
      | nil => rfl
      | cons b q => cases h
    | cons a p ih =>
      intro q h
      cases q with
      | nil => cases h
      | cons b q =>
        have h' : (Sum.inl (a : Int) : Key) :: keyP p = (Sum.inl (b : Int) : Key) :: keyP q := h
        injection h' with h1 h2
        injection h1 with h1
        rw [ih h2, Int.ofNat.inj h1]
  exact this h
abbrev NEF : List Str := ["frame", "term", "found", "path", "part", "ends", "below", "_"]
theorem scEF : FnScope NEF ["frame", "term"] (defScope sEndsOf) := ⟨rfl, rfl, rfl, by decide +kernel, rfl, by decide +kernel, by decide +kernel⟩
/-- what is told of a raise of BadTerm -/
def RzT (K : PySem.W.Frag) (H : Hp) (E : XK) (p : List Nat) : Prop := ∀ (q dx : Addr) (H' : Hp), Same H H' → SqT K H' q (paV p) → H dx = none → H' dx = some (.xd [("path", .ref q)]) → E (.ref (CBadTerm K)) (some dx) H'
def spEF (K : PySem.W.Frag) : Sp := fun vs H Q E => ∃ (x : Addr) (v : V) (d : PyData) (xs : List Str) (ls : List Lt), vs = [.ref x, v] ∧ FrmA K H x xs ls ∧ FrOk xs ls ∧ Va K H v d ∧ (preD xs (ls.map (·.1)) [] d).length ≤ 400 ∧
  (∀ p, fl xs (ls.map (·.1)) d = some p → RzT K H E p) ∧
  ∀ t, d = dat t → Fmd xs (ls.map (·.1)) t → (∀ p, bT ls t = some p → RzT K H E p) ∧ (bT ls t = none → ∀ (T : Addr) (H' : Hp), Same H H' → SqT K H' T (prV (eL ls t)) → Q (.ref T) H')
section
variable {P : Program} {w : World} {K : PySem.W.Frag} {mg : Str → Option Value} {base : Heap} {f : Addr} {fd : FuncData}
theorem ok_ef (F : FnP K "ends_of" sEndsOf f fd) (Y : Fx w K mg) : FnOk P w K mg base (L2.CX P w) 6 f fd ["frame", "term"] (spEF K) := by
  obtain ⟨d1, F1⟩ := Y.dPartsChecked
  obtain ⟨d2, F2⟩ := Y.dPartsInnerFirst
  obtain ⟨d3, F3⟩ := Y.dBelow
  obtain ⟨d4, F4⟩ := Y.dEndsAbove
  have b1 := FunD.bindsN (ps := ["frame", "value"]) F1 fun _ _ _ _ _ _ us hl => match us, hl with | [_, _], _ => rfl
  have b2 := FunD.bindsN (ps := ["term"]) F2 fun _ _ _ _ _ _ us hl => match us, hl with | [_], _ => rfl
  have b3 := FunD.bindsN (ps := ["path", "part"]) F3 fun _ _ _ _ _ _ us hl => match us, hl with | [_, _], _ => rfl
  have b4 := FunD.bindsN (ps := ["frame", "part", "below"]) F4 fun _ _ _ _ _ _ us hl => match us, hl with | [_, _, _], _ => rfl
  have G1 : FnOk P w K mg base (L2.CX P w) 3 _ d1 ["frame", "value"] (spPCv K) := ok_pcv F1 Y
  have G2 : FnOk P w K mg base CX0 3 _ d2 ["term"] (spPI K) := ok_pi F2 Y
  have G3 : FnOk P w K mg base CX0 2 _ d3 ["path", "part"] (spBe Tm K) := ok_be F3 Y
  have G4 : FnOk P w K mg base CX0 5 _ d4 ["frame", "part", "below"] (spEA K) := ok_ea F4 Y
  refine F.ok scEF (fun vs H Q E h => ?_) (fun cdv A outer s H vs Q E hr h => ?_)
  · obtain ⟨x, v, d, xs, ls, rfl, _⟩ := h
    rfl
  · have nd := scEF.nd
    have hu := hu_of hr
    have hr2 : Room 2 _ := hr.mono (by decide)
    have hr3 : Room 3 _ := hr.mono (by decide)
    refine ⟨_, pss_cons (ps_expr (pe_callS G1 hr3 (by rfl) Y.gPartsChecked F1.kp b1 (fun σ => passAt (takes_of rfl rfl rfl rfl) σ) (pa_cons (pv 0) (pa_cons (pv 1) pa_nil))))
      (pss_cons (ps_set (i := 2) nd rfl (Or.inr rfl) pe_dnewT)
      (pss_cons (ps_for (passes_of rfl) rfl (pi_list (pe_call G2 hr3 (by rfl) Y.gPartsInnerFirst F2.kp b2 .nil pass0 (pa_cons (pv 1) pa_nil))) (pg_tup rfl (pgs_cons (pg_name (i := 3) nd rfl (Or.inl rfl)) (pgs_cons (pg_name (i := 4) nd rfl (Or.inl rfl)) pgs_nil)))
        (pss_cons (ps_set (i := 5) nd rfl (Or.inl rfl) (pe_call G4 hr (by rfl) Y.gEndsAbove F4.kp b4 .nil pass0 (pa_cons (pv 0) (pa_cons (pv 4) (pa_cons
          (pe_lc (own := [("below", 6), ("_", 7)]) (g := gTup K 2 (gCons (gName 6) (gCons (gName 7) gNil))) (tt := tYes) (te := tDGet (tVar 2) (tVar 6)) rfl nd
            (pi_list (pe_call G3 hr2 (by rfl) Y.gBelow F3.kp b3 .nil pass0 (pa_cons (pv 3) (pa_cons (pv 4) pa_nil)))) (blkOk_by (N := NEF) (sc := defScope sEndsOf) (by decide +kernel))
            (fun _ _ _ _ _ => pg_tup rfl (pgs_cons (pg_name (i := 6) nd rfl (Or.inl rfl)) (pgs_cons (pg_name (i := 7) nd rfl (Or.inl rfl)) pgs_nil))) (fun _ _ _ _ _ => pts_nil)
            (fun _ _ _ _ _ => pe_dget hu (pv 2) (pv 6) nosl)) pa_nil)))))
        (pss_cons (ps_if (pt_cmp (pc_isN (pv 5))) (pss_one (ps_raise rfl (takes_of rfl rfl rfl rfl) (pmk_ra (raBT Y) hr2 (by rfl) Y.gBadTerm (pa_cons (pv 3) pa_nil)))) pss_nil)
        (pss_one (ps_dput hu (pv 2) (pv 3) (pv 5) rfl)))))
      (pss_one (ps_ret (pe_dget hu (pv 2) (pe_tup pa_nil) nosl))))), ?_⟩
    obtain ⟨x, v, d, xs, ls, rfl, hF, ok, hv, hN, kE, kT⟩ := h
    refine ⟨_, rfl, _, rfl, x, v, d, xs, ls, rfl, hF, hv, hN, kE, fun e L1 H1 s1 => ?_⟩
    obtain ⟨t, rfl, fm⟩ := fm_of _ d (Nat.lt_succ_self _) e
    obtain ⟨kB, kS⟩ := kT t rfl fm
    obtain ⟨ua, rfl, htm⟩ := va_tm hv
    have hsz : t.sz ≤ 400 := by rw [← pre_dat [] fm]; exact hN
    intro D hD
    have sD := same_upd (o := .dT []) hD
    have eD0 : upd H1 D (.dT []) D = some (.dT []) := upd_same
    refine ⟨_, rfl, ua, t, xs, ls.map (·.1), rfl, htm.same (s1.trans sD), fm, hsz, fun L rs us H2 s2 eLs hP ep hA => ?_⟩
    have eD := s2 _ _ eD0
    have hHD : H D = none := none_of s1 hD
    obtain ⟨B, eB⟩ : ∃ B, B = del H2 D := ⟨_, rfl⟩
    have bD : B D = none := by rw [eB]; exact del_same
    have sB : Same H B := by rw [eB]; exact same_del hHD (s1.trans (sD.trans s2))
    have bP : Prs K B rs us := by rw [eB]; exact hP.del eD
    have bA : ∀ u ∈ us, AtT K B xs (ls.map (·.1)) u.2 ∧ u.1.length ≤ 400 := fun u hu => ⟨by rw [eB]; exact (hA u hu).1.del eD, (hA u hu).2⟩
    have bL : B L = some (.lst (rs.map V.ref)) := by rw [eB]; exact (del_ne (fun z => by rw [z, eD] at eLs; cases eLs)).trans eLs
    have sB2 : Same B H2 := by rw [eB]; exact del_sub
    have lr := bP.len
    have lus : us.length = t.sz := by
      have z := congrArg List.length ep
      rw [List.length_map, post_len] at z
      exact z
    refine ⟨L, rfl, ⟨_, SqL.of eLs⟩, for_list (K := K) (a := L) (xs := rs.map V.ref) (fun i σ G => (∃ v3 v4 v5, σ = [some (.ref x), some (.ref ua), some (.ref D), v3, v4, v5, none, none]) ∧ Same B G ∧ ∃ kvs, G D = some (.dT kvs) ∧ kvs.length ≤ i ∧
        ∀ u ∈ us.take i, fitT ls u.2.2 = true ∧ ∃ T, valV kvs (keyP u.1) = some (.ref T) ∧ SqT K G T (prV (eL ls u.2.2)))
      ⟨⟨_, _, _, rfl⟩, sB2, [], eD, Nat.le_refl _, fun u hu => absurd hu List.not_mem_nil⟩ (fun i σ G _ p => SqL.of (p.2.1 _ _ bL)) ?_ ?_⟩
    · rintro i v σ G hi ⟨⟨v3, v4, v5, rfl⟩, sm, kvs, eK, lk, hall⟩
      obtain ⟨r, er, rfl⟩ := ref_at hi
      obtain ⟨⟨pu, uv, u⟩, eu, q, h1, h2⟩ := bP.get er
      replace h1 : SqT K B r [.ref q, uv] := h1
      replace h2 : B q = some (.tup (paV pu)) := h2
      obtain ⟨hAu, lpu⟩ := bA _ (List.mem_of_getElem? eu)
      replace lpu : pu.length ≤ 400 := lpu
      obtain ⟨⟨b, eb, htu⟩, fu⟩ := hAu
      replace eb : uv = .ref b := eb
      subst eb
      replace htu : TmAt K B b u := htu
      replace fu : Fmd xs (ls.map (·.1)) u := fu
      have epi : (post [] t)[i]? = some (pu, u) := by
        rw [← ep, List.getElem?_map, eu]
        rfl
      have li := (List.getElem?_eq_some_iff.mp eu).1
      obtain ⟨xsv, m, sn, kids, hq, hs, lm, ek1, ek2, hkid⟩ := tm_parts (htu.same sm) fu
      refine ⟨r, _, rfl, sqt_same sm h1, rfl, _, _, rfl, _, _, rfl, rfl, ?_⟩
      dsimp only
      change tSeq _ _ _ [some (.ref x), some (.ref ua), some (.ref D), some (.ref q), some (.ref b), v5, none, none] G
      refine ⟨_, rfl, _, rfl, _, rfl, _, rfl, q, b, pu, u.hd, xsv, m, sn, kids, rfl, SqT.of (sm _ _ h2), by omega, hq, hs, lm, ek1, fun L2 rs2 G2 s2 hL2 eL2 hP2 => ⟨L2, rfl, ⟨_, SqL.of eL2⟩, fun D2 hD2 => ?_⟩⟩
      have eK2 := s2 _ _ eK
      have lkid : kids.length = u.kids.length := by rw [← ek2, List.length_map]
      have lk2 : u.kids.length ≤ 2 := by cases u <;> simp [Tm.kids]
      refine lc_list (K := K) (a := L2) (xs := rs2.map V.ref) (fun j G' => ∃ es : List Addr, G' D2 = some (.lst (es.map V.ref)) ∧ Ens K G' es ((u.kids.take j).map (eL ls)) ∧ Same G2 G') ⟨[], upd_same, .nil, same_upd hD2⟩ (fun j G' _ p => by obtain ⟨_, _, _, p⟩ := p; exact p.seq (SqL.of eL2)) ?_ ?_
      · rintro j v G' hj ⟨es, e2, hE, sj⟩
        obtain ⟨r2, er2, rfl⟩ := ref_at hj
        obtain ⟨kx, ekx, q2, g1, g2⟩ := hP2.get er2
        have lj := (List.getElem?_eq_some_iff.mp ekx).1
        rw [kp_len] at lj
        obtain ⟨kk, ekk⟩ : ∃ kk, kids[j]? = some kk := ⟨kids[j], List.getElem?_eq_getElem lj⟩
        have z := kp_at (p := pu) (i := 0) ekk
        rw [Nat.zero_add, ekx] at z
        cases z
        have euk : u.kids[j]? = some kk.2 := by rw [← ek2, List.getElem?_map, ekk]; rfl
        have mem := post_before t [] i pu u epi j kk.2 euk
        rw [← ep, ← List.map_take] at mem
        obtain ⟨y, hy, ey⟩ := List.mem_map.mp mem
        have ey1 : y.1 = pu ++ [j] := congrArg Prod.fst ey
        have ey2 : (sndT y).2 = kk.2 := congrArg Prod.snd ey
        replace ey2 : y.2.2 = kk.2 := ey2
        obtain ⟨_, T, eT, hT⟩ := hall y hy
        rw [ey1] at eT
        rw [ey2] at hT
        have dg : DGet G' D (.ref q2) (some (.ref T)) := by
          rw [← eT]
          exact DGet.t (sj _ _ eK2) (by rw [keyP_V]; exact sj _ _ g2)
        refine ⟨r2, _, rfl, sqt_same sj g1, rfl, _, _, rfl, _, _, rfl, rfl, rfl, _, rfl, _, rfl, D, .ref T, rfl, dg, ?_⟩
        refine ⟨_, e2, ?_, es ++ [T], by rw [upd_same, List.map_append]; rfl, ?_, same_put hD2 sj⟩
        · have ll := hE.len
          rw [List.length_map, List.length_take] at ll
          rw [List.length_map]
          exact small1000 (by omega)
        · rw [List.take_add_one, euk, List.map_append]
          exact (hE.app (.cons (sqt_same (s2.trans sj) hT) .nil)).put e2
      rintro G3 ⟨es, e2, hE, s3⟩
      rw [List.length_map, hP2.len, kp_len, List.take_of_length_le (by omega)] at hE
      have sG3 := s2.trans s3
      have sm3 := sm.trans sG3
      have eK3 := sG3 _ _ eK
      refine ⟨x, b, D2, xs, ls, u, es, rfl, hF.same (sB.trans sm3), ok, htu.same sm3, fu, SqL.of e2, hE, fun hfit H' s' => ?_, fun hfit T H' s' hT => ?_⟩
      · have sm4 := sm3.trans s'
        refine ⟨_, rfl, _, rfl, iteT ?_⟩
        have efind : (post [] t).find? (misE ls) = some (pu, u) := by
          refine find_at epi (by unfold misE; rw [hfit]; rfl) fun y hy => ?_
          rw [← ep, ← List.map_take] at hy
          obtain ⟨z, hz, rfl⟩ := List.mem_map.mp hy
          unfold misE
          rw [show fitT ls (sndT z).2 = true from (hall z hz).1]
          rfl
        have eb : bT ls t = some pu := by rw [← post_first, efind]; rfl
        refine ⟨_, rfl, (by show 1 ≤ 1000; decide), fun a ha => mkO_tup (SqT.of (sm4 _ _ h2)) (fun dx H' s' hd e => kB pu eb q dx H' (sB.trans (sm4.trans s')) (SqT.of (s' _ _ (sm4 _ _ h2))) (none_of (sB.trans sm4) hd) e) a ha⟩
      · have sm4 := sm3.trans s'
        have eK4 := s' _ _ eK3
        refine ⟨_, rfl, _, rfl, iteF ?_⟩
        refine ⟨_, rfl, _, rfl, _, rfl, D, _, rfl, DPut.t (k := keyP pu) eK4 (by rw [keyP_V]; exact sm4 _ _ h2) (small1000 (by omega)), ?_⟩
        refine ⟨⟨_, _, _, rfl⟩, same_put bD sm4, putK kvs (keyP pu) (.ref T), upd_same, ?_, fun y hy => ?_⟩
        · exact Nat.le_trans (length_putK _ _ _) (by omega)
        · rw [List.take_add_one, eu] at hy
          rcases List.mem_append.mp hy with hy | hy
          · obtain ⟨hy1, T', eT', hT'⟩ := hall y hy
            refine ⟨hy1, ?_⟩
            by_cases c : keyP y.1 = keyP pu
            · refine ⟨T, by rw [valV_put, if_pos c], ?_⟩
              have ey : y.1 = pu := keyP_inj c
              have m1 : (pu, y.2.2) ∈ post [] t := by
                rw [← ep]
                exact List.mem_map.mpr ⟨y, List.mem_of_mem_take hy, by unfold sndT; rw [ey]⟩
              have e3 : y.2.2 = u := post_inj m1 (List.mem_of_getElem? epi)
              rw [e3]
              exact sqt_putT eK4 hT
            · refine ⟨T', by rw [valV_put, if_neg c]; exact eT', ?_⟩
              exact sqt_putT eK4 (sqt_same (sG3.trans s') hT')
          · have hy' : y = (pu, V.ref b, u) := by simpa using hy
            subst hy'
            exact ⟨hfit, T, by rw [valV_put, if_pos rfl], sqt_putT eK4 hT⟩
    · rintro σ G ⟨⟨v3, v4, v5, rfl⟩, sm, kvs, eK, lk, hall⟩
      rw [List.length_map, lr, List.take_length] at hall
      have eb : bT ls t = none := by
        rw [← post_first]
        have : (post [] t).find? (misE ls) = none := by
          rw [List.find?_eq_none]
          intro y hy
          rw [← ep] at hy
          obtain ⟨z, hz, rfl⟩ := List.mem_map.mp hy
          unfold misE
          rw [show fitT ls (sndT z).2 = true from (hall z hz).1]
          simp
        rw [this]
        rfl
      have mr := post_root t []
      rw [← ep] at mr
      obtain ⟨y, hy, ey⟩ := List.mem_map.mp mr
      have ey1 : y.1 = [] := congrArg Prod.fst ey
      have ey2 : (sndT y).2 = t := congrArg Prod.snd ey
      replace ey2 : y.2.2 = t := ey2
      obtain ⟨_, T, eT, hT⟩ := hall y hy
      rw [ey1] at eT
      rw [ey2] at hT
      refine ⟨_, rfl, szl (by show 0 ≤ 1000; decide), fun T0 hT0 => ?_⟩
      have sT0 := same_upd (o := .tup []) hT0
      refine ⟨D, .ref T, rfl, ?_, kS eb T _ (sB.trans (sm.trans sT0)) (sqt_same sT0 hT)⟩
      rw [← eT]
      exact DGet.t (k := keyP []) (sT0 _ _ eK) upd_same
end
end K43

namespace K43
open PySem PySem.Spec PyProof.Rows L2 Ow Xv
/-! ### flat, kept, short -/
theorem noneOf_leaf {ws : List Str} {w : Str} {ss : List Str} : noneOf ws (.leaf w ss) = !decide (w ∈ ws) := by
  show (noneB ws (.leaf w ss) && true) = _
  rw [Bool.and_true]
  rfl
theorem noneOf_one {ws : List Str} {w : Str} {t : Tm} : noneOf ws (.one w t) = (!decide (w ∈ ws) && noneOf ws t) := rfl
theorem noneOf_two {ws : List Str} {w : Str} {s t : Tm} : noneOf ws (.two w s t) = (!decide (w ∈ ws) && (noneOf ws s && noneOf ws t)) := by
  show (noneB ws (.two w s t) && ((s.pre ++ t.pre).map (noneB ws)).all id) = _
  rw [List.map_append, List.all_append]
  rfl
theorem leafOk_ne {w : Str} {ss : List Str} (h : LeafOk w ss) : w = "letter" ∨ w = "same" ∨ w = "other" ∨ w = "none" ∨ w = "all" := by
  rcases h with ⟨e, _⟩ | ⟨e, _⟩ | ⟨e, _⟩ | ⟨e, _⟩ | ⟨e, _⟩
  · exact .inl e
  · exact .inr (.inl e)
  · exact .inr (.inr (.inl e))
  · exact .inr (.inr (.inr (.inl e)))
  · exact .inr (.inr (.inr (.inr e)))
theorem leaf_NF {w : Str} {ss : List Str} (h : LeafOk w ss) : decide (w ∈ NF) = false ∧ decide (w ∈ NSh) = false ∧ decide (w = "rest") = false := by
  rcases leafOk_ne h with rfl | rfl | rfl | rfl | rfl <;> exact ⟨by decide +kernel, by decide +kernel, by decide +kernel⟩
theorem none_fB : ∀ {t : Tm}, Rt t → noneOf NF t = fB t
  | .leaf w ss, h => by
    rw [noneOf_leaf, (leaf_NF h).1]
    rfl
  | .one w t, h => by
    rw [noneOf_one, none_fB h.2]
    show (_ && fB t) = (decide (w = "rest" ∨ w = "turned") && fB t)
    rcases h.1 with rfl | rfl | rfl | rfl
    · rw [show decide (("rest" : Str) ∈ NF) = false by decide +kernel, show decide (("rest" : Str) = "rest" ∨ ("rest" : Str) = "turned") = true by decide +kernel]; rfl
    · rw [show decide (("turned" : Str) ∈ NF) = false by decide +kernel, show decide (("turned" : Str) = "rest" ∨ ("turned" : Str) = "turned") = true by decide +kernel]; rfl
    · rw [show decide (("closed" : Str) ∈ NF) = true by decide +kernel, show decide (("closed" : Str) = "rest" ∨ ("closed" : Str) = "turned") = false by decide +kernel]; rfl
    · rw [show decide (("walked" : Str) ∈ NF) = true by decide +kernel, show decide (("walked" : Str) = "rest" ∨ ("walked" : Str) = "turned") = false by decide +kernel]; rfl
  | .two w s t, h => by
    rw [noneOf_two, none_fB h.2.1, none_fB h.2.2]
    show (_ && (fB s && fB t)) = (decide (w = "joined" ∨ w = "cut") && (fB s && fB t))
    rcases h.1 with rfl | rfl | rfl
    · rw [show decide (("joined" : Str) ∈ NF) = false by decide +kernel, show decide (("joined" : Str) = "joined" ∨ ("joined" : Str) = "cut") = true by decide +kernel]; rfl
    · rw [show decide (("cut" : Str) ∈ NF) = false by decide +kernel, show decide (("cut" : Str) = "joined" ∨ ("cut" : Str) = "cut") = true by decide +kernel]; rfl
    · rw [show decide (("then" : Str) ∈ NF) = true by decide +kernel, show decide (("then" : Str) = "joined" ∨ ("then" : Str) = "cut") = false by decide +kernel]; rfl
theorem rkO_app (a b : List Tm) : rkO (a ++ b) = rkO a ++ rkO b := by simp [rkO, List.filter_append, List.flatMap_append]
theorem kept_leaf {w : Str} {ss : List Str} (h : decide (w = "rest") = false) : keptB (.leaf w ss) = true := by
  have e : isRest (.leaf w ss) = false := h
  simp [keptB, Tm.pre, rkO, e]
theorem kept_one {w : Str} {t : Tm} : keptB (.one w t) = ((!decide (w = "rest") || noneOf NF t) && keptB t) := by
  unfold keptB
  rw [show (Tm.one w t).pre = [Tm.one w t] ++ t.pre from rfl, rkO_app, List.map_append, List.all_append]
  congr 1
  by_cases h : w = "rest"
  · have e : isRest (.one w t) = true := decide_eq_true h
    rw [decide_eq_true h]
    simp [rkO, e, Tm.kids]
  · have e : isRest (.one w t) = false := decide_eq_false h
    simp [rkO, e, h]
theorem kept_two {w : Str} {s t : Tm} (h : w ≠ "rest") : keptB (.two w s t) = (keptB s && keptB t) := by
  unfold keptB
  have e : isRest (.two w s t) = false := decide_eq_false h
  rw [show (Tm.two w s t).pre = [Tm.two w s t] ++ (s.pre ++ t.pre) from rfl, rkO_app, rkO_app, List.map_append, List.all_append, List.map_append, List.all_append, show rkO [Tm.two w s t] = [] by simp [rkO, e]]
  rfl
theorem two_ne_rest {w : Str} (h : TwoOk w) : w ≠ "rest" := by
  rcases h with rfl | rfl | rfl <;> decide +kernel
theorem flat_kept : ∀ {t : Tm}, Rt t → FlT t → keptB t = true ∧ noneOf NSh t = true
  | .leaf w ss, h, _ => ⟨kept_leaf (leaf_NF h).2.2, by rw [noneOf_leaf, (leaf_NF h).2.1]; rfl⟩
  | .one w t, h, f => by
    obtain ⟨a, b⟩ := flat_kept h.2 f.2
    refine ⟨?_, ?_⟩
    · rw [kept_one, a, none_fB h.2, (fB_iff t).mpr f.2]
      simp
    · rw [noneOf_one, b]
      rcases f.1 with rfl | rfl <;> decide +kernel
  | .two w s t, h, f => by
    obtain ⟨a, b⟩ := flat_kept h.2.1 f.2.1
    obtain ⟨a2, b2⟩ := flat_kept h.2.2 f.2.2
    refine ⟨?_, ?_⟩
    · rw [kept_two (two_ne_rest h.1), a, a2]; rfl
    · rw [noneOf_two, b, b2]
      rcases f.1 with rfl | rfl <;> decide +kernel
theorem short_kept {t : Tm} (s : Short t) : Rt t → keptB t = true ∧ noneOf NSh t = true := by
  induction s with
  | @leaf w ss => exact fun h => flat_kept h trivial
  | @rest t f => exact fun h => flat_kept h ⟨.inl rfl, f⟩
  | @turned t s ih =>
    intro h
    obtain ⟨a, b⟩ := ih h.2
    refine ⟨?_, ?_⟩
    · rw [kept_one, a, show decide (("turned" : Str) = "rest") = false by decide +kernel]; rfl
    · rw [noneOf_one, b]; decide +kernel
  | @joined s t _ _ i1 i2 =>
    intro h
    obtain ⟨a, b⟩ := i1 h.2.1
    obtain ⟨a2, b2⟩ := i2 h.2.2
    exact ⟨by rw [kept_two (two_ne_rest h.1), a, a2]; rfl, by rw [noneOf_two, b, b2]; decide +kernel⟩
  | @cut s t _ _ i1 i2 =>
    intro h
    obtain ⟨a, b⟩ := i1 h.2.1
    obtain ⟨a2, b2⟩ := i2 h.2.2
    exact ⟨by rw [kept_two (two_ne_rest h.1), a, a2]; rfl, by rw [noneOf_two, b, b2]; decide +kernel⟩
  | @then_ s t _ _ i1 i2 =>
    intro h
    obtain ⟨a, b⟩ := i1 h.2.1
    obtain ⟨a2, b2⟩ := i2 h.2.2
    exact ⟨by rw [kept_two (two_ne_rest h.1), a, a2]; rfl, by rw [noneOf_two, b, b2]; decide +kernel⟩
theorem Ty.fm0 {xs : List Str} {ls : List Lt} {t : Tm} {x y : Str} (h : Ty xs ls t x y) : Fmd xs (ls.map (·.1)) t := by
  induction h with
  | letter h => exact .inl ⟨rfl, _, rfl, List.mem_map_of_mem h⟩
  | same h => exact .inr (.inl ⟨rfl, _, rfl, h⟩)
  | other h => exact .inr (.inr (.inl ⟨rfl, _, rfl, h⟩))
  | none h g => exact .inr (.inr (.inr (.inl ⟨rfl, _, _, rfl, h, g⟩)))
  | all h g => exact .inr (.inr (.inr (.inr ⟨rfl, _, _, rfl, h, g⟩)))
  | rest _ ih => exact ⟨.inl rfl, ih⟩
  | turned _ ih => exact ⟨.inr (.inl rfl), ih⟩
  | closed _ ih => exact ⟨.inr (.inr (.inl rfl)), ih⟩
  | walked _ ih => exact ⟨.inr (.inr (.inr rfl)), ih⟩
  | joined _ _ i1 i2 => exact ⟨.inl rfl, i1, i2⟩
  | cut _ _ i1 i2 => exact ⟨.inr (.inl rfl), i1, i2⟩
  | then_ _ _ i1 i2 => exact ⟨.inr (.inr rfl), i1, i2⟩
/-! ### ways -/
abbrev Mk2 : Type := Tm × Nat × Nat
abbrev Wy : Type := List Str × List Mk2
def nums (a b c n : Nat) : List Nat := a :: b :: (List.range n).map (· + c)
def rnm (ns : List Nat) (ms : List Mk2) : List Mk2 := ms.map fun m => (m.1, ns.getD m.2.1 0, ns.getD m.2.2 0)
def turnW (w : Wy) : Wy := (w.1.getD 1 "" :: w.1.getD 0 "" :: w.1.drop 2, rnm (nums 1 0 2 (w.1.length - 2)) w.2)
def cutW (o p : Wy) : Wy := (o.1 ++ p.1.drop 2, o.2 ++ rnm (nums 0 1 o.1.length (p.1.length - 2)) p.2)
def thenW (o p : Wy) : Wy := (o.1.getD 0 "" :: p.1.getD 1 "" :: o.1.getD 1 "" :: (o.1.drop 2 ++ p.1.drop 2), rnm (nums 0 2 3 (o.1.length - 2)) o.2 ++ rnm (nums 2 1 (o.1.length + 1) (p.1.length - 2)) p.2)
def baseW (ls : List Lt) (t : Tm) : Wy := ([(eL ls t).1, (eL ls t).2], [(t, 0, 1)])
def wys (ls : List Lt) : Tm → List Wy
  | .leaf w ss => [baseW ls (.leaf w ss)]
  | .one w t => if fB (.one w t) then [baseW ls (.one w t)] else (wys ls t).map turnW
  | .two w s t => if fB (.two w s t) then [baseW ls (.two w s t)] else if w = "joined" then wys ls s ++ wys ls t else if w = "cut" then (wys ls s).flatMap (fun o => (wys ls t).map (cutW o)) else (wys ls s).flatMap fun o => (wys ls t).map (thenW o)
theorem flat_wys {ls : List Lt} {t : Tm} (h : fB t = true) : wys ls t = [baseW ls t] := by
  cases t with
  | leaf w ss => rfl
  | one w t => unfold wys; rw [if_pos h]
  | two w s t => unfold wys; rw [if_pos h]
theorem fm_const {α β : Type} (f : α → List β) (n : Nat) : ∀ xs : List α, (∀ x ∈ xs, (f x).length = n) → (xs.flatMap f).length = xs.length * n
  | [], _ => by simp
  | x :: xs, h => by
    rw [List.flatMap_cons, List.length_append, h x List.mem_cons_self, fm_const f n xs fun y hy => h y (List.mem_cons_of_mem _ hy), List.length_cons, Nat.succ_mul, Nat.add_comm]
theorem wys_len (ls : List Lt) : ∀ t : Tm, (wys ls t).length = cnt t
  | .leaf w ss => rfl
  | .one w t => by
    have := wys_len ls t
    unfold wys cnt
    split
    · rfl
    · rw [List.length_map, this]
  | .two w s t => by
    have h1 := wys_len ls s
    have h2 := wys_len ls t
    unfold wys cnt
    split
    · rfl
    · split
      · rw [List.length_append, h1, h2]
      · split
        · rw [fm_const _ (cnt t) _ fun x _ => by rw [List.length_map, h2], h1]
        · rw [fm_const _ (cnt t) _ fun x _ => by rw [List.length_map, h2], h1]
def MkOk (xs : List Str) (ls : List Lt) (ss : List Str) (m : Mk2) : Prop := ∃ a b, ss[m.2.1]? = some a ∧ ss[m.2.2]? = some b ∧ Ty xs ls m.1 a b ∧ FlT m.1 ∧ m.1.sz ≤ 50
structure WyOk (xs : List Str) (ls : List Lt) (n : Nat) (x y : Str) (w : Wy) : Prop where
  x1 : w.1[0]? = some x
  y1 : w.1[1]? = some y
  ln : w.1.length ≤ n + 1
  mn : w.2.length ≤ n
  inx : ∀ z ∈ w.1, z ∈ xs
  mks : ∀ m ∈ w.2, MkOk xs ls w.1 m
section
variable {xs : List Str} {ls : List Lt} {n m : Nat} {x y z : Str} {w o p : Wy}
theorem WyOk.sh (h : WyOk xs ls n x y w) : ∃ r, w.1 = x :: y :: r := by
  have h1 := h.x1
  have h2 := h.y1
  match w.1, h1, h2 with
  | [], h1, _ => cases h1
  | [a], h1, h2 => cases h2
  | a :: b :: r, h1, h2 => exact ⟨r, by rw [Option.some.inj h1, Option.some.inj h2]⟩
theorem nums_k {a b c n k : Nat} (h : k < n) : (nums a b c n).getD (k + 2) 0 = k + c := by
  unfold nums
  simp [List.getD, h]
theorem nums_len {a b c n : Nat} : (nums a b c n).length = n + 2 := by simp [nums]
theorem nums_put {x y : Str} {r ss : List Str} {a b c : Nat} (h0 : ss[a]? = some x) (h1 : ss[b]? = some y) (h2 : ∀ k v, r[k]? = some v → ss[k + c]? = some v) : ∀ i v, (x :: y :: r)[i]? = some v → ss[(nums a b c r.length).getD i 0]? = some v
  | 0, v, e => by
    cases e
    exact h0
  | 1, v, e => by
    cases e
    exact h1
  | k + 2, v, e => by
    have e2 : r[k]? = some v := e
    rw [nums_k (List.getElem?_eq_some_iff.mp e2).1]
    exact h2 k v e2
theorem MkOk.rnm {ss ss' : List Str} {ns : List Nat} {m : Mk2} (h : MkOk xs ls ss m) (g : ∀ i v, ss[i]? = some v → ss'[ns.getD i 0]? = some v) : MkOk xs ls ss' (m.1, ns.getD m.2.1 0, ns.getD m.2.2 0) := by
  obtain ⟨a, b, h1, h2, h3⟩ := h
  exact ⟨a, b, g _ _ h1, g _ _ h2, h3⟩
theorem WyOk.turn (h : WyOk xs ls n x y w) : WyOk xs ls n y x (turnW w) := by
  obtain ⟨r, e⟩ := h.sh
  have l := h.ln
  have hm := h.mks
  have hx := h.inx
  rw [e] at l hm hx
  have e1 : (turnW w).1 = y :: x :: r := by unfold turnW; rw [e]; rfl
  have e2 : (turnW w).2 = rnm (nums 1 0 2 r.length) w.2 := by unfold turnW; rw [e]; rfl
  refine ⟨by rw [e1]; rfl, by rw [e1]; rfl, by rw [e1]; exact l, by rw [e2]; unfold rnm; rw [List.length_map]; exact h.mn, fun z hz => ?_, fun m hmm => ?_⟩
  · rw [e1] at hz
    refine hx z ?_
    rcases List.mem_cons.mp hz with q | q
    · rw [q]; exact List.mem_cons_of_mem _ List.mem_cons_self
    · rcases List.mem_cons.mp q with q | q
      · rw [q]; exact List.mem_cons_self
      · exact List.mem_cons_of_mem _ (List.mem_cons_of_mem _ q)
  · rw [e2] at hmm
    obtain ⟨m0, h0, rfl⟩ := List.mem_map.mp hmm
    rw [e1]
    exact (hm m0 h0).rnm (nums_put rfl rfl fun k v hk => hk)
theorem getE_app {a b : List Str} {i : Nat} {v : Str} (h : a[i]? = some v) : (a ++ b)[i]? = some v := by
  rw [List.getElem?_append_left (List.getElem?_eq_some_iff.mp h).1]
  exact h
theorem getE_app2 {a b : List Str} {i : Nat} {v : Str} (h : b[i]? = some v) : (a ++ b)[i + a.length]? = some v := by
  rw [List.getElem?_append_right (by omega), Nat.add_sub_cancel]
  exact h
theorem WyOk.cut (h : WyOk xs ls n x y o) (g : WyOk xs ls m x y p) : WyOk xs ls (n + m) x y (cutW o p) := by
  obtain ⟨r, e⟩ := h.sh
  obtain ⟨q, e'⟩ := g.sh
  have l := h.ln
  have l' := g.ln
  have hm' := g.mks
  rw [e'] at l' hm'
  rw [List.length_cons, List.length_cons] at l'
  have e1 : (cutW o p).1 = o.1 ++ q := by unfold cutW; rw [e']; rfl
  have e2 : (cutW o p).2 = o.2 ++ rnm (nums 0 1 o.1.length q.length) p.2 := by unfold cutW; rw [e']; rfl
  have a1 := h.mn
  have a2 := g.mn
  refine ⟨by rw [e1]; exact getE_app h.x1, by rw [e1]; exact getE_app h.y1, by rw [e1, List.length_append]; omega, by rw [e2, List.length_append]; unfold rnm; rw [List.length_map]; omega, fun z hz => ?_, fun mm hmm => ?_⟩
  · rw [e1] at hz
    rcases List.mem_append.mp hz with q0 | q0
    · exact h.inx z q0
    · exact g.inx z (by rw [e']; exact List.mem_cons_of_mem _ (List.mem_cons_of_mem _ q0))
  · rw [e2] at hmm
    rw [e1]
    rcases List.mem_append.mp hmm with q0 | q0
    · obtain ⟨a, b, h1, h2, h3⟩ := h.mks mm q0
      exact ⟨a, b, getE_app h1, getE_app h2, h3⟩
    · obtain ⟨m0, h0, rfl⟩ := List.mem_map.mp q0
      exact (hm' m0 h0).rnm (nums_put (getE_app h.x1) (getE_app h.y1) fun k v hk => getE_app2 hk)
theorem WyOk.then_ (h : WyOk xs ls n x z o) (g : WyOk xs ls m z y p) : WyOk xs ls (n + m) x y (thenW o p) := by
  obtain ⟨r, e⟩ := h.sh
  obtain ⟨q, e'⟩ := g.sh
  have l := h.ln
  have l' := g.ln
  have hm := h.mks
  have hm' := g.mks
  have hx := h.inx
  have hx' := g.inx
  rw [e] at l hm hx
  rw [e'] at l' hm' hx'
  rw [List.length_cons, List.length_cons] at l l'
  have e1 : (thenW o p).1 = x :: y :: z :: (r ++ q) := by unfold thenW; rw [e, e']; rfl
  have e2 : (thenW o p).2 = rnm (nums 0 2 3 r.length) o.2 ++ rnm (nums 2 1 (r.length + 3) q.length) p.2 := by unfold thenW; rw [e, e']; rfl
  have a1 := h.mn
  have a2 := g.mn
  refine ⟨by rw [e1]; rfl, by rw [e1]; rfl, by rw [e1]; simp only [List.length_cons, List.length_append]; omega, by rw [e2, List.length_append]; unfold rnm; rw [List.length_map, List.length_map]; omega, fun v hv => ?_, fun mm hmm => ?_⟩
  · rw [e1] at hv
    rcases List.mem_cons.mp hv with q0 | q0
    · rw [q0]; exact hx _ List.mem_cons_self
    · rcases List.mem_cons.mp q0 with q0 | q0
      · rw [q0]; exact hx' _ (List.mem_cons_of_mem _ List.mem_cons_self)
      · rcases List.mem_cons.mp q0 with q0 | q0
        · rw [q0]; exact hx _ (List.mem_cons_of_mem _ List.mem_cons_self)
        · rcases List.mem_append.mp q0 with q0 | q0
          · exact hx _ (List.mem_cons_of_mem _ (List.mem_cons_of_mem _ q0))
          · exact hx' _ (List.mem_cons_of_mem _ (List.mem_cons_of_mem _ q0))
  · rw [e2] at hmm
    rw [e1]
    rcases List.mem_append.mp hmm with q0 | q0
    · obtain ⟨m0, h0, rfl⟩ := List.mem_map.mp q0
      refine (hm m0 h0).rnm (nums_put rfl rfl fun k v hk => ?_)
      show (r ++ q)[k]? = some v
      exact getE_app hk
    · obtain ⟨m0, h0, rfl⟩ := List.mem_map.mp q0
      refine (hm' m0 h0).rnm (nums_put rfl rfl fun k v hk => ?_)
      show (r ++ q)[k + r.length]? = some v
      exact getE_app2 hk
theorem WyOk.le (h : WyOk xs ls n x y w) (l : n ≤ m) : WyOk xs ls m x y w := ⟨h.x1, h.y1, by have := h.ln; omega, by have := h.mn; omega, h.inx, h.mks⟩
theorem WyOk.base (ok : FrOk xs ls) {t : Tm} (h : Ty xs ls t x y) (f : FlT t) (l : t.sz ≤ 50) : WyOk xs ls t.sz x y (baseW ls t) := by
  have z1 : 1 ≤ t.sz := by cases t <;> simp only [Tm.sz] <;> omega
  obtain ⟨ee, _⟩ := Ty.eL (fun q hq => find_nd ok.nl.nd hq) h
  have e1 : (baseW ls t).1 = [x, y] := by unfold baseW; rw [ee]
  have i := Ty.fm0 h
  refine ⟨by rw [e1]; rfl, by rw [e1]; rfl, by rw [e1]; show 2 ≤ _; omega, z1, fun z hz => ?_, fun m hm => ?_⟩
  · rw [e1] at hz
    have i2 := eL_in ok i
    rw [ee] at i2
    rcases List.mem_cons.mp hz with q | q
    · rw [q]; exact i2.1
    · rw [List.mem_singleton.mp q]; exact i2.2
  · rw [List.mem_singleton.mp hm, e1]
    exact ⟨x, y, rfl, rfl, h, f, l⟩
end
theorem wys_ok {xs : List Str} {ls : List Lt} (ok : FrOk xs ls) {t : Tm} (s : Short t) : ∀ {x y : Str}, Ty xs ls t x y → t.sz ≤ 50 → ∀ w ∈ wys ls t, WyOk xs ls t.sz x y w := by
  have flat : ∀ {t : Tm} {x y : Str}, fB t = true → Ty xs ls t x y → t.sz ≤ 50 → ∀ w ∈ wys ls t, WyOk xs ls t.sz x y w := fun {t x y} f h l w hw => by
    rw [flat_wys f] at hw
    rw [List.mem_singleton.mp hw]
    exact WyOk.base ok h ((fB_iff t).mp f) l
  induction s with
  | leaf => exact fun h l => flat rfl h l
  | @rest t f => exact fun h l => flat ((fB_iff _).mpr ⟨.inl rfl, f⟩) h l
  | @turned t s ih =>
    intro x y h l w hw
    by_cases f : fB (.one "turned" t) = true
    · exact flat f h l w hw
    · unfold wys at hw
      rw [if_neg f] at hw
      obtain ⟨w0, h0, rfl⟩ := List.mem_map.mp hw
      cases h with
      | turned h => exact ((ih h (by simp only [Tm.sz] at l; omega) w0 h0).turn).le (by simp only [Tm.sz]; omega)
  | @joined s t _ _ i1 i2 =>
    intro x y h l w hw
    by_cases f : fB (.two "joined" s t) = true
    · exact flat f h l w hw
    · unfold wys at hw
      rw [if_neg f, if_pos rfl] at hw
      simp only [Tm.sz] at l
      cases h with
      | joined h1 h2 =>
        rcases List.mem_append.mp hw with q | q
        · exact (i1 h1 (by omega) w q).le (by simp only [Tm.sz]; omega)
        · exact (i2 h2 (by omega) w q).le (by simp only [Tm.sz]; omega)
  | @cut s t _ _ i1 i2 =>
    intro x y h l w hw
    by_cases f : fB (.two "cut" s t) = true
    · exact flat f h l w hw
    · unfold wys at hw
      rw [if_neg f, if_neg (by decide +kernel), if_pos rfl] at hw
      simp only [Tm.sz] at l
      obtain ⟨o, ho, hw⟩ := List.mem_flatMap.mp hw
      obtain ⟨p, hp, rfl⟩ := List.mem_map.mp hw
      cases h with
      | cut h1 h2 => exact ((i1 h1 (by omega) o ho).cut (i2 h2 (by omega) p hp)).le (by simp only [Tm.sz]; omega)
  | @then_ s t _ _ i1 i2 =>
    intro x y h l w hw
    have f : ¬ fB (.two "then" s t) = true := fun q => by
      rcases ((fB_iff _).mp q).1 with q | q <;> exact absurd q (by decide +kernel)
    unfold wys at hw
    rw [if_neg f, if_neg (by decide +kernel), if_neg (by decide +kernel)] at hw
    simp only [Tm.sz] at l
    obtain ⟨o, ho, hw⟩ := List.mem_flatMap.mp hw
    obtain ⟨p, hp, rfl⟩ := List.mem_map.mp hw
    cases h with
    | then_ h1 h2 => exact ((i1 h1 (by omega) o ho).then_ (i2 h2 (by omega) p hp)).le (by simp only [Tm.sz]; omega)
end K43

namespace K43
open PySem PySem.Spec PyProof.Rows L2 Ow Xv
/-! ### ways in the heap -/
section
variable {K : PySem.W.Frag} {H : Hp} {a : Addr} {xs : List V} {Q : VK}
theorem cutV_tl (x : V) (xs : List V) : cutV (x :: xs) (some 1) none = xs := by
  have e1 : HT.sIx (x :: xs).length 0 (some 1) = 1 := by
    unfold HT.sIx
    simp
  unfold cutV
  rw [HT.sIx_none, e1]
  simp
theorem slice_from {σ : L2.St} {lo : Option Int} (h : SqT K H a xs) (k : ∀ (T : Addr) (H' : Hp), Same H H' → SqT K H' T (cutV xs lo none) → Q (.ref T) H') :
    tNoPart σ H (fun u H3 => rSlA K (.ref a) lo u H3 Q) := slice_any h k
end
theorem cutV_drop (xs : List V) (n : Nat) : cutV xs (some (n : Int)) none = xs.drop n := by
  unfold cutV
  rw [HT.sIx_none, HT.sIx_nat]
  by_cases h : n ≤ xs.length
  · rw [Nat.min_eq_left h, List.take_of_length_le (by rw [List.length_drop]; exact Nat.le_refl _)]
  · rw [Nat.min_eq_right (by omega), List.drop_of_length_le (Nat.le_refl _), List.drop_of_length_le (by omega), List.take_nil]
/-! ### a term bent -/
/-- all but lists stay -/
def XT (H H' : Hp) : Prop := ∀ b o, H b = some o → (∀ l, o ≠ .lst l) → H' b = some o
theorem XT.of {H H' : Hp} (s : Same H H') : XT H H' := fun b o h _ => s b o h
theorem XT.put {H : Hp} {D : Addr} {l : List V} {o : HO} (e : H D = some (.lst l)) : XT H (upd H D o) := fun b u h n => (upd_ne fun z => by rw [z, e] at h; exact n l (Option.some.inj h).symm).trans h
theorem XT.trans {H H1 H2 : Hp} (a : XT H H1) (b : XT H1 H2) : XT H H2 := fun c o h n => b c o (a c o h n) n
theorem XT.sqt {K : PySem.W.Frag} {H H' : Hp} {a : Addr} {xs : List V} (x : XT H H') (h : SqT K H a xs) : SqT K H' a xs :=
  h.elim (fun h => .inl (h.elim (fun h => .inl (x _ _ h nofun)) fun ⟨o, h⟩ => .inr ⟨o, x _ _ h nofun⟩)) fun h => .inr h
theorem TmAt.xt {K : PySem.W.Frag} {H H' : Hp} (x : XT H H') : ∀ {t : Tm} {a : Addr}, TmAt K H a t → TmAt K H' a t
  | .leaf _ _, _, h => x.sqt h
  | .one _ _, _, ⟨b, h, g⟩ => ⟨b, x.sqt h, g.xt x⟩
  | .two _ _ _, _, ⟨b, c, h, g, g2⟩ => ⟨b, c, x.sqt h, g.xt x, g2.xt x⟩
/-- what stands at each of some places -/
inductive Rs {α : Type} (P : Hp → Addr → α → Prop) (H : Hp) : List Addr → List α → Prop
  | nil : Rs P H [] []
  | cons {a : Addr} {x : α} {as : List Addr} {xs : List α} (h : P H a x) (g : Rs P H as xs) : Rs P H (a :: as) (x :: xs)
def XP {α : Type} (P : Hp → Addr → α → Prop) : Prop := ∀ (H H' : Hp) (a : Addr) (x : α), XT H H' → P H a x → P H' a x
section
variable {α : Type} {P : Hp → Addr → α → Prop} {H H' : Hp}
theorem Rs.xt (hp : XP P) (s : XT H H') : ∀ {as : List Addr} {xs : List α}, Rs P H as xs → Rs P H' as xs
  | _, _, .nil => .nil
  | _, _, .cons h g => .cons (hp _ _ _ _ s h) (g.xt hp s)
theorem Rs.len : ∀ {as : List Addr} {xs : List α}, Rs P H as xs → as.length = xs.length
  | _, _, .nil => rfl
  | _, _, .cons _ g => congrArg Nat.succ g.len
theorem Rs.app : ∀ {as bs : List Addr} {xs ys : List α}, Rs P H as xs → Rs P H bs ys → Rs P H (as ++ bs) (xs ++ ys)
  | _, _, _, _, .nil, g => g
  | _, _, _, _, .cons h r, g => .cons h (r.app g)
theorem Rs.get : ∀ {as : List Addr} {xs : List α}, Rs P H as xs → ∀ {i : Nat} {a : Addr}, as[i]? = some a → ∃ x, xs[i]? = some x ∧ P H a x
  | _, _, .nil, i, a, e => by cases e
  | _, _, .cons h g, 0, a, e => ⟨_, rfl, (Option.some.inj e) ▸ h⟩
  | _, _, .cons h g, i + 1, a, e => g.get (i := i) e
theorem Rs.one {a : Addr} {x : α} (h : P H a x) : Rs P H [a] [x] := .cons h .nil
theorem Rs.getx : ∀ {as : List Addr} {xs : List α}, Rs P H as xs → ∀ {i : Nat} {x : α}, xs[i]? = some x → ∃ a, as[i]? = some a ∧ P H a x
  | _, _, .nil, i, a, e => by cases e
  | _, _, .cons h g, 0, a, e => ⟨_, rfl, (Option.some.inj e) ▸ h⟩
  | _, _, .cons h g, i + 1, a, e => g.getx (i := i) e
end
def MkAt (K : PySem.W.Frag) (H : Hp) (r : Addr) (m : Mk2) : Prop := ∃ u, SqT K H r [.ref u, .int (m.2.1 : Int), .int (m.2.2 : Int)] ∧ TmAt K H u m.1
theorem mkAt_xp {K : PySem.W.Frag} : XP (MkAt K) := fun _ _ _ _ s ⟨u, a, b⟩ => ⟨u, s.sqt a, b.xt s⟩
def MksT (K : PySem.W.Frag) (H : Hp) (T : Addr) (ms : List Mk2) : Prop := ∃ rs : List Addr, SqT K H T (rs.map V.ref) ∧ Rs (MkAt K) H rs ms
theorem MksT.xt {K : PySem.W.Frag} {H H' : Hp} {T : Addr} {ms : List Mk2} (s : XT H H') (h : MksT K H T ms) : MksT K H' T ms := let ⟨rs, a, b⟩ := h; ⟨rs, s.sqt a, b.xt mkAt_xp s⟩
def WyAt (K : PySem.W.Frag) (H : Hp) (a : Addr) (w : Wy) : Prop := ∃ s m, SqT K H a [.ref s, .ref m] ∧ SqT K H s (w.1.map V.str) ∧ MksT K H m w.2
theorem wyAt_xp {K : PySem.W.Frag} : XP (WyAt K) := fun _ _ _ _ s ⟨u, m, a, b, c⟩ => ⟨u, m, s.sqt a, s.sqt b, c.xt s⟩
def WysL (K : PySem.W.Frag) (H : Hp) (L : Addr) (ws : List Wy) : Prop := ∃ as : List Addr, H L = some (.lst (as.map V.ref)) ∧ Rs (WyAt K) H as ws
theorem WysL.same {K : PySem.W.Frag} {H H' : Hp} {L : Addr} {ws : List Wy} (s : Same H H') (h : WysL K H L ws) : WysL K H' L ws := let ⟨as, a, b⟩ := h; ⟨as, s _ _ a, b.xt wyAt_xp (.of s)⟩
theorem rg_nums {a b c n : Nat} {c' m : Int} (hc : c' = (c : Int)) (hm : m = ((c + n : Nat) : Int)) : [V.int (a : Int), V.int (b : Int)] ++ rgV c' m = paV (nums a b c n) := by
  subst hc hm
  unfold rgV paV nums
  rw [show (((c + n : Nat) : Int) - (c : Int)).toNat = n by omega, List.map_cons, List.map_cons, List.map_map]
  show _ :: _ :: _ = _ :: _ :: _
  congr 2
  refine List.map_congr_left fun i _ => ?_
  show V.int _ = V.int _
  congr 1
  show (c : Int) + (i : Int) = ((i + c : Nat) : Int)
  omega
theorem pa_at {p : List Nat} {i : Nat} (h : i < p.length) : atI (paV p) (i : Int) = some (.int ((p.getD i 0 : Nat) : Int)) := by
  refine atI_nat ?_
  unfold paV
  rw [List.getElem?_map, List.getElem?_eq_getElem h]
  simp [List.getD, h]
theorem str_atI {ss : List Str} {i : Nat} {z : Str} (h : ss[i]? = some z) : atI (ss.map V.str) (i : Int) = some (.str z) := atI_nat (by rw [List.getElem?_map, h]; rfl)
abbrev NRn : List Str := ["marks", "numbers", "term", "i", "j"]
theorem scRn : FnScope NRn ["marks", "numbers"] (defScope sRenumbered) := ⟨rfl, rfl, rfl, by decide +kernel, rfl, by decide +kernel, by decide +kernel⟩
def spRn (K : PySem.W.Frag) : Sp := fun vs H Q _ => ∃ (m l : Addr) (ms : List Mk2) (ns : List Nat), vs = [.ref m, .ref l] ∧ MksT K H m ms ∧ SqL K H l (paV ns) ∧ (∀ k ∈ ms, k.2.1 < ns.length ∧ k.2.2 < ns.length) ∧ ms.length ≤ 900 ∧ ∀ (T : Addr) (H' : Hp), Same H H' → MksT K H' T (rnm ns ms) → Q (.ref T) H'
abbrev NTw : List Str := ["way", "sorts", "marks", "numbers"]
theorem scTw : FnScope NTw ["way"] (defScope sTurnedWay) := ⟨rfl, rfl, rfl, by decide +kernel, rfl, by decide +kernel, by decide +kernel⟩
/-- the way at a, of two sorts at least, its marks within it -/
structure WyIn (w : Wy) : Prop where
  two : 2 ≤ w.1.length
  lx : w.1.length ≤ 900
  lm : w.2.length ≤ 900
  ins : ∀ k ∈ w.2, k.2.1 < w.1.length ∧ k.2.2 < w.1.length
theorem WyOk.in_ {xs : List Str} {ls : List Lt} {n : Nat} {x y : Str} {w : Wy} (h : WyOk xs ls n x y w) (l : n ≤ 800) : WyIn w := by
  have a := h.ln
  have b := h.mn
  refine ⟨(List.getElem?_eq_some_iff.mp h.y1).1, by omega, by omega, fun k hk => ?_⟩
  obtain ⟨u, v, h1, h2, _⟩ := h.mks k hk
  exact ⟨(List.getElem?_eq_some_iff.mp h1).1, (List.getElem?_eq_some_iff.mp h2).1⟩
theorem WyIn.sh {w : Wy} (h : WyIn w) : ∃ x y r, w.1 = x :: y :: r := by
  have h1 := h.two
  match w.1, h1 with
  | a :: b :: r, _ => exact ⟨a, b, r, rfl⟩
def spTw (K : PySem.W.Frag) : Sp := fun vs H Q _ => ∃ (a : Addr) (w : Wy), vs = [.ref a] ∧ WyAt K H a w ∧ WyIn w ∧ ∀ (T : Addr) (H' : Hp), Same H H' → WyAt K H' T (turnW w) → Q (.ref T) H'
abbrev NWc : List Str := ["one", "other", "count", "numbers"]
theorem scWc : FnScope NWc ["one", "other"] (defScope sWayOfCut) := ⟨rfl, rfl, rfl, by decide +kernel, rfl, by decide +kernel, by decide +kernel⟩
def spW2 (K : PySem.W.Frag) (g : Wy → Wy → Wy) : Sp := fun vs H Q _ => ∃ (a b : Addr) (o p : Wy), vs = [.ref a, .ref b] ∧ WyAt K H a o ∧ WyAt K H b p ∧ WyIn o ∧ WyIn p ∧ o.1.length + p.1.length ≤ 900 ∧ o.2.length + p.2.length ≤ 900 ∧ ∀ (T : Addr) (H' : Hp), Same H H' → WyAt K H' T (g o p) → Q (.ref T) H'
abbrev NWn : List Str := ["one", "other", "sorts", "others", "count", "numbers", "other_numbers", "marks"]
theorem scWn : FnScope NWn ["one", "other"] (defScope sWayOfThen) := ⟨rfl, rfl, rfl, by decide +kernel, rfl, by decide +kernel, by decide +kernel⟩
section
variable {P : Program} {w : World} {K : PySem.W.Frag} {mg : Str → Option Value} {base : Heap} {f : Addr} {fd : FuncData}
theorem mks_cat {H : Hp} {a b : Addr} {ms ns : List Mk2} {Q : VK} (h1 : MksT K H a ms) (h2 : MksT K H b ns) (l : ms.length + ns.length ≤ 1000) (k : ∀ (T : Addr) (H' : Hp), Same H H' → MksT K H' T (ms ++ ns) → Q (.ref T) H') : rCatA K (.ref a) (.ref b) H Q := by
  obtain ⟨rs, e1, g1⟩ := h1
  obtain ⟨qs, e2, g2⟩ := h2
  have l1 := g1.len
  have l2 := g2.len
  exact cat_any e1 e2 (by rw [List.length_map, List.length_map]; omega) fun T H' s hT => k T H' s ⟨rs ++ qs, by rw [List.map_append]; exact hT, (g1.app g2).xt mkAt_xp (.of s)⟩
theorem ok_rn (F : FnP K "_renumbered" sRenumbered f fd) (Y : Fx w K mg) : FnOk P w K mg base CX0 1 f fd ["marks", "numbers"] (spRn K) := by
  refine okD F scRn (fun vs H Q E h => ?_) (fun cdv A outer s H vs Q E hr h => ?_)
  · obtain ⟨m, l, ms, ns, rfl, _⟩ := h
    rfl
  · have nd := scRn.nd
    refine ⟨_, pss_one (ps_ret (pe_callTy call_tupA (by rfl) Y.bTuple (by decide +kernel) (pa_cons (pe_lc (own := [("term", 2), ("i", 3), ("j", 4)]) (g := gTup K 3 (gCons (gName 2) (gCons (gName 3) (gCons (gName 4) gNil)))) (tt := tYes)
        (te := tTup (tCons (tVar 2) (tCons (tOp (rIxL K) (tVar 1) (tVar 3)) (tCons (tOp (rIxL K) (tVar 1) (tVar 4)) tNil)))) rfl nd (pi_tup (pv 0)) (blkOk_by (N := NRn) (sc := defScope sRenumbered) (by decide +kernel))
        (fun _ _ _ _ _ => pg_tup rfl (pgs_cons (pg_name (i := 2) nd rfl (Or.inl rfl)) (pgs_cons (pg_name (i := 3) nd rfl (Or.inl rfl)) (pgs_cons (pg_name (i := 4) nd rfl (Or.inl rfl)) pgs_nil)))) (fun _ _ _ _ _ => pts_nil)
        (fun _ _ _ _ _ => pe_tup (pa_cons (pv 2) (pa_cons (pe_ix ix_list (pv 1) (pv 3) (fun _ _ => rfl)) (pa_cons (pe_ix ix_list (pv 1) (pv 4) (fun _ _ => rfl)) pa_nil))))) pa_nil))), ?_⟩
    obtain ⟨m, l, ms, ns, rfl, ⟨rs, hm, hR⟩, hl, hb, lm, k⟩ := h
    have lr := hR.len
    refine ⟨_, rfl, m, rfl, ⟨_, hm⟩, fun D hD => ?_⟩
    refine lc_tup (K := K) (a := m) (xs := rs.map V.ref) (fun i G => ∃ qs : List Addr, G D = some (.lst (qs.map V.ref)) ∧ Rs (MkAt K) G qs (rnm ns (ms.take i)) ∧ Same H G) ⟨[], upd_same, .nil, same_upd hD⟩ (fun i G _ p => by obtain ⟨_, _, _, p⟩ := p; exact sqt_same p hm) ?_ ?_
    · rintro i v G hi ⟨qs, e, hQ, sm⟩
      obtain ⟨r, er, rfl⟩ := ref_at hi
      obtain ⟨⟨t, a, b⟩, ek, u, h1, h2⟩ := hR.get er
      obtain ⟨b1, b2⟩ := hb _ (List.mem_of_getElem? ek)
      have h1' := sqt_same sm h1
      have hl' := sm.seq hl
      refine ⟨r, _, rfl, h1', rfl, _, _, rfl, _, _, rfl, _, _, rfl, rfl, rfl, _, rfl, ?_⟩
      refine ⟨_, rfl, _, rfl, l, _, _, _, rfl, rfl, hl', pa_at b1, _, rfl, _, rfl, l, _, _, _, rfl, rfl, hl', pa_at b2, szl (by show 3 ≤ 1000; decide), fun T hT => ?_⟩
      have sT := same_upd (o := .tup [V.ref u, V.int ((ns.getD a 0 : Nat) : Int), V.int ((ns.getD b 0 : Nat) : Int)]) hT
      have e2 := sT _ _ e
      have lq := hQ.len
      unfold rnm at lq
      rw [List.length_map, List.length_take] at lq
      refine ⟨_, e2, by rw [List.length_map]; exact small1000 (by omega), qs ++ [T], by rw [upd_same, List.map_append]; rfl, ?_, same_put hD (sm.trans sT)⟩
      rw [List.take_add_one, ek]
      unfold rnm
      rw [List.map_append]
      refine (Rs.app (hQ.xt mkAt_xp (.of sT)) (.one (show MkAt K _ T (t, ns.getD a 0, ns.getD b 0) from ⟨u, SqT.of upd_same, (h2.same sm).same sT⟩))).xt mkAt_xp (.put e2)
    · rintro G ⟨qs, e, hQ, sm⟩
      rw [List.length_map, lr, List.take_length] at hQ
      exact ⟨D, _, rfl, .inl (SqL.of e), fun T H' s' hT => k T H' (sm.trans s') ⟨qs, hT, hQ.xt mkAt_xp (.of s')⟩⟩
end
end K43

namespace K43
open PySem PySem.Spec PyProof.Rows L2 Ow Xv
/-! ### ways turned and put together -/
theorem nums_in {a b c n L : Nat} {ms : List Mk2} (hi : ∀ k ∈ ms, k.2.1 < L ∧ k.2.2 < L) (e : L = n + 2) : ∀ k ∈ ms, k.2.1 < (nums a b c n).length ∧ k.2.2 < (nums a b c n).length := fun k hk => by
  rw [nums_len, ← e]
  exact hi k hk
theorem tup_cat {K : PySem.W.Frag} {H : Hp} {a b : Addr} {xs ys : List Str} {Q : VK} (h1 : SqT K H a (xs.map V.str)) (h2 : SqT K H b (ys.map V.str)) (l : xs.length + ys.length ≤ 1000) (k : ∀ (T : Addr) (H' : Hp), Same H H' → SqT K H' T ((xs ++ ys).map V.str) → Q (.ref T) H') : rCatA K (.ref a) (.ref b) H Q :=
  cat_any h1 h2 (by rw [List.length_map, List.length_map]; exact l) fun T H' s hT => k T H' s (by rw [List.map_append]; exact hT)
section
variable {P : Program} {w : World} {K : PySem.W.Frag} {mg : Str → Option Value} {base : Heap} {f : Addr} {fd : FuncData}
theorem ok_tw (F : FnP K "turned_way" sTurnedWay f fd) (Y : Fx w K mg) : FnOk P w K mg base CX0 2 f fd ["way"] (spTw K) := by
  obtain ⟨d1, F1⟩ := Y.dRenumbered
  have b1 := FunD.bindsN (ps := ["marks", "numbers"]) F1 fun _ _ _ _ _ _ us hl => match us, hl with | [_, _], _ => rfl
  have G1 : FnOk P w K mg base CX0 1 _ d1 ["marks", "numbers"] (spRn K) := ok_rn F1 Y
  refine okD F scTw (fun vs H Q E h => ?_) (fun cdv A outer s H vs Q E hr h => ?_)
  · obtain ⟨a, w, rfl, _⟩ := h
    rfl
  · have nd := scTw.nd
    refine ⟨_, pss_cons (ps_asg (pv 0) (pg_tup rfl (pgs_cons (pg_name (i := 1) nd rfl (Or.inl rfl)) (pgs_cons (pg_name (i := 2) nd rfl (Or.inl rfl)) pgs_nil))))
      (pss_cons (ps_set (i := 3) nd rfl (Or.inl rfl) (pe_op op_cat (pe_lst (pa_cons pe_int (pa_cons pe_int pa_nil))) (pe_listRg (by rfl) (by rfl) Y.bList (prg_2 (by rfl) Y.bRange pe_int (pe_callB call_len_seq (by rfl) Y.bLen PySem.boot_len (pa_cons (pv 1) pa_nil))))))
      (pss_one (ps_ret (pe_tup (pa_cons (pe_op op_catA (pe_tup (pa_cons (pe_ix ix_tup (pv 1) pe_int (fun _ _ => rfl)) (pa_cons (pe_ix ix_tup (pv 1) pe_int (fun _ _ => rfl)) pa_nil))) (pe_slice sl_tupA (pv 1) (po_some pe_int) po_none))
        (pa_cons (pe_call G1 hr (by rfl) Y.gRenumbered F1.kp b1 .nil pass0 (pa_cons (pv 2) (pa_cons (pv 3) pa_nil))) pa_nil)))))), ?_⟩
    obtain ⟨a, w, rfl, ⟨s0, m0, ha, hs, hm⟩, wi, k⟩ := h
    obtain ⟨x, y, r, e⟩ := wi.sh
    have lx := wi.lx
    have hin := wi.ins
    rw [e] at hs lx hin
    rw [List.length_cons, List.length_cons] at lx
    have ew : turnW w = (y :: x :: r, rnm (nums 1 0 2 r.length) w.2) := by unfold turnW; rw [e]; rfl
    rw [ew] at k
    refine ⟨_, rfl, a, _, rfl, ha, rfl, _, _, rfl, _, _, rfl, rfl, ?_⟩
    dsimp only
    refine ⟨szl (by show 2 ≤ 1000; decide), fun l0 hl0 => ?_⟩
    have s1 := same_upd (o := .lst [V.int 1, V.int 0]) hl0
    refine ⟨_, rfl, s0, _, rfl, .inr (sqt_same s1 hs), ?_⟩
    rw [List.length_map, List.length_cons, List.length_cons]
    refine ⟨2, _, rfl, rfl, RgOk.of_le (by decide) (by omega) (by decide) (by omega), fun l1 hl1 => ?_⟩
    have s2 := same_upd (o := .lst (rgV 2 ((r.length + 1 + 1 : Nat) : Int))) hl1
    refine ⟨l0, l1, _, _, rfl, rfl, s2 _ _ upd_same, upd_same, by rw [rgV_length]; show 2 + _ ≤ _; exact szl (by omega), fun l2 hl2 => ?_⟩
    rw [show [V.int 1, V.int 0] ++ rgV 2 ((r.length + 1 + 1 : Nat) : Int) = paV (nums 1 0 2 r.length) from rg_nums rfl (by omega)]
    have s3 := s1.trans (s2.trans (same_upd (o := .lst (paV (nums 1 0 2 r.length))) hl2))
    have e3 : upd (upd (upd H l0 (.lst [V.int 1, V.int 0])) l1 (.lst (rgV 2 ((r.length + 1 + 1 : Nat) : Int)))) l2 (.lst (paV (nums 1 0 2 r.length))) l2 = _ := upd_same
    obtain ⟨G, eG⟩ : ∃ Z, Z = upd (upd (upd H l0 (.lst [V.int 1, V.int 0])) l1 (.lst (rgV 2 ((r.length + 1 + 1 : Nat) : Int)))) l2 (.lst (paV (nums 1 0 2 r.length))) := ⟨_, rfl⟩
    dsimp only [gName]
    change tRet _ _ [some (.ref a), some (.ref s0), some (.ref m0), some (.ref l2)] (upd (upd (upd H l0 (.lst [V.int 1, V.int 0])) l1 (.lst (rgV 2 ((r.length + 1 + 1 : Nat) : Int)))) l2 (.lst (paV (nums 1 0 2 r.length))))
    rw [← eG] at s3 e3 ⊢
    have hs3 := sqt_same s3 hs
    refine ⟨_, rfl, s0, _, 1, _, rfl, rfl, hs3, str_atI (i := 1) rfl, _, rfl, s0, _, 0, _, rfl, rfl, hs3, str_atI (i := 0) rfl, szl (by show 2 ≤ 1000; decide), fun t1 ht1 => ?_⟩
    have s4 := s3.trans (same_upd (o := .tup [V.str y, V.str x]) ht1)
    refine ⟨_, rfl, 2, rfl, slice_from (sqt_same s4 hs) fun t2 G2 s5 h2 => ?_⟩
    rw [show cutV ((x :: y :: r).map V.str) (some 2) none = r.map V.str from cutV_drop _ 2] at h2
    refine tup_cat (xs := [y, x]) (ys := r) (SqT.of (s5 _ _ upd_same)) h2 (by show 2 + _ ≤ _; omega) fun t3 G3 s6 h3 => ?_
    have sA := s4.trans (s5.trans s6)
    refine ⟨_, rfl, _, rfl, m0, l2, w.2, nums 1 0 2 r.length, rfl, hm.xt (.of sA), SqL.of (((same_upd ht1).trans (s5.trans s6)) _ _ e3), nums_in hin rfl, wi.lm, fun t4 G4 s7 h4 => ⟨szl (by show 2 ≤ 1000; decide), fun T hT => ?_⟩⟩
    have s8 := same_upd (o := .tup [V.ref t3, V.ref t4]) hT
    exact k T _ (sA.trans (s7.trans s8)) ⟨t3, t4, SqT.of upd_same, sqt_same (s7.trans s8) h3, h4.xt (.of s8)⟩
theorem ok_wc (F : FnP K "_way_of_cut" sWayOfCut f fd) (Y : Fx w K mg) : FnOk P w K mg base CX0 2 f fd ["one", "other"] (spW2 K cutW) := by
  obtain ⟨d1, F1⟩ := Y.dRenumbered
  have b1 := FunD.bindsN (ps := ["marks", "numbers"]) F1 fun _ _ _ _ _ _ us hl => match us, hl with | [_, _], _ => rfl
  have G1 : FnOk P w K mg base CX0 1 _ d1 ["marks", "numbers"] (spRn K) := ok_rn F1 Y
  refine okD F scWc (fun vs H Q E h => ?_) (fun cdv A outer s H vs Q E hr h => ?_)
  · obtain ⟨a, b, o, p, rfl, _⟩ := h
    rfl
  · have nd := scWc.nd
    refine ⟨_, pss_cons (ps_set (i := 2) nd rfl (Or.inl rfl) (pe_callB call_len_seq (by rfl) Y.bLen PySem.boot_len (pa_cons (pe_ix ix_tup (pv 0) pe_int (fun _ _ => rfl)) pa_nil)))
      (pss_cons (ps_set (i := 3) nd rfl (Or.inl rfl) (pe_op op_cat (pe_lst (pa_cons pe_int (pa_cons pe_int pa_nil))) (pe_listRg (by rfl) (by rfl) Y.bList (prg_2 (by rfl) Y.bRange (pv 2)
          (pe_op op_sub (pe_op op_add (pv 2) (pe_callB call_len_seq (by rfl) Y.bLen PySem.boot_len (pa_cons (pe_ix ix_tup (pv 1) pe_int (fun _ _ => rfl)) pa_nil))) pe_int)))))
      (pss_one (ps_ret (pe_tup (pa_cons (pe_op op_catA (pe_ix ix_tup (pv 0) pe_int (fun _ _ => rfl)) (pe_slice sl_tupA (pe_ix ix_tup (pv 1) pe_int (fun _ _ => rfl)) (po_some pe_int) po_none))
        (pa_cons (pe_op op_catA (pe_ix ix_tup (pv 0) pe_int (fun _ _ => rfl)) (pe_call G1 hr (by rfl) Y.gRenumbered F1.kp b1 .nil pass0 (pa_cons (pe_ix ix_tup (pv 1) pe_int (fun _ _ => rfl)) (pa_cons (pv 3) pa_nil)))) pa_nil)))))), ?_⟩
    obtain ⟨a, b, o, p, rfl, ⟨s0, m0, ha, hs, hm⟩, ⟨s1, m1, hb, ht, hn⟩, wo, wp, ll, lm, k⟩ := h
    obtain ⟨x, y, r, e⟩ := wp.sh
    have hin := wp.ins
    rw [e] at ht hin ll
    rw [List.length_cons, List.length_cons] at ll
    have ew : cutW o p = (o.1 ++ r, o.2 ++ rnm (nums 0 1 o.1.length r.length) p.2) := by unfold cutW; rw [e]; rfl
    rw [ew] at k
    refine ⟨_, rfl, a, _, 0, _, rfl, rfl, ha, rfl, s0, _, rfl, .inr hs, ?_⟩
    rw [List.length_map]
    refine ⟨szl (by show 2 ≤ 1000; decide), fun l0 hl0 => ?_⟩
    have u1 := same_upd (o := .lst [V.int 0, V.int 1]) hl0
    refine ⟨_, rfl, _, rfl, _, rfl, b, _, 0, _, rfl, rfl, sqt_same u1 hb, rfl, s1, _, rfl, .inr (sqt_same u1 ht), ?_⟩
    rw [List.length_map, List.length_cons, List.length_cons]
    refine ⟨_, _, rfl, rfl, _, _, rfl, rfl, _, _, rfl, rfl, RgOk.of_le (by omega) (by omega) (by omega) (by omega), fun l1 hl1 => ?_⟩
    have u2 := same_upd (o := .lst (rgV (o.1.length : Int) ((o.1.length : Int) + ((r.length + 1 + 1 : Nat) : Int) - 2))) hl1
    refine ⟨l0, l1, _, _, rfl, rfl, u2 _ _ upd_same, upd_same, by rw [rgV_length]; show 2 + _ ≤ _; exact szl (by omega), fun l2 hl2 => ?_⟩
    rw [show [V.int 0, V.int 1] ++ rgV (o.1.length : Int) ((o.1.length : Int) + ((r.length + 1 + 1 : Nat) : Int) - 2) = paV (nums 0 1 o.1.length r.length) from rg_nums rfl (by omega)]
    have u3 := u1.trans (u2.trans (same_upd (o := .lst (paV (nums 0 1 o.1.length r.length))) hl2))
    have e3 : upd (upd (upd H l0 (.lst [V.int 0, V.int 1])) l1 (.lst (rgV (o.1.length : Int) ((o.1.length : Int) + ((r.length + 1 + 1 : Nat) : Int) - 2)))) l2 (.lst (paV (nums 0 1 o.1.length r.length))) l2 = _ := upd_same
    obtain ⟨G, eG⟩ : ∃ Z, Z = upd (upd (upd H l0 (.lst [V.int 0, V.int 1])) l1 (.lst (rgV (o.1.length : Int) ((o.1.length : Int) + ((r.length + 1 + 1 : Nat) : Int) - 2)))) l2 (.lst (paV (nums 0 1 o.1.length r.length))) := ⟨_, rfl⟩
    dsimp only [gName]
    change tRet _ _ [some (.ref a), some (.ref b), some (.int (o.1.length : Int)), some (.ref l2)] (upd (upd (upd H l0 (.lst [V.int 0, V.int 1])) l1 (.lst (rgV (o.1.length : Int) ((o.1.length : Int) + ((r.length + 1 + 1 : Nat) : Int) - 2)))) l2 (.lst (paV (nums 0 1 o.1.length r.length))))
    rw [← eG] at u3 e3 ⊢
    refine ⟨_, rfl, a, _, 0, _, rfl, rfl, sqt_same u3 ha, rfl, _, rfl, b, _, 0, _, rfl, rfl, sqt_same u3 hb, rfl, 2, rfl, slice_from (sqt_same u3 ht) fun t2 G2 s5 h2 => ?_⟩
    rw [show cutV ((x :: y :: r).map V.str) (some 2) none = r.map V.str from cutV_drop _ 2] at h2
    refine tup_cat (sqt_same (u3.trans s5) hs) h2 (by omega) fun t3 G3 s6 h3 => ?_
    have sA := u3.trans (s5.trans s6)
    refine ⟨_, rfl, a, _, 1, _, rfl, rfl, sqt_same sA ha, rfl, _, rfl, b, _, 1, _, rfl, rfl, sqt_same sA hb, rfl, _, rfl, m1, l2, p.2, nums 0 1 o.1.length r.length, rfl, hn.xt (.of sA), SqL.of ((s5.trans s6) _ _ e3), nums_in hin rfl, wp.lm, fun t4 G4 s7 h4 => ?_⟩
    refine mks_cat (hm.xt (.of (sA.trans s7))) h4 (by unfold rnm; rw [List.length_map]; omega) fun t5 G5 s8 h5 => ⟨szl (by show 2 ≤ 1000; decide), fun T hT => ?_⟩
    have s9 := same_upd (o := .tup [V.ref t3, V.ref t5]) hT
    exact k T _ (sA.trans (s7.trans (s8.trans s9))) ⟨t3, t5, SqT.of upd_same, sqt_same (s7.trans (s8.trans s9)) h3, h5.xt (.of s9)⟩
theorem ok_wn (F : FnP K "_way_of_then" sWayOfThen f fd) (Y : Fx w K mg) : FnOk P w K mg base CX0 2 f fd ["one", "other"] (spW2 K thenW) := by
  obtain ⟨d1, F1⟩ := Y.dRenumbered
  have b1 := FunD.bindsN (ps := ["marks", "numbers"]) F1 fun _ _ _ _ _ _ us hl => match us, hl with | [_, _], _ => rfl
  have G1 : FnOk P w K mg base CX0 1 _ d1 ["marks", "numbers"] (spRn K) := ok_rn F1 Y
  refine okD F scWn (fun vs H Q E h => ?_) (fun cdv A outer s H vs Q E hr h => ?_)
  · obtain ⟨a, b, o, p, rfl, _⟩ := h
    rfl
  · have nd := scWn.nd
    refine ⟨_, pss_cons (ps_par (i := 2) (j := 3) (by rfl) nd rfl rfl (by decide) rfl rfl (pa_cons (pe_ix ix_tup (pv 0) pe_int (fun _ _ => rfl)) (pa_cons (pe_ix ix_tup (pv 1) pe_int (fun _ _ => rfl)) pa_nil)) (by rfl))
      (pss_cons (ps_set (i := 4) nd rfl (Or.inl rfl) (pe_callB call_len_seq (by rfl) Y.bLen PySem.boot_len (pa_cons (pv 2) pa_nil)))
      (pss_cons (ps_set (i := 5) nd rfl (Or.inl rfl) (pe_op op_cat (pe_lst (pa_cons pe_int (pa_cons pe_int pa_nil))) (pe_listRg (by rfl) (by rfl) Y.bList (prg_2 (by rfl) Y.bRange pe_int (pe_op op_add (pv 4) pe_int)))))
      (pss_cons (ps_set (i := 6) nd rfl (Or.inl rfl) (pe_op op_cat (pe_lst (pa_cons pe_int (pa_cons pe_int pa_nil))) (pe_listRg (by rfl) (by rfl) Y.bList (prg_2 (by rfl) Y.bRange (pe_op op_add (pv 4) pe_int)
          (pe_op op_sub (pe_op op_add (pv 4) (pe_callB call_len_seq (by rfl) Y.bLen PySem.boot_len (pa_cons (pv 3) pa_nil))) pe_int)))))
      (pss_cons (ps_set (i := 7) nd rfl (Or.inl rfl) (pe_op op_catA (pe_call G1 hr (by rfl) Y.gRenumbered F1.kp b1 .nil pass0 (pa_cons (pe_ix ix_tup (pv 0) pe_int (fun _ _ => rfl)) (pa_cons (pv 5) pa_nil))) (pe_call G1 hr (by rfl) Y.gRenumbered F1.kp b1 .nil pass0 (pa_cons (pe_ix ix_tup (pv 1) pe_int (fun _ _ => rfl)) (pa_cons (pv 6) pa_nil)))))
      (pss_one (ps_ret (pe_tup (pa_cons (pe_op op_catA (pe_op op_catA (pe_tup (pa_cons (pe_ix ix_tup (pv 2) pe_int (fun _ _ => rfl)) (pa_cons (pe_ix ix_tup (pv 3) pe_int (fun _ _ => rfl)) (pa_cons (pe_ix ix_tup (pv 2) pe_int (fun _ _ => rfl)) pa_nil))))
        (pe_slice sl_tupA (pv 2) (po_some pe_int) po_none)) (pe_slice sl_tupA (pv 3) (po_some pe_int) po_none)) (pa_cons (pv 7) pa_nil))))))))), ?_⟩
    obtain ⟨a, b, o, p, rfl, ⟨s0, m0, ha, hs, hm⟩, ⟨s1, m1, hb, ht, hn⟩, wo, wp, ll, lm, k⟩ := h
    obtain ⟨x, z, r0, e0⟩ := wo.sh
    obtain ⟨z', y, r, e⟩ := wp.sh
    have hin0 := wo.ins
    have hin := wp.ins
    rw [e] at ht hin ll
    rw [e0] at hs hin0 ll
    simp only [List.length_cons] at ll
    have ew : thenW o p = (x :: y :: z :: (r0 ++ r), rnm (nums 0 2 3 r0.length) o.2 ++ rnm (nums 2 1 (r0.length + 3) r.length) p.2) := by unfold thenW; rw [e, e0]; rfl
    rw [ew] at k
    refine ⟨_, rfl, a, _, 0, _, rfl, rfl, ha, rfl, _, rfl, b, _, 0, _, rfl, rfl, hb, rfl, _, _, rfl, ?_⟩
    refine ⟨_, rfl, s0, _, rfl, .inr hs, ?_⟩
    rw [List.length_map, List.length_cons, List.length_cons]
    dsimp only [gName]
    refine ⟨szl (by show 2 ≤ 1000; decide), fun l0 hl0 => ?_⟩
    have u1 := same_upd (o := .lst [V.int 0, V.int 2]) hl0
    refine ⟨_, rfl, _, _, rfl, rfl, _, _, rfl, rfl, RgOk.of_le (by omega) (by omega) (by omega) (by omega), fun l1 hl1 => ?_⟩
    have u2 := same_upd (o := .lst (rgV 3 (((r0.length + 1 + 1 : Nat) : Int) + 1))) hl1
    refine ⟨l0, l1, _, _, rfl, rfl, u2 _ _ upd_same, upd_same, by rw [rgV_length]; show 2 + _ ≤ _; exact szl (by omega), fun l2 hl2 => ?_⟩
    rw [show [V.int 0, V.int 2] ++ rgV 3 (((r0.length + 1 + 1 : Nat) : Int) + 1) = paV (nums 0 2 3 r0.length) from rg_nums rfl (by omega)]
    have u3 := u1.trans (u2.trans (same_upd (o := .lst (paV (nums 0 2 3 r0.length))) hl2))
    have e3 : upd (upd (upd H l0 (.lst [V.int 0, V.int 2])) l1 (.lst (rgV 3 (((r0.length + 1 + 1 : Nat) : Int) + 1)))) l2 (.lst (paV (nums 0 2 3 r0.length))) l2 = _ := upd_same
    obtain ⟨G, eG⟩ : ∃ Z, Z = upd (upd (upd H l0 (.lst [V.int 0, V.int 2])) l1 (.lst (rgV 3 (((r0.length + 1 + 1 : Nat) : Int) + 1)))) l2 (.lst (paV (nums 0 2 3 r0.length))) := ⟨_, rfl⟩
    change tSeq _ _ _ [some (.ref a), some (.ref b), some (.ref s0), some (.ref s1), some (.int ((r0.length + 1 + 1 : Nat) : Int)), some (.ref l2), none, none] (upd (upd (upd H l0 (.lst [V.int 0, V.int 2])) l1 (.lst (rgV 3 (((r0.length + 1 + 1 : Nat) : Int) + 1)))) l2 (.lst (paV (nums 0 2 3 r0.length))))
    rw [← eG] at u3 e3 ⊢
    clear eG u1 u2 hl2 hl1 hl0
    refine ⟨szl (by show 2 ≤ 1000; decide), fun q0 hq0 => ?_⟩
    have v1 := same_upd (o := .lst [V.int 2, V.int 1]) hq0
    refine ⟨_, rfl, _, _, rfl, rfl, _, rfl, _, rfl, s1, _, rfl, .inr (sqt_same (u3.trans v1) ht), ?_⟩
    rw [List.length_map, List.length_cons, List.length_cons]
    refine ⟨_, _, rfl, rfl, _, _, rfl, rfl, _, _, rfl, rfl, RgOk.of_le (by omega) (by omega) (by omega) (by omega), fun q1 hq1 => ?_⟩
    have v2 := same_upd (o := .lst (rgV (((r0.length + 1 + 1 : Nat) : Int) + 1) (((r0.length + 1 + 1 : Nat) : Int) + ((r.length + 1 + 1 : Nat) : Int) - 1))) hq1
    refine ⟨q0, q1, _, _, rfl, rfl, v2 _ _ upd_same, upd_same, by rw [rgV_length]; show 2 + _ ≤ _; exact szl (by omega), fun q2 hq2 => ?_⟩
    rw [show [V.int 2, V.int 1] ++ rgV (((r0.length + 1 + 1 : Nat) : Int) + 1) (((r0.length + 1 + 1 : Nat) : Int) + ((r.length + 1 + 1 : Nat) : Int) - 1) = paV (nums 2 1 (r0.length + 3) r.length) from rg_nums (by omega) (by omega)]
    have v3 := v1.trans (v2.trans (same_upd (o := .lst (paV (nums 2 1 (r0.length + 3) r.length))) hq2))
    have f3 : upd (upd (upd G q0 (.lst [V.int 2, V.int 1])) q1 (.lst (rgV (((r0.length + 1 + 1 : Nat) : Int) + 1) (((r0.length + 1 + 1 : Nat) : Int) + ((r.length + 1 + 1 : Nat) : Int) - 1)))) q2 (.lst (paV (nums 2 1 (r0.length + 3) r.length))) q2 = _ := upd_same
    obtain ⟨G', eG⟩ : ∃ Z, Z = upd (upd (upd G q0 (.lst [V.int 2, V.int 1])) q1 (.lst (rgV (((r0.length + 1 + 1 : Nat) : Int) + 1) (((r0.length + 1 + 1 : Nat) : Int) + ((r.length + 1 + 1 : Nat) : Int) - 1)))) q2 (.lst (paV (nums 2 1 (r0.length + 3) r.length))) := ⟨_, rfl⟩
    dsimp only [gName]
    change tSeq _ _ _ [some (.ref a), some (.ref b), some (.ref s0), some (.ref s1), some (.int ((r0.length + 1 + 1 : Nat) : Int)), some (.ref l2), some (.ref q2), none] (upd (upd (upd G q0 (.lst [V.int 2, V.int 1])) q1 (.lst (rgV (((r0.length + 1 + 1 : Nat) : Int) + 1) (((r0.length + 1 + 1 : Nat) : Int) + ((r.length + 1 + 1 : Nat) : Int) - 1)))) q2 (.lst (paV (nums 2 1 (r0.length + 3) r.length))))
    rw [← eG] at v3 f3 ⊢
    have g3 := v3 _ _ e3
    have w3 := u3.trans v3
    clear eG v1 v2 hq2 hq1 hq0 v3 u3 e3
    refine ⟨_, rfl, a, _, 1, _, rfl, rfl, sqt_same w3 ha, rfl, _, rfl, m0, l2, o.2, nums 0 2 3 r0.length, rfl, hm.xt (.of w3), SqL.of g3, nums_in hin0 rfl, wo.lm, fun t1 G1 s5 h1 => ?_⟩
    have w4 := w3.trans s5
    refine ⟨_, rfl, b, _, 1, _, rfl, rfl, sqt_same w4 hb, rfl, _, rfl, m1, q2, p.2, nums 2 1 (r0.length + 3) r.length, rfl, hn.xt (.of w4), SqL.of (s5 _ _ f3), nums_in hin rfl, wp.lm, fun t2 G2 s6 h2 => ?_⟩
    refine mks_cat (h1.xt (.of s6)) h2 (by unfold rnm; rw [List.length_map, List.length_map]; omega) fun t3 G3 s7 h3 => ?_
    have w5 := w4.trans (s6.trans s7)
    have hs5 := sqt_same w5 hs
    have ht5 := sqt_same w5 ht
    refine ⟨_, rfl, s0, _, 0, _, rfl, rfl, hs5, str_atI (i := 0) rfl, _, rfl, s1, _, 1, _, rfl, rfl, ht5, str_atI (i := 1) rfl, _, rfl, s0, _, 1, _, rfl, rfl, hs5, str_atI (i := 1) rfl, szl (by show 3 ≤ 1000; decide), fun t4 ht4 => ?_⟩
    have s8 := same_upd (o := .tup [V.str x, V.str y, V.str z]) ht4
    refine ⟨_, rfl, 2, rfl, slice_from (sqt_same s8 hs5) fun t5 G5 s9 h5 => ?_⟩
    rw [show cutV ((x :: z :: r0).map V.str) (some 2) none = r0.map V.str from cutV_drop _ 2] at h5
    refine tup_cat (xs := [x, y, z]) (ys := r0) (SqT.of (s9 _ _ upd_same)) h5 (by show 3 + _ ≤ _; omega) fun t6 G6 s10 h6 => ?_
    refine ⟨_, rfl, 2, rfl, slice_from (sqt_same (s8.trans (s9.trans s10)) ht5) fun t7 G7 s11 h7 => ?_⟩
    rw [show cutV ((z' :: y :: r).map V.str) (some 2) none = r.map V.str from cutV_drop _ 2] at h7
    refine tup_cat (sqt_same s11 h6) h7 (by rw [List.length_append]; show 3 + r0.length + _ ≤ _; omega) fun t8 G8 s12 h8 => ⟨_, rfl, szl (by show 2 ≤ 1000; decide), fun T hT => ?_⟩
    have s13 := same_upd (o := .tup [V.ref t8, V.ref t3]) hT
    have w6 := s8.trans (s9.trans (s10.trans (s11.trans (s12.trans s13))))
    exact k T _ (w5.trans w6) ⟨t8, t3, SqT.of upd_same, sqt_same s13 h8, h3.xt (.of w6)⟩
end
end K43

namespace K43
open PySem PySem.Spec PyProof.Rows L2
/-! ### two fors in a comprehension -/
theorem lc2_it {J : It} {n : Nat} {G : Hp → Prop} {Y : Nat → Hp → V → Hp → Prop} (w : Walk J n G Y) {g g1 : TG} {tt tt1 : TT} {te : TE} {wi1 : TI} {vs vs1 : List Nat} {σ : L2.St} {H1 : Hp} {D : Addr} {Qd : Hp → Prop} (Pv : Nat → Hp → Prop) (h0 : Pv 0 (upd H1 D (.lst []))) (hG : ∀ i H, i ≤ n → Pv i H → G H)
    (hs : ∀ i x H H', i < n → Pv i H → Y i H x H' → g x (wipe σ vs) H' fun σ2 H2 => wipe σ2 vs = wipe σ vs ∧ tt σ2 H2 fun b H3 =>
      if b = true then wi1 σ2 H3 fun J1 H4 => ∃ W1 : Nat → Nat → Hp → Prop, (∃ m, W1 0 m H4) ∧ ∀ j k H, W1 j k H →
        (J1.stop j H ∧ Pv (i + 1) H) ∨ (J1.go j H ∧ ∃ Nx1 : Hp → Prop, (∀ H', Nx1 H' → ∃ k', k' < k ∧ W1 (j + 1) k' H') ∧ ∀ x H', J1.yld j H x H' → g1 x (wipe σ2 vs1) H' fun σ3 H5 => wipe σ3 vs1 = wipe σ2 vs1 ∧ tt1 σ3 H5 fun b H6 =>
          if b = true then te σ3 H6 fun y H7 => ∃ acc, H7 D = some (.lst acc) ∧ acc.length < sizeLine ∧ Nx1 (upd H7 D (.lst (acc ++ [y]))) else Nx1 H6)
      else Pv (i + 1) H3) (hd : ∀ H, Pv n H → Qd H) :
    ∃ W : Nat → Nat → Hp → Prop, (∃ m, W 0 m (upd H1 D (.lst []))) ∧ ∀ i m H, W i m H →
  (J.stop i H ∧ Qd H) ∨ (J.go i H ∧ ∃ Nx : Hp → Prop, (∀ H', Nx H' → ∃ m', m' < m ∧ W (i + 1) m' H') ∧ ∀ x H', J.yld i H x H' → g x (wipe σ vs) H' fun σ2 H2 => wipe σ2 vs = wipe σ vs ∧ tt σ2 H2 fun b H3 =>
    if b = true then wi1 σ2 H3 fun J1 H4 => ∃ W1 : Nat → Nat → Hp → Prop, (∃ m, W1 0 m H4) ∧ ∀ j k H, W1 j k H →
      (J1.stop j H ∧ Nx H) ∨ (J1.go j H ∧ ∃ Nx1 : Hp → Prop, (∀ H', Nx1 H' → ∃ k', k' < k ∧ W1 (j + 1) k' H') ∧ ∀ x H', J1.yld j H x H' → g1 x (wipe σ2 vs1) H' fun σ3 H5 => wipe σ3 vs1 = wipe σ2 vs1 ∧ tt1 σ3 H5 fun b H6 =>
        if b = true then te σ3 H6 fun y H7 => ∃ acc, H7 D = some (.lst acc) ∧ acc.length < sizeLine ∧ Nx1 (upd H7 D (.lst (acc ++ [y]))) else Nx1 H6)
    else Nx H3) := by
  refine ⟨fun i m H => m = n - i ∧ i ≤ n ∧ Pv i H, ⟨n, rfl, Nat.zero_le _, h0⟩, ?_⟩
  rintro i m H ⟨rfl, le, p⟩
  have q := hG i H le p
  by_cases lt : i < n
  · exact .inr ⟨w.goes i H lt q, Pv (i + 1), fun H' p' => ⟨n - (i + 1), by omega, rfl, lt, p'⟩, fun x H' y => hs i x H H' lt p (w.yields i H x H' lt q y)⟩
  · have e : i = n := by omega
    subst e
    exact .inl ⟨w.stops H q, hd H p⟩
theorem in_it {J : It} {n : Nat} {G : Hp → Prop} {Y : Nat → Hp → V → Hp → Prop} (w : Walk J n G Y) {g1 : TG} {tt1 : TT} {te : TE} {vs1 : List Nat} {σ2 : L2.St} {H4 : Hp} {D : Addr} {Qd : Hp → Prop} (Pv : Nat → Hp → Prop) (h0 : Pv 0 H4) (hG : ∀ i H, i ≤ n → Pv i H → G H)
    (hs : ∀ j x H H', j < n → Pv j H → Y j H x H' → g1 x (wipe σ2 vs1) H' fun σ3 H5 => wipe σ3 vs1 = wipe σ2 vs1 ∧ tt1 σ3 H5 fun b H6 =>
      if b = true then te σ3 H6 fun y H7 => ∃ acc, H7 D = some (.lst acc) ∧ acc.length < sizeLine ∧ Pv (j + 1) (upd H7 D (.lst (acc ++ [y]))) else Pv (j + 1) H6) (hd : ∀ H, Pv n H → Qd H) :
    ∃ W1 : Nat → Nat → Hp → Prop, (∃ m, W1 0 m H4) ∧ ∀ j k H, W1 j k H →
      (J.stop j H ∧ Qd H) ∨ (J.go j H ∧ ∃ Nx1 : Hp → Prop, (∀ H', Nx1 H' → ∃ k', k' < k ∧ W1 (j + 1) k' H') ∧ ∀ x H', J.yld j H x H' → g1 x (wipe σ2 vs1) H' fun σ3 H5 => wipe σ3 vs1 = wipe σ2 vs1 ∧ tt1 σ3 H5 fun b H6 =>
        if b = true then te σ3 H6 fun y H7 => ∃ acc, H7 D = some (.lst acc) ∧ acc.length < sizeLine ∧ Nx1 (upd H7 D (.lst (acc ++ [y]))) else Nx1 H6) := by
  refine ⟨fun i m H => m = n - i ∧ i ≤ n ∧ Pv i H, ⟨n, rfl, Nat.zero_le _, h0⟩, ?_⟩
  rintro i m H ⟨rfl, le, p⟩
  have q := hG i H le p
  by_cases lt : i < n
  · exact .inr ⟨w.goes i H lt q, Pv (i + 1), fun H' p' => ⟨n - (i + 1), by omega, rfl, lt, p'⟩, fun x H' y => hs i x H H' lt p (w.yields i H x H' lt q y)⟩
  · have e : i = n := by omega
    subst e
    exact .inl ⟨w.stops H q, hd H p⟩
end K43

namespace K43
open PySem PySem.Spec PyProof.Rows L2 Ow Xv
/-! ### the ways of a term -/
theorem fl_dat {xs ns : List Str} : ∀ {t : Tm}, Fmd xs ns t → fl xs ns (dat t) = none
  | .leaf w ss, h => by
    obtain ⟨a, b⟩ := form_dat h
    rw [fl_eq, if_pos a, b]
    rfl
  | .one w t, h => by
    obtain ⟨a, b⟩ := form_dat h
    rw [fl_eq, if_pos a, b]
    show flK _ 0 [dat t] = none
    unfold flK
    rw [fl_dat h.2]
    rfl
  | .two w s t, h => by
    obtain ⟨a, b⟩ := form_dat h
    rw [fl_eq, if_pos a, b]
    show flK _ 0 [dat s, dat t] = none
    unfold flK
    rw [fl_dat h.2.1]
    dsimp only
    unfold flK
    rw [fl_dat h.2.2]
    rfl
theorem strs_inj : ∀ {xs ys : List Str}, xs.map PyData.str = ys.map PyData.str → xs = ys
  | [], [], _ => rfl
  | [], _ :: _, h => by cases h
  | _ :: _, [], h => by cases h
  | x :: xs, y :: ys, h => by
    injection h with h1 h2
    injection h1 with h1
    rw [h1, strs_inj h2]
theorem dat_tup (t : Tm) : ∃ ds, dat t = .tuple ds := by cases t <;> exact ⟨_, rfl⟩
theorem dat_inj : ∀ {t u : Tm}, dat t = dat u → t = u
  | .leaf w ss, .leaf w' ss', h => by
    injection h with h
    injection h with h1 h2
    injection h1 with h1
    rw [h1, strs_inj h2]
  | .leaf w ss, .one w' u, h => by
    exfalso
    injection h with h
    injection h with h1 h2
    obtain ⟨ds, e⟩ := dat_tup u
    rw [e] at h2
    cases ss with
    | nil => cases h2
    | cons x ss => injection h2 with h3; cases h3
  | .leaf w ss, .two w' s u, h => by
    exfalso
    injection h with h
    injection h with h1 h2
    obtain ⟨ds, e⟩ := dat_tup s
    rw [e] at h2
    cases ss with
    | nil => cases h2
    | cons x ss => injection h2 with h3; cases h3
  | .one w' u, .leaf w ss, h => by
    exfalso
    injection h with h
    injection h with h1 h2
    obtain ⟨ds, e⟩ := dat_tup u
    rw [e] at h2
    cases ss with
    | nil => cases h2
    | cons x ss => injection h2 with h3; cases h3
  | .two w' s u, .leaf w ss, h => by
    exfalso
    injection h with h
    injection h with h1 h2
    obtain ⟨ds, e⟩ := dat_tup s
    rw [e] at h2
    cases ss with
    | nil => cases h2
    | cons x ss => injection h2 with h3; cases h3
  | .one w t, .one w' u, h => by
    injection h with h
    injection h with h1 h2
    injection h1 with h1
    injection h2 with h2
    rw [h1, dat_inj h2]
  | .one w t, .two w' s u, h => by
    injection h with h
    injection h with h1 h2
    injection h2 with h2 h3
    cases h3
  | .two w' s u, .one w t, h => by
    injection h with h
    injection h with h1 h2
    injection h2 with h2 h3
    cases h3
  | .two w s t, .two w' s' t', h => by
    injection h with h
    injection h with h1 h2
    injection h1 with h1
    injection h2 with h2 h3
    injection h3 with h3
    rw [h1, dat_inj h2, dat_inj h3]
theorem ef_right {K : PySem.W.Frag} {H : Hp} {x a : Addr} {xs : List Str} {ls : List Lt} {t : Tm} {ex ey : Str} {Q : VK} {E : XK} (hF : FrmA K H x xs ls) (ok : FrOk xs ls) (ha : TmAt K H a t) (hty : Ty xs ls t ex ey) (l : t.sz ≤ 300) (k : ∀ (T : Addr) (H' : Hp), Same H H' → SqT K H' T (prV (eL ls t)) → Q (.ref T) H') : spEF K [.ref x, .ref a] H Q E := by
  have fm := Ty.fm0 hty
  obtain ⟨_, eb⟩ := Ty.eL (fun q hq => find_nd ok.nl.nd hq) hty
  refine ⟨x, .ref a, dat t, xs, ls, rfl, hF, ok, tm_va ha, by rw [pre_dat [] fm]; omega, fun p hp => ?_, fun t' et fm' => ⟨fun p hp => ?_, fun hb T H' s hT => ?_⟩⟩
  · rw [fl_dat fm] at hp; cases hp
  · rw [← dat_inj et, eb] at hp; cases hp
  · obtain rfl := dat_inj et
    exact k T H' s hT
theorem sz_kid0 {t k : Tm} {i : Nat} (h : t.kids[i]? = some k) : k.sz < t.sz := by
  cases t with
  | leaf w ss => cases h
  | one w t =>
    match i, h with
    | 0, h =>
      obtain rfl : t = k := by simpa [Tm.kids] using h
      simp only [Tm.sz]; omega
  | two w s t =>
    match i, h with
    | 0, h =>
      obtain rfl : s = k := by simpa [Tm.kids] using h
      simp only [Tm.sz]; omega
    | 1, h =>
      obtain rfl : t = k := by simpa [Tm.kids] using h
      simp only [Tm.sz]; omega
theorem cnt_pos : ∀ t : Tm, 1 ≤ cnt t
  | .leaf w ss => Nat.le_refl 1
  | .one w t => by
    have := cnt_pos t
    unfold cnt
    split <;> omega
  | .two w s t => by
    have h1 := cnt_pos s
    have h2 := cnt_pos t
    unfold cnt
    split
    · exact Nat.le_refl 1
    · split
      · omega
      · exact Nat.mul_le_mul h1 h2
theorem cnt_kids {w : Str} {s t : Tm} (f : ¬ fB (.two w s t) = true) : cnt s ≤ cnt (.two w s t) ∧ cnt t ≤ cnt (.two w s t) := by
  have h1 := cnt_pos s
  have h2 := cnt_pos t
  rw [show cnt (.two w s t) = if w = "joined" then cnt s + cnt t else cnt s * cnt t by rw [cnt, if_neg f]]
  split
  · omega
  · exact ⟨Nat.le_mul_of_pos_right _ h2, Nat.le_mul_of_pos_left _ h1⟩
theorem Rs.imp {α : Type} {P P' : Hp → Addr → α → Prop} {H H' : Hp} (f : ∀ a x, P H a x → P' H' a x) : ∀ {as : List Addr} {xs : List α}, Rs P H as xs → Rs P' H' as xs
  | _, _, .nil => .nil
  | _, _, .cons h g => .cons (f _ _ h) (g.imp f)
def WysP (K : PySem.W.Frag) (ls : List Lt) (D : Addr) (H : Hp) (L : Addr) (k : Tm) : Prop := L ≠ D ∧ WysL K H L (wys ls k)
abbrev NWs : List Str := ["frame", "term", "word", "found", "part", "way", "one", "other"]
theorem scWs : FnScope NWs ["frame", "term"] (defScope sUWays) := ⟨rfl, rfl, rfl, by decide +kernel, rfl, by decide +kernel, by decide +kernel⟩
def spWs (K : PySem.W.Frag) (N : Nat) : Sp := fun vs H Q _ => ∃ (x a : Addr) (xs : List Str) (ls : List Lt) (t : Tm) (ex ey : Str), vs = [.ref x, .ref a] ∧ FrmA K H x xs ls ∧ FrOk xs ls ∧ TmAt K H a t ∧ Ty xs ls t ex ey ∧ Short t ∧ t.sz ≤ N ∧ t.sz ≤ 50 ∧ cnt t ≤ 100 ∧ ∀ (L : Addr) (H' : Hp), Same H H' → H L = none → WysL K H' L (wys ls t) → Q (.ref L) H'
section
variable {P : Program} {w : World} {K : PySem.W.Frag} {mg : Str → Option Value} {base : Heap} {f : Addr} {fd : FuncData}
theorem ws_step {N k : Nat} (F : FnP K "_ways" sUWays (He.ga K "_ways") fd) (Y : Fx w K mg) (G0 : FnOk P w K mg base CX0 k (He.ga K "_ways") fd ["frame", "term"] (spWs K N)) (hk : 6 ≤ k) :
    FnOk P w K mg base CX0 (k + 1) (He.ga K "_ways") fd ["frame", "term"] (spWs K (N + 1)) := by
  have b0 := FunD.bindsN (ps := ["frame", "term"]) F fun _ _ _ _ _ _ us hl => match us, hl with | [_, _], _ => rfl
  obtain ⟨dF, FF⟩ := Y.dIsFlat
  obtain ⟨dE, FE⟩ := Y.dEndsOf
  obtain ⟨dP, FP⟩ := Y.dPartsBelow
  obtain ⟨dT, FT⟩ := Y.dTurnedWay
  obtain ⟨dC, FC⟩ := Y.dWayOfCut
  obtain ⟨dN, FN⟩ := Y.dWayOfThen
  have bF := FunD.bindsN (ps := ["term"]) FF fun _ _ _ _ _ _ us hl => match us, hl with | [_], _ => rfl
  have bE := FunD.bindsN (ps := ["frame", "term"]) FE fun _ _ _ _ _ _ us hl => match us, hl with | [_, _], _ => rfl
  have bP := FunD.bindsN (ps := ["term"]) FP fun _ _ _ _ _ _ us hl => match us, hl with | [_], _ => rfl
  have bT := FunD.bindsN (ps := ["way"]) FT fun _ _ _ _ _ _ us hl => match us, hl with | [_], _ => rfl
  have bC := FunD.bindsN (ps := ["one", "other"]) FC fun _ _ _ _ _ _ us hl => match us, hl with | [_, _], _ => rfl
  have bN := FunD.bindsN (ps := ["one", "other"]) FN fun _ _ _ _ _ _ us hl => match us, hl with | [_, _], _ => rfl
  have GF : FnOk P w K mg base CX0 6 _ dF ["term"] (spBo K (noneOf NF)) := ok_if FF Y
  have GE : FnOk P w K mg base (L2.CX P w) 6 _ dE ["frame", "term"] (spEF K) := ok_ef FE Y
  have GP : FnOk P w K mg base CX0 1 _ dP ["term"] (spPB K) := ok_pb FP Y
  have GT : FnOk P w K mg base CX0 2 _ dT ["way"] (spTw K) := ok_tw FT Y
  have GC : FnOk P w K mg base CX0 2 _ dC ["one", "other"] (spW2 K cutW) := ok_wc FC Y
  have GN : FnOk P w K mg base CX0 2 _ dN ["one", "other"] (spW2 K thenW) := ok_wn FN Y
  refine okD F scWs (fun vs H Q E h => ?_) (fun cdv A outer s H vs Q E hr h => ?_)
  · obtain ⟨x, a, xs, ls, t, ex, ey, rfl, _⟩ := h
    rfl
  · have nd := scWs.nd
    have hr6 : Room 6 _ := hr.mono hk
    have hr2 : Room 2 _ := hr.mono (by omega)
    have hr1 : Room 1 _ := hr.mono (by omega)
    refine ⟨_, pss_cons (ps_if (pt_val (pe_call GF hr6 (by rfl) Y.gIsFlat FF.kp bF .nil pass0 (pa_cons (pv 1) pa_nil)))
        (pss_one (ps_ret (pe_lst (pa_cons (pe_tup (pa_cons (pe_call GE hr6 (by rfl) Y.gEndsOf FE.kp bE .nil passX (pa_cons (pv 0) (pa_cons (pv 1) pa_nil))) (pa_cons (pe_tup (pa_cons (pe_tup (pa_cons (pv 1) (pa_cons pe_int (pa_cons pe_int pa_nil)))) pa_nil)) pa_nil))) pa_nil)))) pss_nil)
      (pss_cons (ps_set (i := 2) nd rfl (Or.inl rfl) (pe_ix ix_tup (pv 1) pe_int (fun _ _ => rfl)))
      (pss_cons (ps_set (i := 3) nd rfl (Or.inr rfl) (pe_lc (own := [("part", 4)]) (g := gName 4) (tt := tYes) (te := tCall (spWs K N) [] E0 (tCons (tVar 0) (tCons (tVar 4) tNil))) rfl nd (pi_tup (pe_call GP hr1 (by rfl) Y.gPartsBelow FP.kp bP .nil pass0 (pa_cons (pv 1) pa_nil))) (blkOk_by (N := NWs) (sc := defScope sUWays) (by decide +kernel))
          (fun _ _ _ _ _ => pg_name (i := 4) nd rfl (Or.inl rfl)) (fun _ _ _ _ _ => pts_nil) (fun _ _ _ _ _ => pe_call G0 hr (by rfl) Y.gUWays F.kp b0 .nil pass0 (pa_cons (pv 0) (pa_cons (pv 4) pa_nil)))))
      (pss_cons (ps_if (pt_cmpR op_eq (pv 2) pe_str (nomark _)) (pss_one (ps_ret (pe_lc (own := [("way", 5)]) (g := gName 5) (tt := tYes) (te := tCall (spTw K) [] E0 (tCons (tVar 5) tNil)) rfl nd (pi_list (pe_ix ix_list (pv 3) pe_int (fun _ _ => rfl))) (blkOk_by (N := NWs) (sc := defScope sUWays) (by decide +kernel))
          (fun _ _ _ _ _ => pg_name (i := 5) nd rfl (Or.inl rfl)) (fun _ _ _ _ _ => pts_nil) (fun _ _ _ _ _ => pe_call GT hr2 (by rfl) Y.gTurnedWay FT.kp bT .nil pass0 (pa_cons (pv 5) pa_nil))))) pss_nil)
      (pss_cons (ps_if (pt_cmpR op_eq (pv 2) pe_str (nomark _)) (pss_one (ps_ret (pe_op op_cat (pe_ix ix_list (pv 3) pe_int (fun _ _ => rfl)) (pe_ix ix_list (pv 3) pe_int (fun _ _ => rfl))))) pss_nil)
      (pss_cons (ps_if (pt_cmpR op_eq (pv 2) pe_str (nomark _)) (pss_one (ps_ret (pe_lc2 (own := [("one", 6), ("other", 7)]) (vs1 := [7]) (g := gName 6) (tt := tYes) (tt1 := tYes) (g1 := gName 7) (te := tCall (spW2 K cutW) [] E0 (tCons (tVar 6) (tCons (tVar 7) tNil)))
          (wi1 := iList K (tOp (rIxL K) (tVar 3) (tC (.int 1)))) rfl nd (pi_list (pe_ix ix_list (pv 3) pe_int (fun _ _ => rfl))) (blkOk_by (N := NWs) (sc := defScope sUWays) (by decide +kernel)) (by decide)
          (fun _ _ _ _ _ => pg_name (i := 6) nd rfl (Or.inl rfl)) (fun _ _ _ _ _ => pts_nil) (fun _ _ _ _ _ => pi_list (pe_ix ix_list (pv 3) pe_int (fun _ _ => rfl)))
          (fun _ _ _ _ _ => pg_name (i := 7) nd rfl (Or.inl rfl)) (fun _ _ _ _ _ => pts_nil) (fun _ _ _ _ _ => pe_call GC hr2 (by rfl) Y.gWayOfCut FC.kp bC .nil pass0 (pa_cons (pv 6) (pa_cons (pv 7) pa_nil)))))) pss_nil)
      (pss_one (ps_ret (pe_lc2 (own := [("one", 6), ("other", 7)]) (vs1 := [7]) (g := gName 6) (tt := tYes) (tt1 := tYes) (g1 := gName 7) (te := tCall (spW2 K thenW) [] E0 (tCons (tVar 6) (tCons (tVar 7) tNil)))
          (wi1 := iList K (tOp (rIxL K) (tVar 3) (tC (.int 1)))) rfl nd (pi_list (pe_ix ix_list (pv 3) pe_int (fun _ _ => rfl))) (blkOk_by (N := NWs) (sc := defScope sUWays) (by decide +kernel)) (by decide)
          (fun _ _ _ _ _ => pg_name (i := 6) nd rfl (Or.inl rfl)) (fun _ _ _ _ _ => pts_nil) (fun _ _ _ _ _ => pi_list (pe_ix ix_list (pv 3) pe_int (fun _ _ => rfl)))
          (fun _ _ _ _ _ => pg_name (i := 7) nd rfl (Or.inl rfl)) (fun _ _ _ _ _ => pts_nil) (fun _ _ _ _ _ => pe_call GN hr2 (by rfl) Y.gWayOfThen FN.kp bN .nil pass0 (pa_cons (pv 6) (pa_cons (pv 7) pa_nil))))))))))), ?_⟩
    obtain ⟨x, a, xs, ls, tt, ex, ey, rfl, hF, ok, ha, hty, hsh, zN, z6, c1, k⟩ := h
    have rt := Ty.rt ok hty
    obtain ⟨us0, hv, _⟩ := ha.view
    refine ⟨_, rfl, a, tt, rfl, ha, rt, by omega, fun H1 s1 => ⟨_, rfl, ?_⟩⟩
    rw [none_fB rt]
    refine ite2 (fun hf => ?_) (fun hf => ?_)
    · refine ⟨_, rfl, _, rfl, ?_⟩
      dsimp only [tNil, List.append_nil]
      refine ef_right (hF.same s1) ok (ha.same s1) hty (by omega) fun T H2 s2 hT => ?_
      refine ⟨_, rfl, szl (by show 3 ≤ 1000; decide), fun m0 hm0 => ⟨szl (by show 1 ≤ 1000; decide), fun m1 hm1 => ⟨szl (by show 2 ≤ 1000; decide), fun wy hwy => ⟨szl (by show 1 ≤ 1000; decide), fun L hL => ?_⟩⟩⟩⟩
      have q0 := same_upd (o := .tup [V.ref a, V.int 0, V.int 1]) hm0
      have q1 := same_upd (o := .tup [V.ref m0]) hm1
      have q2 := same_upd (o := .tup [V.ref T, V.ref m1]) hwy
      have q3 := same_upd (o := .lst [V.ref wy]) hL
      have sA := s1.trans (s2.trans (q0.trans (q1.trans q2)))
      refine k L _ (sA.trans q3) (none_of sA hL) ⟨[wy], upd_same, ?_⟩
      rw [flat_wys hf]
      refine .one ⟨T, m1, sqt_same q3 (SqT.of upd_same), sqt_same (q0.trans (q1.trans (q2.trans q3))) hT, [m0], sqt_same (q2.trans q3) (SqT.of upd_same), .one ⟨a, sqt_same (q1.trans (q2.trans q3)) (SqT.of upd_same), ha.same (sA.trans q3)⟩⟩
    refine ⟨_, rfl, a, _, 0, _, rfl, rfl, sqt_same s1 hv, atI_0 _ _, ?_⟩
    refine ⟨_, rfl, a, tt, rfl, ha.same s1, rt, fun p us H2 s2 ep hus => ⟨p, rfl, ⟨_, SqT.of ep⟩, fun F0 hF0 => ?_⟩⟩
    have s12 := s1.trans s2
    have kz : ∀ kd ∈ tt.kids, ∃ kx ky, Ty xs ls kd kx ky ∧ Short kd ∧ kd.sz ≤ N ∧ cnt kd ≤ 100 := by
      intro kd hkd
      cases hsh with
      | leaf => exact absurd rfl hf
      | rest fl => exact absurd ((fB_iff _).mpr (show FlT (.one "rest" _) from ⟨.inl rfl, fl⟩)) hf
      | @turned t sh =>
        obtain rfl : kd = t := List.mem_singleton.mp hkd
        cases hty with
        | turned h => exact ⟨_, _, h, sh, by simp only [Tm.sz] at zN; omega, by rw [cnt, if_neg hf] at c1; exact c1⟩
      | @joined s t s1 s2 =>
        obtain ⟨c2, c3⟩ := cnt_kids hf
        cases hty with
        | joined h1 h2 =>
          simp only [Tm.sz] at zN
          rcases List.mem_cons.mp hkd with q | q
          · rw [q]; exact ⟨_, _, h1, s1, by omega, by omega⟩
          · rw [List.mem_singleton.mp q]; exact ⟨_, _, h2, s2, by omega, by omega⟩
      | @cut s t s1 s2 =>
        obtain ⟨c2, c3⟩ := cnt_kids hf
        cases hty with
        | cut h1 h2 =>
          simp only [Tm.sz] at zN
          rcases List.mem_cons.mp hkd with q | q
          · rw [q]; exact ⟨_, _, h1, s1, by omega, by omega⟩
          · rw [List.mem_singleton.mp q]; exact ⟨_, _, h2, s2, by omega, by omega⟩
      | @then_ s t s1 s2 =>
        obtain ⟨c2, c3⟩ := cnt_kids hf
        cases hty with
        | then_ h1 h2 =>
          simp only [Tm.sz] at zN
          rcases List.mem_cons.mp hkd with q | q
          · rw [q]; exact ⟨_, _, h1, s1, by omega, by omega⟩
          · rw [List.mem_singleton.mp q]; exact ⟨_, _, h2, s2, by omega, by omega⟩
    have lk := hus.len
    have k2 : tt.kids.length ≤ 2 := by have := rt.pos.2.1; omega
    have d0 := same_upd (o := .lst []) hF0
    refine lc_tup (K := K) (a := p) (xs := us.map V.ref) (fun i G => ∃ qs : List Addr, G F0 = some (.lst (qs.map V.ref)) ∧ Rs (WysP K ls F0) G qs (tt.kids.take i) ∧ Same H2 G) ⟨[], upd_same, .nil, d0⟩ (fun i G _ q => by obtain ⟨_, _, _, q⟩ := q; exact sqt_same q (SqT.of ep)) ?_ ?_
    · rintro i v G hi ⟨qs, eq, hQ, sm⟩
      obtain ⟨r, er, rfl⟩ := ref_at hi
      obtain ⟨kd, ek, hkd⟩ := hus.get er
      obtain ⟨kx, ky, a1, a2, a3, a4⟩ := kz kd (List.mem_of_getElem? ek)
      have li := (List.getElem?_eq_some_iff.mp ek).1
      refine ⟨rfl, _, rfl, _, rfl, x, r, xs, ls, kd, kx, ky, rfl, (hF.same s12).same sm, ok, hkd.same sm, a1, a2, a3, by have := sz_kid0 ek; omega, a4, fun L G2 s3 hL hW => ?_⟩
      have e3 := s3 _ _ eq
      have nL : L ≠ F0 := fun z => by rw [z, eq] at hL; cases hL
      have lq := hQ.len
      rw [List.length_take] at lq
      refine ⟨_, e3, by rw [List.length_map]; exact small1000 (by omega), qs ++ [L], by rw [upd_same, List.map_append]; rfl, ?_, same_put hF0 (sm.trans s3)⟩
      rw [List.take_add_one, ek]
      have up : ∀ (a : Addr) (x : Tm), WysP K ls F0 G2 a x → WysP K ls F0 (upd G2 F0 (.lst (qs.map V.ref ++ [.ref L]))) a x := fun a x ⟨n, as, h1, h2⟩ => ⟨n, as, (upd_ne n).trans h1, h2.xt wyAt_xp (.put e3)⟩
      exact (Rs.app (hQ.imp fun a x ⟨n, h⟩ => ⟨n, h.same s3⟩) (.one ⟨nL, hW⟩)).imp up
    rintro G3 ⟨qs, eF, hQ, sm3⟩
    rw [List.length_map, lk, List.take_length] at hQ
    have s3 := s12.trans sm3
    dsimp only [gName]
    clear hus ep hF0 d0 kz k2 lk sm3 s12
    cases hsh with
    | leaf => exact absurd rfl hf
    | rest fl => exact absurd ((fB_iff _).mpr (show FlT (.one "rest" _) from ⟨.inl rfl, fl⟩)) hf
    | @turned t sh =>
      rw [show (Tm.one "turned" t).kids = [t] from rfl] at hQ
      cases hQ with
      | @cons L0 _ _ _ h g =>
      cases g
      obtain ⟨_, as0, e0, g0⟩ := h
      rw [show wys ls (.one "turned" t) = (wys ls t).map turnW by rw [wys, if_neg hf]] at k
      rw [cnt, if_neg hf, ← wys_len ls] at c1
      cases hty with
      | turned hty =>
      simp only [Tm.sz] at z6
      have o0 := wys_ok ok sh hty (by omega)
      have l0 := g0.len
      refine ⟨_, rfl, rfl, _, rfl, ?_⟩
      rw [show decide (V.str (Tm.one "turned" t).hd = V.str "turned") = true from (by decide +kernel : decide (V.str ("turned" : Str) = V.str "turned") = true)]
      refine iteT ⟨_, rfl, F0, _, 0, _, rfl, rfl, SqL.of eF, rfl, L0, rfl, ⟨_, SqL.of e0⟩, fun D hD => ?_⟩
      refine lc_list (K := K) (a := L0) (xs := as0.map V.ref) (fun i G => ∃ qs : List Addr, G D = some (.lst (qs.map V.ref)) ∧ Rs (WyAt K) G qs (((wys ls t).take i).map turnW) ∧ Same G3 G) ⟨[], upd_same, .nil, same_upd hD⟩ (fun i G _ q => by obtain ⟨_, _, _, q⟩ := q; exact q.seq (SqL.of e0)) ?_ ?_
      · rintro i v G hi ⟨qs, eq, hQ, sm⟩
        obtain ⟨r, er, rfl⟩ := ref_at hi
        obtain ⟨o, eo, ho⟩ := g0.get er
        have li := (List.getElem?_eq_some_iff.mp eo).1
        refine ⟨rfl, _, rfl, r, o, rfl, wyAt_xp _ _ _ _ (.of sm) ho, (o0 o (List.mem_of_getElem? eo)).in_ (by omega), fun T G5 s5 hT => ?_⟩
        have e5 := s5 _ _ eq
        have lq := hQ.len
        rw [List.length_map, List.length_take] at lq
        refine ⟨_, e5, by rw [List.length_map]; exact small1000 (by omega), qs ++ [T], by rw [upd_same, List.map_append]; rfl, ?_, same_put hD (sm.trans s5)⟩
        rw [List.take_add_one, eo, List.map_append]
        exact (Rs.app (hQ.xt wyAt_xp (.of s5)) (.one hT)).xt wyAt_xp (.put e5)
      · rintro G ⟨qs, eq, hQ, sm⟩
        rw [List.length_map, l0, List.take_length] at hQ
        exact k D G (s3.trans sm) (none_of s3 hD) ⟨qs, eq, hQ⟩
    | @joined s t sh1 sh2 =>
      rw [show (Tm.two "joined" s t).kids = [s, t] from rfl] at hQ
      cases hQ with
      | @cons L0 _ _ _ h g =>
      cases g with
      | @cons L1 _ _ _ h' g' =>
      cases g'
      obtain ⟨_, as0, e0, g0⟩ := h
      obtain ⟨_, as1, e1, g1⟩ := h'
      cases hty with
      | joined ty1 ty2 =>
      simp only [Tm.sz] at z6
      have o0 := wys_ok ok sh1 ty1 (by omega)
      have o1 := wys_ok ok sh2 ty2 (by omega)
      refine ⟨_, rfl, rfl, _, rfl, ?_⟩
      rw [show decide (V.str (Tm.two "joined" s t).hd = V.str "turned") = false from (by decide +kernel : decide (V.str ("joined" : Str) = V.str "turned") = false)]
      refine iteF ⟨_, rfl, rfl, _, rfl, ?_⟩
      rw [show wys ls (.two "joined" s t) = wys ls s ++ wys ls t by rw [wys, if_neg hf, if_pos rfl]] at k
      rw [cnt, if_neg hf, if_pos rfl, ← wys_len ls, ← wys_len ls] at c1
      rw [show decide (V.str (Tm.two "joined" s t).hd = V.str "joined") = true from (by decide +kernel : decide (V.str ("joined" : Str) = V.str "joined") = true)]
      have l0 := g0.len
      have l1 := g1.len
      refine iteT ⟨_, rfl, F0, _, 0, _, rfl, rfl, SqL.of eF, rfl, _, rfl, F0, _, 1, _, rfl, rfl, SqL.of eF, rfl, L0, L1, _, _, rfl, rfl, e0, e1, by rw [List.length_map, List.length_map]; exact szl (by omega), fun D hD => ?_⟩
      have sD := same_upd (o := .lst (as0.map V.ref ++ as1.map V.ref)) hD
      exact k D _ (s3.trans sD) (none_of s3 hD) ⟨as0 ++ as1, by rw [upd_same, List.map_append], (g0.app g1).xt wyAt_xp (.of sD)⟩
    | @cut s t sh1 sh2 =>
      rw [show (Tm.two "cut" s t).kids = [s, t] from rfl] at hQ
      cases hQ with
      | @cons L0 _ _ _ h g =>
      cases g with
      | @cons L1 _ _ _ h' g' =>
      cases g'
      obtain ⟨_, as0, e0, g0⟩ := h
      obtain ⟨_, as1, e1, g1⟩ := h'
      cases hty with
      | cut ty1 ty2 =>
      simp only [Tm.sz] at z6
      have o0 := wys_ok ok sh1 ty1 (by omega)
      have o1 := wys_ok ok sh2 ty2 (by omega)
      refine ⟨_, rfl, rfl, _, rfl, ?_⟩
      rw [show decide (V.str (Tm.two "cut" s t).hd = V.str "turned") = false from (by decide +kernel : decide (V.str ("cut" : Str) = V.str "turned") = false)]
      refine iteF ⟨_, rfl, rfl, _, rfl, ?_⟩
      rw [show wys ls (.two "cut" s t) = (wys ls s).flatMap (fun o => (wys ls t).map (cutW o)) by rw [wys, if_neg hf, if_neg (by decide +kernel), if_pos rfl]] at k
      rw [cnt, if_neg hf, if_neg (by decide +kernel), ← wys_len ls, ← wys_len ls] at c1
      rw [show decide (V.str (Tm.two "cut" s t).hd = V.str "joined") = false from (by decide +kernel : decide (V.str ("cut" : Str) = V.str "joined") = false)]
      refine iteF ⟨_, rfl, rfl, _, rfl, ?_⟩
      rw [show decide (V.str (Tm.two "cut" s t).hd = V.str "cut") = true from (by decide +kernel : decide (V.str ("cut" : Str) = V.str "cut") = true)]
      refine iteT ?_
      · -- cut
        have L1s : SqL K G3 F0 [.ref L0, .ref L1] := SqL.of eF
        refine ⟨_, rfl, F0, _, 0, _, rfl, rfl, L1s, rfl, L0, rfl, ⟨_, SqL.of e0⟩, fun D hD => ?_⟩
        have l0 := g0.len
        have l1 := g1.len
        refine lc2_it (walk_list (K := K) (a := L0) (xs := as0.map V.ref)) (fun i G => ∃ qs : List Addr, G D = some (.lst (qs.map V.ref)) ∧ Rs (WyAt K) G qs (((wys ls s).take i).flatMap fun o => (wys ls t).map (cutW o)) ∧ Same G3 G) ⟨[], upd_same, .nil, same_upd hD⟩ (fun i G _ q => by obtain ⟨_, _, _, q⟩ := q; exact q.seq (SqL.of e0)) ?_ ?_
        · rintro i v G G' hi ⟨qs, eq, hQ, sm⟩ ⟨rfl, hv⟩
          obtain ⟨r, er, rfl⟩ := ref_at hv
          obtain ⟨o, eo, ho⟩ := g0.get er
          have li := (List.getElem?_eq_some_iff.mp eo).1
          have om := List.mem_of_getElem? eo
          have oo := o0 o om
          refine ⟨rfl, _, rfl, F0, _, 1, _, rfl, rfl, SqL.of (sm _ _ eF), rfl, L1, rfl, ⟨_, SqL.of (sm _ _ e1)⟩, ?_⟩
          have fl := fm_const (fun o => (wys ls t).map (cutW o)) (wys ls t).length ((wys ls s).take i) fun x _ => List.length_map _
          rw [List.length_take, Nat.min_eq_left (by omega)] at fl
          have i1 : i * (wys ls t).length + (wys ls t).length ≤ (wys ls s).length * (wys ls t).length := by
            rw [← Nat.succ_mul]
            exact Nat.mul_le_mul_right _ li
          refine in_it (walk_list (K := K) (a := L1) (xs := as1.map V.ref)) (fun j G2 => ∃ qs : List Addr, G2 D = some (.lst (qs.map V.ref)) ∧ Rs (WyAt K) G2 qs ((((wys ls s).take i).flatMap fun o => (wys ls t).map (cutW o)) ++ ((wys ls t).take j).map (cutW o)) ∧ Same G3 G2) ⟨qs, eq, by rw [List.take_zero, List.map_nil, List.append_nil]; exact hQ, sm⟩ (fun j G2 _ q => by obtain ⟨_, _, _, q⟩ := q; exact q.seq (SqL.of e1)) ?_ ?_
          · rintro j v G2 G4 hj ⟨ps, ep, hP, sm2⟩ ⟨rfl, ev⟩
            obtain ⟨r2, er2, rfl⟩ := ref_at ev
            obtain ⟨p, ep2, hp⟩ := g1.get er2
            have lj := (List.getElem?_eq_some_iff.mp ep2).1
            have oo2 := o1 p (List.mem_of_getElem? ep2)
            have x1 := oo.ln
            have x2 := oo.mn
            have x3 := oo2.ln
            have x4 := oo2.mn
            refine ⟨rfl, _, rfl, _, rfl, r, r2, o, p, rfl, wyAt_xp _ _ _ _ (.of sm2) ho, wyAt_xp _ _ _ _ (.of sm2) hp, oo.in_ (by omega), oo2.in_ (by omega), by omega, by omega, fun T G5 s5 hT => ?_⟩
            have lq := hP.len
            rw [List.length_append, fl, List.length_map, List.length_take, Nat.min_eq_left (by omega)] at lq
            have e5 := s5 _ _ ep
            refine ⟨_, e5, by rw [List.length_map]; exact small1000 (by omega), ps ++ [T], by rw [upd_same, List.map_append]; rfl, ?_, same_put hD (sm2.trans s5)⟩
            rw [List.take_add_one, ep2, List.map_append, ← List.append_assoc]
            exact (Rs.app (hP.xt wyAt_xp (.of s5)) (.one hT)).xt wyAt_xp (.put e5)
          · rintro G2 ⟨ps, ep, hP, sm2⟩
            rw [List.length_map, l1, List.take_length] at hP
            exact ⟨ps, ep, by rw [List.take_add_one, eo, List.flatMap_append]; simpa using hP, sm2⟩
        · rintro G ⟨qs, eq, hQ, sm⟩
          rw [List.length_map, l0, List.take_length] at hQ
          exact k D G (s3.trans sm) (none_of s3 hD) ⟨qs, eq, hQ⟩
    | @then_ s t sh1 sh2 =>
      rw [show (Tm.two "then" s t).kids = [s, t] from rfl] at hQ
      cases hQ with
      | @cons L0 _ _ _ h g =>
      cases g with
      | @cons L1 _ _ _ h' g' =>
      cases g'
      obtain ⟨_, as0, e0, g0⟩ := h
      obtain ⟨_, as1, e1, g1⟩ := h'
      cases hty with
      | then_ ty1 ty2 =>
      simp only [Tm.sz] at z6
      have o0 := wys_ok ok sh1 ty1 (by omega)
      have o1 := wys_ok ok sh2 ty2 (by omega)
      refine ⟨_, rfl, rfl, _, rfl, ?_⟩
      rw [show decide (V.str (Tm.two "then" s t).hd = V.str "turned") = false from (by decide +kernel : decide (V.str ("then" : Str) = V.str "turned") = false)]
      refine iteF ⟨_, rfl, rfl, _, rfl, ?_⟩
      rw [show wys ls (.two "then" s t) = (wys ls s).flatMap (fun o => (wys ls t).map (thenW o)) by rw [wys, if_neg hf, if_neg (by decide +kernel), if_neg (by decide +kernel)]] at k
      rw [cnt, if_neg hf, if_neg (by decide +kernel), ← wys_len ls, ← wys_len ls] at c1
      rw [show decide (V.str (Tm.two "then" s t).hd = V.str "joined") = false from (by decide +kernel : decide (V.str ("then" : Str) = V.str "joined") = false)]
      refine iteF ⟨_, rfl, rfl, _, rfl, ?_⟩
      rw [show decide (V.str (Tm.two "then" s t).hd = V.str "cut") = false from (by decide +kernel : decide (V.str ("then" : Str) = V.str "cut") = false)]
      refine iteF ?_
      · -- then
        have L1s : SqL K G3 F0 [.ref L0, .ref L1] := SqL.of eF
        refine ⟨_, rfl, F0, _, 0, _, rfl, rfl, L1s, rfl, L0, rfl, ⟨_, SqL.of e0⟩, fun D hD => ?_⟩
        have l0 := g0.len
        have l1 := g1.len
        refine lc2_it (walk_list (K := K) (a := L0) (xs := as0.map V.ref)) (fun i G => ∃ qs : List Addr, G D = some (.lst (qs.map V.ref)) ∧ Rs (WyAt K) G qs (((wys ls s).take i).flatMap fun o => (wys ls t).map (thenW o)) ∧ Same G3 G) ⟨[], upd_same, .nil, same_upd hD⟩ (fun i G _ q => by obtain ⟨_, _, _, q⟩ := q; exact q.seq (SqL.of e0)) ?_ ?_
        · rintro i v G G' hi ⟨qs, eq, hQ, sm⟩ ⟨rfl, hv⟩
          obtain ⟨r, er, rfl⟩ := ref_at hv
          obtain ⟨o, eo, ho⟩ := g0.get er
          have li := (List.getElem?_eq_some_iff.mp eo).1
          have om := List.mem_of_getElem? eo
          have oo := o0 o om
          refine ⟨rfl, _, rfl, F0, _, 1, _, rfl, rfl, SqL.of (sm _ _ eF), rfl, L1, rfl, ⟨_, SqL.of (sm _ _ e1)⟩, ?_⟩
          have fl := fm_const (fun o => (wys ls t).map (thenW o)) (wys ls t).length ((wys ls s).take i) fun x _ => List.length_map _
          rw [List.length_take, Nat.min_eq_left (by omega)] at fl
          have i1 : i * (wys ls t).length + (wys ls t).length ≤ (wys ls s).length * (wys ls t).length := by
            rw [← Nat.succ_mul]
            exact Nat.mul_le_mul_right _ li
          refine in_it (walk_list (K := K) (a := L1) (xs := as1.map V.ref)) (fun j G2 => ∃ qs : List Addr, G2 D = some (.lst (qs.map V.ref)) ∧ Rs (WyAt K) G2 qs ((((wys ls s).take i).flatMap fun o => (wys ls t).map (thenW o)) ++ ((wys ls t).take j).map (thenW o)) ∧ Same G3 G2) ⟨qs, eq, by rw [List.take_zero, List.map_nil, List.append_nil]; exact hQ, sm⟩ (fun j G2 _ q => by obtain ⟨_, _, _, q⟩ := q; exact q.seq (SqL.of e1)) ?_ ?_
          · rintro j v G2 G4 hj ⟨ps, ep, hP, sm2⟩ ⟨rfl, ev⟩
            obtain ⟨r2, er2, rfl⟩ := ref_at ev
            obtain ⟨p, ep2, hp⟩ := g1.get er2
            have lj := (List.getElem?_eq_some_iff.mp ep2).1
            have oo2 := o1 p (List.mem_of_getElem? ep2)
            have x1 := oo.ln
            have x2 := oo.mn
            have x3 := oo2.ln
            have x4 := oo2.mn
            refine ⟨rfl, _, rfl, _, rfl, r, r2, o, p, rfl, wyAt_xp _ _ _ _ (.of sm2) ho, wyAt_xp _ _ _ _ (.of sm2) hp, oo.in_ (by omega), oo2.in_ (by omega), by omega, by omega, fun T G5 s5 hT => ?_⟩
            have lq := hP.len
            rw [List.length_append, fl, List.length_map, List.length_take, Nat.min_eq_left (by omega)] at lq
            have e5 := s5 _ _ ep
            refine ⟨_, e5, by rw [List.length_map]; exact small1000 (by omega), ps ++ [T], by rw [upd_same, List.map_append]; rfl, ?_, same_put hD (sm2.trans s5)⟩
            rw [List.take_add_one, ep2, List.map_append, ← List.append_assoc]
            exact (Rs.app (hP.xt wyAt_xp (.of s5)) (.one hT)).xt wyAt_xp (.put e5)
          · rintro G2 ⟨ps, ep, hP, sm2⟩
            rw [List.length_map, l1, List.take_length] at hP
            exact ⟨ps, ep, by rw [List.take_add_one, eo, List.flatMap_append]; simpa using hP, sm2⟩
        · rintro G ⟨qs, eq, hQ, sm⟩
          rw [List.length_map, l0, List.take_length] at hQ
          exact k D G (s3.trans sm) (none_of s3 hD) ⟨qs, eq, hQ⟩
theorem ws_none : FnOk P w K mg base CX0 6 (He.ga K "_ways") fd ["frame", "term"] (spWs K 0) := by
  have no : ∀ t : Tm, ¬ t.sz ≤ 0 := fun t => by cases t <;> simp only [Tm.sz] <;> omega
  refine ⟨fun vs H Q E h => ?_, fun A outer s H args us vs Q E hr e0 bt r h => ?_⟩
  · obtain ⟨_, _, _, _, t, _, _, _, _, _, _, _, _, h2, _⟩ := h
    exact absurd h2 (no t)
  · obtain ⟨_, _, _, _, t, _, _, _, _, _, _, _, _, h2, _⟩ := h
    exact absurd h2 (no t)
theorem ok_ws (F : FnP K "_ways" sUWays (He.ga K "_ways") fd) (Y : Fx w K mg) : ∀ N, FnOk P w K mg base CX0 (6 + N) (He.ga K "_ways") fd ["frame", "term"] (spWs K N)
  | 0 => ws_none
  | N + 1 => ws_step F Y (ok_ws F Y N) (Nat.le_add_right 6 N)
end
end K43

namespace K43
open PySem PySem.Spec PyProof.Rows L2 Ow Xv
/-! ### the places that totals make -/
def tfs (ls : List Lt) (ts : List Tt) (z : Str) : List Tt := ts.filter fun t => decide ((stepOf (endOf ls t.1) t).1 = z)
def led (ls : List Lt) (t : Tt) : Str := (stepOf (endOf ls t.1) t).2
abbrev Gs : Type := List Str × List (Nat × Tt)
def gstep (ls : List Lt) (ts : List Tt) (i : Nat) (s : Gs) : Gs := (s.1 ++ (tfs ls ts (s.1.getD i "")).map (led ls), s.2 ++ (tfs ls ts (s.1.getD i "")).map fun t => (i, t))
inductive Gr (ls : List Lt) (ts : List Tt) : Nat → Nat → Gs → Gs → Prop
  | stop {n i : Nat} {s : Gs} : s.1.length ≤ i → Gr ls ts n i s s
  | next {n i : Nat} {s f : Gs} : i < s.1.length → Gr ls ts n (i + 1) (gstep ls ts i s) f → Gr ls ts (n + 1) i s f
structure Rkd (ls : List Lt) (ts : List Tt) (ρ : Str → Nat) : Prop where
  up : ∀ t ∈ ts, ρ (stepOf (endOf ls t.1) t).1 < ρ (led ls t)
  le : ∀ t ∈ ts, ρ (led ls t) ≤ 2
  n : ts.length ≤ 8
def ndN : Nat → Nat
  | 0 => 73
  | 1 => 9
  | _ => 1
def wtS (ρ : Str → Nat) (l : List Str) : Nat := (l.map fun z => ndN (ρ z)).sum
theorem ndN_pos : ∀ n, 1 ≤ ndN n
  | 0 => by decide
  | 1 => by decide
  | _ + 2 => Nat.le_refl 1
theorem sum_le {f : Str → Nat} {c : Nat} : ∀ {l : List Str}, (∀ z ∈ l, f z ≤ c) → (l.map f).sum ≤ l.length * c
  | [], _ => by simp
  | z :: l, h => by
    have h1 := h z List.mem_cons_self
    have h2 := sum_le fun y hy => h y (List.mem_cons_of_mem z hy)
    rw [List.map_cons, List.sum_cons, List.length_cons, Nat.succ_mul]
    omega
section
variable {ls : List Lt} {ts : List Tt} {ρ : Str → Nat}
theorem tfs_mem {z : Str} {t : Tt} (h : t ∈ tfs ls ts z) : t ∈ ts ∧ (stepOf (endOf ls t.1) t).1 = z := by
  obtain ⟨a, b⟩ := List.mem_filter.mp h
  exact ⟨a, of_decide_eq_true b⟩
theorem kids_wt (R : Rkd ls ts ρ) {z : Str} (hz : ρ z ≤ 2) : wtS ρ ((tfs ls ts z).map (led ls)) + 1 ≤ ndN (ρ z) := by
  have ln : (tfs ls ts z).length ≤ 8 := Nat.le_trans (List.length_filter_le _ _) R.n
  have hk : ∀ y ∈ (tfs ls ts z).map (led ls), ρ z < ρ y ∧ ρ y ≤ 2 := fun y hy => by
    obtain ⟨t, ht, rfl⟩ := List.mem_map.mp hy
    obtain ⟨a, b⟩ := tfs_mem ht
    have h := R.up t a
    rw [b] at h
    exact ⟨h, R.le t a⟩
  unfold wtS
  match e : ρ z, hz with
  | 0, _ =>
    have := sum_le (f := fun z => ndN (ρ z)) (c := 9) (l := (tfs ls ts z).map (led ls)) fun y hy => by
      obtain ⟨a, b⟩ := hk y hy
      match e2 : ρ y, b with
      | 0, _ => omega
      | 1, _ => exact Nat.le_refl 9
      | 2, _ => show 1 ≤ 9; decide
    rw [List.length_map] at this
    show _ ≤ 73
    omega
  | 1, _ =>
    have := sum_le (f := fun z => ndN (ρ z)) (c := 1) (l := (tfs ls ts z).map (led ls)) fun y hy => by
      obtain ⟨a, b⟩ := hk y hy
      match e2 : ρ y, b with
      | 0, _ => omega
      | 1, _ => omega
      | 2, _ => exact Nat.le_refl 1
    rw [List.length_map] at this
    show _ ≤ 9
    omega
  | 2, _ =>
    have : (tfs ls ts z).map (led ls) = [] := List.eq_nil_iff_forall_not_mem.mpr fun y hy => by
      have := hk y hy
      omega
    rw [this]
    exact Nat.le_refl 1
theorem wtS_app {a b : List Str} : wtS ρ (a ++ b) = wtS ρ a + wtS ρ b := by simp [wtS, List.map_append, List.sum_append]
theorem gr_ex (R : Rkd ls ts ρ) : ∀ (M i : Nat) (s : Gs), (∀ z ∈ s.1, ρ z ≤ 2) → i ≤ s.1.length → wtS ρ (s.1.drop i) ≤ M → ∃ f, Gr ls ts M i s f ∧ f.1.length ≤ i + M
  | 0, i, s, h, l, e => by
    have : s.1.length ≤ i := by
      cases q : s.1.drop i with
      | nil => exact List.drop_eq_nil_iff.mp q
      | cons z r =>
        rw [q] at e
        have := ndN_pos (ρ z)
        simp only [wtS, List.map_cons, List.sum_cons] at e
        omega
    exact ⟨s, .stop this, by omega⟩
  | M + 1, i, s, h, l, e => by
    by_cases lt : i < s.1.length
    · have hd : s.1.drop i = s.1[i] :: s.1.drop (i + 1) := List.drop_eq_getElem_cons lt
      have gd : s.1.getD i "" = s.1[i] := by simp [List.getD, lt]
      have hz := h _ (List.getElem_mem lt)
      have kw := kids_wt R hz
      rw [hd] at e
      simp only [wtS, List.map_cons, List.sum_cons] at e
      have e2 : wtS ρ (s.1.drop (i + 1)) + ndN (ρ s.1[i]) ≤ M + 1 := by unfold wtS; omega
      obtain ⟨f, g, lf⟩ := gr_ex R M (i + 1) (gstep ls ts i s) (fun z hz => by
        rcases List.mem_append.mp hz with q | q
        · exact h z q
        · obtain ⟨t, ht, rfl⟩ := List.mem_map.mp q
          exact R.le t (tfs_mem ht).1) (by unfold gstep; rw [List.length_append]; omega) (by
        unfold gstep
        rw [gd, List.drop_append_of_le_length (by omega), wtS_app]
        omega)
      exact ⟨f, .next lt g, by omega⟩
    · exact ⟨s, .stop (by omega), by omega⟩
/-- what holds of all that is made -/
structure GsI (ls : List Lt) (ts : List Tt) (ss : List Str) (s : Gs) : Prop where
  e : s.1 = ss ++ s.2.map fun q => led ls q.2
  k : ∀ q ∈ s.2, q.2 ∈ ts ∧ s.1[q.1]? = some (stepOf (endOf ls q.2.1) q.2).1
theorem getE_app0 {a b : List Str} {i : Nat} {v : Str} (h : a[i]? = some v) : (a ++ b)[i]? = some v := by
  rw [List.getElem?_append_left (List.getElem?_eq_some_iff.mp h).1]
  exact h
theorem GsI.step {ss : List Str} {s : Gs} {i : Nat} (h : GsI ls ts ss s) (l : i < s.1.length) : GsI ls ts ss (gstep ls ts i s) := by
  have gd : s.1[i]? = some (s.1.getD i "") := by simp [List.getD, l]
  refine ⟨?_, fun q hq => ?_⟩
  · unfold gstep
    dsimp only
    rw [List.map_append, ← List.append_assoc, ← h.e, List.map_map]
    rfl
  · rcases List.mem_append.mp hq with z | z
    · obtain ⟨a, b⟩ := h.k q z
      exact ⟨a, getE_app0 b⟩
    · obtain ⟨t, ht, rfl⟩ := List.mem_map.mp z
      obtain ⟨a, b⟩ := tfs_mem ht
      exact ⟨a, getE_app0 (by dsimp only; rw [b]; exact gd)⟩
theorem Gr.inv {n i : Nat} {ss : List Str} {s f : Gs} (g : Gr ls ts n i s f) (h : GsI ls ts ss s) : GsI ls ts ss f := by
  induction g with
  | stop _ => exact h
  | next l _ ih => exact ih (h.step l)
def mk1 (i : Nat) (q : Nat × Tt) : Mk2 := if q.2.2 = "on" then (.leaf "letter" [q.2.1], q.1, i) else (.leaf "letter" [q.2.1], i, q.1)
def smk (n : Nat) (st : List (Nat × Tt)) : List Mk2 := (st.zipIdx n).map fun p => mk1 p.2 p.1
def madeW (w : Wy) (f : Gs) : Wy := (f.1, w.2 ++ smk w.1.length f.2)
theorem smk_snoc {n : Nat} {st : List (Nat × Tt)} {q : Nat × Tt} : smk n (st ++ [q]) = smk n st ++ [mk1 (n + st.length) q] := by
  unfold smk
  rw [List.zipIdx_append, List.map_append]
  rfl
theorem smk_len {n : Nat} {st : List (Nat × Tt)} : (smk n st).length = st.length := by
  unfold smk
  rw [List.length_map, List.length_zipIdx]
structure WyG (xs : List Str) (ls : List Lt) (w : Wy) : Prop where
  two : 2 ≤ w.1.length
  inx : ∀ z ∈ w.1, z ∈ xs
  mks : ∀ m ∈ w.2, MkOk xs ls w.1 m
theorem WyOk.g {xs : List Str} {n : Nat} {x y : Str} {w : Wy} (h : WyOk xs ls n x y w) : WyG xs ls w := ⟨(List.getElem?_eq_some_iff.mp h.y1).1, h.inx, h.mks⟩
theorem end_mem {xs : List Str} (ok : FrOk xs ls) {n : Str} (h : n ∈ ls.map (·.1)) : endOf ls n ∈ ls ∧ (endOf ls n).1 = n := by
  obtain ⟨q, hq, rfl⟩ := List.mem_map.mp h
  rw [find_nd ok.nl.nd hq]
  exact ⟨hq, rfl⟩
theorem made_g {xs : List Str} {w : Wy} {f : Gs} {n : Nat} (ok : FrOk xs ls) (hm : ∀ t ∈ ts, t.1 ∈ ls.map (·.1)) (h : WyG xs ls w) (g : Gr ls ts n 0 (w.1, []) f) : WyG xs ls (madeW w f) := by
  have I := g.inv (ss := w.1) ⟨by simp, fun q hq => absurd hq List.not_mem_nil⟩
  have hl : ∀ t ∈ ts, led ls t ∈ xs ∧ (stepOf (endOf ls t.1) t).1 ∈ xs := fun t ht => by
    obtain ⟨a, b⟩ := end_mem ok (hm t ht)
    obtain ⟨c, d⟩ := ok.ends _ a
    unfold led stepOf
    split
    · exact ⟨d, c⟩
    · exact ⟨c, d⟩
  refine ⟨?_, fun z hz => ?_, fun m hmm => ?_⟩
  · show 2 ≤ f.1.length
    rw [I.e, List.length_append]
    have := h.two
    omega
  · have hz : z ∈ f.1 := hz
    rw [I.e] at hz
    rcases List.mem_append.mp hz with q | q
    · exact h.inx z q
    · obtain ⟨t, ht, rfl⟩ := List.mem_map.mp q
      exact (hl t.2 (I.k t ht).1).1
  · show MkOk xs ls f.1 m
    rcases List.mem_append.mp hmm with q | qm
    · obtain ⟨a, b, h1, h2, h3⟩ := h.mks m q
      exact ⟨a, b, by rw [I.e]; exact getE_app0 h1, by rw [I.e]; exact getE_app0 h2, h3⟩
    · obtain ⟨⟨q, i⟩, hq, rfl⟩ := List.mem_map.mp qm
      have e1 : f.2[i - w.1.length]? = some q ∧ w.1.length ≤ i := by
        rw [List.mem_zipIdx_iff_le_and_getElem?_sub] at hq
        exact ⟨hq.2, hq.1⟩
      obtain ⟨a, b⟩ := I.k q (List.mem_of_getElem? e1.1)
      have at_i : f.1[i]? = some (led ls q.2) := by
        rw [I.e, List.getElem?_append_right e1.2, List.getElem?_map, e1.1]
        rfl
      obtain ⟨c, d⟩ := end_mem ok (hm _ a)
      have ty : Ty xs ls (.leaf "letter" [q.2.1]) (endOf ls q.2.1).2.1 (endOf ls q.2.1).2.2 := by
        have z : Ty xs ls (.leaf "letter" [(endOf ls q.2.1).1]) (endOf ls q.2.1).2.1 (endOf ls q.2.1).2.2 := .letter c
        rw [d] at z
        exact z
      show MkOk xs ls f.1 (mk1 i q)
      unfold mk1
      by_cases on : q.2.2 = ("on" : Str)
      · rw [if_pos on]
        have u1 : (stepOf (endOf ls q.2.1) q.2) = ((endOf ls q.2.1).2.1, (endOf ls q.2.1).2.2) := by unfold stepOf; rw [if_pos on]
        unfold led at at_i
        rw [u1] at b at_i
        exact ⟨_, _, b, at_i, ty, trivial, by show 1 ≤ 50; decide⟩
      · rw [if_neg on]
        have u1 : (stepOf (endOf ls q.2.1) q.2) = ((endOf ls q.2.1).2.2, (endOf ls q.2.1).2.1) := by unfold stepOf; rw [if_neg on]
        unfold led at at_i
        rw [u1] at b at_i
        exact ⟨_, _, at_i, b, ty, trivial, by show 1 ≤ 50; decide⟩
end
end K43

namespace K43
open PySem PySem.Spec PyProof.Rows L2 Ow Xv
/-! ### totals from a sort, led to, the steps made -/
abbrev NTF : List Str := ["self", "sort", "total"]
theorem scTF : FnScope NTF ["self", "sort"] (defScope sFrame_TotalsFrom) := ⟨rfl, rfl, rfl, by decide +kernel, rfl, by decide +kernel, by decide +kernel⟩
def ttTF (K : PySem.W.Frag) : TT := tTest (tOp rEq (tOp (rIxT K) (tCall (spSO K) [] E0 (tCons (tFld K (tVar 0) "_ends") (tCons (tVar 2) tNil))) (tC (.int 0))) (tVar 1))
def spTF (K : PySem.W.Frag) : Sp := fun vs H Q E => ∃ (x : Addr) (v : V) (d : PyData) (xs : List Str) (ls : List Lt) (ts : List Tt), vs = [.ref x, v] ∧ FrmAt K H x xs ls ts ∧ GdF xs ls ts ∧ Va K H v d ∧
  (isTx v xs = false → ∀ (d : Addr) (H' : Hp), Same H H' → H d = none → H' d = some (.xd [("name", v)]) → E (.ref (CUnknownName K)) (some d) H') ∧
  ∀ z, z ∈ xs → v = .str z → ∀ (l : Addr) (as : List Addr) (H' : Hp), Same H H' → H l = none → H' l = some (.lst (as.map V.ref)) → AllT K H' as ((tfs ls ts z).map ttV) → Q (.ref l) H'
abbrev NLT : List Str := ["frame", "total", "name", "word"]
theorem scLT : FnScope NLT ["frame", "total"] (defScope sLedTo) := ⟨rfl, rfl, rfl, by decide +kernel, rfl, by decide +kernel, by decide +kernel⟩
def spLT (K : PySem.W.Frag) : Sp := fun vs H Q _ => ∃ (x p : Addr) (t : Tt) (xs : List Str) (ls : List Lt) (ts : List Tt), vs = [.ref x, .ref p] ∧ FrmAt K H x xs ls ts ∧ GdF xs ls ts ∧ t ∈ ts ∧ SqT K H p (ttV t) ∧ Q (.str (led ls t)) H
abbrev NMs : List Str := ["frame", "sorts", "all_sorts", "steps", "at", "total"]
theorem scMs : FnScope NMs ["frame", "sorts"] (defScope sMadeSteps) := ⟨rfl, rfl, rfl, by decide +kernel, rfl, by decide +kernel, by decide +kernel⟩
/-- a step that is told -/
def StAt (K : PySem.W.Frag) (H : Hp) (r : Addr) (q : Nat × Tt) : Prop := ∃ p, SqT K H r [.int (q.1 : Int), .ref p] ∧ SqT K H p (ttV q.2)
theorem stAt_xp {K : PySem.W.Frag} : XP (StAt K) := fun _ _ _ _ s ⟨p, a, b⟩ => ⟨p, s.sqt a, s.sqt b⟩
def spMst (K : PySem.W.Frag) : Sp := fun vs H Q _ => ∃ (x l : Addr) (ss : List Str) (n : Nat) (f : Gs) (xs : List Str) (ls : List Lt) (ts : List Tt), vs = [.ref x, .ref l] ∧ FrmAt K H x xs ls ts ∧ GdF xs ls ts ∧ SqL K H l (ss.map V.str) ∧ (∀ z ∈ ss, z ∈ xs) ∧ (∀ t ∈ ts, led ls t ∈ xs) ∧ Gr ls ts n 0 (ss, []) f ∧ f.1.length ≤ 2000 ∧
  ∀ (L : Addr) (as : List Addr) (H' : Hp), Same H H' → H L = none → H' L = some (.lst (as.map V.ref)) → Rs (StAt K) H' as f.2 → Q (.ref L) H'
theorem AllT.xt {K : PySem.W.Frag} {H H' : Hp} {as : List Addr} {vss : List (List V)} (x : XT H H') (h : AllT K H as vss) : AllT K H' as vss := ⟨h.1, fun i u e => let ⟨vs, a, b⟩ := h.2 i u e; ⟨vs, a, x.sqt b⟩⟩
theorem Gr.len {ls : List Lt} {ts : List Tt} {n i : Nat} {s f : Gs} (g : Gr ls ts n i s f) : s.1.length ≤ f.1.length := by
  induction g with
  | stop _ => exact Nat.le_refl _
  | next l _ ih =>
    unfold gstep at ih
    rw [List.length_append] at ih
    omega
theorem big16 {n : Nat} (h : n ≤ 4000) : n < sizeLine := by
  have : sizeLine = 16777216 := by decide
  omega
section
variable {P : Program} {w : World} {K : PySem.W.Frag} {mg : Str → Option Value} {base : Heap} {f : Addr} {fd : FuncData}
theorem ok_tf (F : FnM K "totals_from" "Frame.totals_from" sFrame_TotalsFrom f fd) (Y : Fx w K mg) : FnOk P w K mg base (L2.CX P w) 3 f fd ["self", "sort"] (spTF K) := by
  obtain ⟨d1, F1⟩ := Y.dFrame_HasSort
  obtain ⟨d5, F5⟩ := Y.dStepOf
  have b1 := FunD.bindsN (ps := ["self", "value"]) F1 fun _ _ _ _ _ _ us hl => match us, hl with | [_, _], _ => rfl
  have b5 := FunD.bindsN (ps := ["ends", "total"]) F5 fun _ _ _ _ _ _ us hl => match us, hl with | [_, _], _ => rfl
  have G1 : FnOk P w K mg base CX0 1 _ d1 ["self", "value"] (spHS K) := ok_hs F1 Y
  have G5 : FnOk P w K mg base CX0 1 _ d5 ["ends", "total"] (spSO K) := ok_so F5 Y
  refine F.ok scTF (fun vs H Q E h => ?_) (fun cdv A outer s H vs Q E hr h => ?_)
  · obtain ⟨x, v, d, xs, ls, ts, rfl, _⟩ := h
    rfl
  · have hu := hu_of hr
    have nd := scTF.nd
    have hr1 : Room 1 _ := hr.mono (by decide)
    refine ⟨_, pss_cons (ps_if (pt_not (pt_val (pe_meth (pv 0) Y.cFrame Y.mFrame_HasSort G1 hr1 b1 .nil pass0 (pa_cons (pv 1) pa_nil)))) (pss_one (ps_raise rfl (takes_of rfl rfl rfl rfl) (pmk_ra (raUN Y) hr (by rfl) Y.gUnknownName (pa_cons (pv 1) pa_nil)))) pss_nil)
      (pss_one (ps_ret (pe_lc (own := [("total", 2)]) (g := gName 2) (tt := ttTF K) (te := tVar 2) rfl nd (pi_seqA (pe_fld (pv 0) rfl)) (blkOk_by (N := NTF) (sc := defScope sFrame_TotalsFrom) (by decide +kernel)) (fun _ _ _ _ _ => pg_name (i := 2) nd rfl (Or.inl rfl))
        (fun _ _ _ _ _ => pts_one (pt_cmpR op_eq (pe_ix ix_tup (pe_call G5 hr1 (by rfl) Y.gStepOf F5.kp b5 .nil pass0 (pa_cons (pe_fld (pv 0) rfl) (pa_cons (pv 2) pa_nil))) pe_int (fun _ _ => rfl)) (pv 1) (nomark _))) (fun _ _ _ _ _ => pv 2)))), ?_⟩
    obtain ⟨x, v, d, xs, ls, ts, rfl, hF, gd, hv, kE, kQ⟩ := h
    obtain ⟨dx, a, l, t, m, h1, h2, h3, ⟨bs, h4, h6⟩, h5⟩ := id hF
    refine ⟨_, rfl, x, dx, _, rfl, h1, rfl, _, rfl, x, v, d, xs, ls, ts, rfl, hF, hv, _, rfl, ?_⟩
    cases c : isTx v xs with
    | false =>
      refine iteT ?_
      exact ⟨_, rfl, (by show 1 ≤ 1000; decide), fun q hq => mkO_at (fun d H' s hd e => kE c d H' s hd e) q hq⟩
    | true =>
      refine iteF ?_
      obtain ⟨z, hz, e⟩ := List.any_eq_true.mp c
      obtain rfl : v = .str z := of_decide_eq_true e
      have lb : bs.length = ts.length := by rw [h6.1, List.length_map]
      have l60 := gd.fi.lt
      refine ⟨_, rfl, x, _, dx, _, _, rfl, h1, Y.cFrame, Y.nFrameTotals, rfl, t, _, rfl, .inr h4, fun J GG wk gk D hD => ?_⟩
      refine lc_it wk (fun i G => ∃ us : List Addr, G D = some (.lst (us.map V.ref)) ∧ AllT K G us ((tfs ls (ts.take i) z).map ttV) ∧ Same H G) ⟨[], upd_same, AllT.nil, same_upd hD⟩ (fun i G _ ⟨_, _, _, p⟩ => gk G p) ?_ ?_
      · rintro i v G G' hi ⟨us, e, hA, sm⟩ ⟨rfl, ev⟩
        obtain ⟨b, eb, rfl⟩ := ref_at ev
        obtain ⟨vs, e1, hB⟩ := h6.2 i b eb
        obtain ⟨tt, e2, rfl⟩ := tt_at e1
        have li := (List.getElem?_eq_some_iff.mp e2).1
        obtain ⟨mq, nq⟩ := endOf_ok (gd.mem tt (List.mem_of_getElem? e2))
        obtain ⟨j, lj, ej⟩ := List.getElem_of_mem mq
        obtain ⟨pa, dg, hp⟩ := (h5.same sm).get gd.nd (show ls[j]? = some (endOf ls tt.1) by rw [List.getElem?_eq_getElem lj, ej])
        refine ⟨rfl, ?_⟩
        show ttTF K _ _ _
        refine ⟨_, rfl, x, _, dx, _, _, rfl, sm _ _ h1, Y.cFrame, Y.nFrameEnds, rfl, _, rfl, m, b, pa, endOf ls tt.1, tt, rfl, dg, hp, sqt_same sm hB, nq.symm, fun T2 G2 s7 hT2 => ?_⟩
        refine ⟨T2, _, 0, _, rfl, rfl, hT2, rfl, _, rfl, rfl, _, rfl, ?_⟩
        have smA := sm.trans s7
        have lu : us.length ≤ i := by
          have z1 := hA.1
          rw [List.length_map] at z1
          have z2 := List.length_filter_le (fun t => decide ((stepOf (endOf ls t.1) t).1 = z)) (ts.take i)
          rw [List.length_take] at z2
          unfold tfs at z1
          omega
        have tk : tfs ls (ts.take (i + 1)) z = tfs ls (ts.take i) z ++ if (stepOf (endOf ls tt.1) tt).1 = z then [tt] else [] := by
          unfold tfs
          rw [List.take_add_one, e2, List.filter_append]
          congr 1
          show List.filter _ [tt] = _
          rw [List.filter_cons, List.filter_nil]
          by_cases q : (stepOf (endOf ls tt.1) tt).1 = z
          · rw [if_pos q, if_pos (decide_eq_true q)]
          · rw [if_neg q, if_neg (by rw [decide_eq_false q]; exact Bool.false_ne_true)]
        refine ite2 (fun hc => ?_) (fun hc => ?_)
        · have hc2 : (stepOf (endOf ls tt.1) tt).1 = z := V.str.inj (of_decide_eq_true hc)
          rw [if_pos hc2] at tk
          have e3 := s7 _ _ e
          refine ⟨_, rfl, _, e3, ?_, us ++ [b], ?_, ?_, same_put hD smA⟩
          · rw [List.length_map]
            exact small1000 (by omega)
          · rw [upd_same, List.map_append]
            rfl
          · rw [tk, List.map_append]
            exact ((hA.same s7).snoc (sqt_same smA hB)).put e3
        · have hc2 : ¬ (stepOf (endOf ls tt.1) tt).1 = z := fun q => hc (decide_eq_true (congrArg V.str q))
          rw [if_neg hc2, List.append_nil] at tk
          exact ⟨us, s7 _ _ e, by rw [tk]; exact hA.same s7, smA⟩
      · rintro G ⟨us, e, hA, sm⟩
        rw [List.length_map, lb, List.take_length] at hA
        exact kQ z hz rfl D us G sm hD e hA
theorem ok_ledto (F : FnP K "led_to" sLedTo f fd) (Y : Fx w K mg) : FnOk P w K mg base CX0 4 f fd ["frame", "total"] (spLT K) := by
  obtain ⟨d1, F1⟩ := Y.dFrame_Ends
  have b1 := FunD.bindsN (ps := ["self", "name"]) F1 fun _ _ _ _ _ _ us hl => match us, hl with | [_, _], _ => rfl
  have G1 : FnOk P w K mg base (L2.CX P w) 3 _ d1 ["self", "name"] (spEn K) := ok_en F1 Y
  refine okD F scLT (fun vs H Q E h => ?_) (fun cdv A outer s H vs Q E hr h => ?_)
  · obtain ⟨x, p, t, xs, ls, ts, rfl, _⟩ := h
    rfl
  · have nd := scLT.nd
    refine ⟨_, pss_cons (ps_asg (pv 1) (pg_tup rfl (pgs_cons (pg_name (i := 2) nd rfl (Or.inl rfl)) (pgs_cons (pg_name (i := 3) nd rfl (Or.inl rfl)) pgs_nil))))
      (pss_one (ps_ret (pe_ix ix_tup (pe_meth (pv 0) Y.cFrame Y.mFrame_Ends G1 hr b1 .nil passX (pa_cons (pv 2) pa_nil)) (pe_ifExp (pt_cmpR op_eq (pv 3) pe_str (nomark _)) pe_int pe_int) (fun _ _ => rfl)))), ?_⟩
    obtain ⟨x, p, t, xs, ls, ts, rfl, hF, gd, ht, hp, k⟩ := h
    obtain ⟨dx, f1, f2, f3, f4, hx, _⟩ := id hF
    obtain ⟨mq, nq⟩ := endOf_ok (gd.mem t ht)
    refine ⟨_, rfl, p, _, rfl, hp, rfl, _, _, rfl, _, _, rfl, rfl, ?_⟩
    dsimp only
    refine ⟨_, rfl, x, dx, _, rfl, hx, rfl, _, rfl, x, .str t.1, .str t.1, xs, ls, ts, rfl, hF, gd.nd, .str _, fun e => ?_, fun q hq e T hT => ?_⟩
    · rw [isTx_str, decide_eq_true (gd.mem t ht)] at e
      cases e
    · have eq : endOf ls t.1 = q := by rw [V.str.inj e]; exact find_nd gd.nd hq
      unfold led stepOf at k
      rw [eq] at k
      refine ⟨_, rfl, rfl, _, rfl, ite2 (fun hc => ?_) (fun hc => ?_)⟩
      · rw [if_pos (V.str.inj (of_decide_eq_true hc))] at k
        exact ⟨T, _, 1, _, rfl, rfl, hT, rfl, k⟩
      · rw [if_neg (fun z => hc (by rw [z]; exact decide_eq_true rfl))] at k
        exact ⟨T, _, 0, _, rfl, rfl, hT, rfl, k⟩
theorem ok_mst (F : FnP K "made_steps" sMadeSteps f fd) (Y : Fx w K mg) : FnOk P w K mg base CX0 5 f fd ["frame", "sorts"] (spMst K) := by
  obtain ⟨d1, F1⟩ := Y.dFrame_TotalsFrom
  obtain ⟨d2, F2⟩ := Y.dLedTo
  have b1 := FunD.bindsN (ps := ["self", "sort"]) F1 fun _ _ _ _ _ _ us hl => match us, hl with | [_, _], _ => rfl
  have b2 := FunD.bindsN (ps := ["frame", "total"]) F2 fun _ _ _ _ _ _ us hl => match us, hl with | [_, _], _ => rfl
  have G1 : FnOk P w K mg base (L2.CX P w) 3 _ d1 ["self", "sort"] (spTF K) := ok_tf F1 Y
  have G2 : FnOk P w K mg base CX0 4 _ d2 ["frame", "total"] (spLT K) := ok_ledto F2 Y
  refine okD F scMs (fun vs H Q E h => ?_) (fun cdv A outer s H vs Q E hr h => ?_)
  · obtain ⟨x, l, ss, n, f, xs, ls, ts, rfl, _⟩ := h
    rfl
  · have nd := scMs.nd
    have hr3 : Room 3 _ := hr.mono (by decide)
    refine ⟨_, pss_cons (ps_set (i := 2) nd rfl (Or.inl rfl) (pe_callTy call_list_of (by rfl) Y.bList boot_list (pa_cons (pv 1) pa_nil)))
      (pss_cons (ps_set (i := 3) nd rfl (Or.inl rfl) (pe_lst pa_nil))
      (pss_cons (ps_set (i := 4) nd rfl (Or.inl rfl) pe_int)
      (pss_cons (ps_while PassesOwn.never (pt_cmpR op_lt (pv 4) (pe_callB call_len_seq (by rfl) Y.bLen PySem.boot_len (pa_cons (pv 2) pa_nil)) (nomark _))
        (pss_cons (ps_for PassesOwn.never rfl (pi_list (pe_meth (pv 0) Y.cFrame Y.mFrame_TotalsFrom G1 hr3 b1 .nil passX (pa_cons (pe_ix ix_list (pv 2) (pv 4) (fun _ _ => rfl)) pa_nil))) (pg_name (i := 5) nd rfl (Or.inl rfl))
          (pss_cons (ps_expr (pe_bm PySem.F.plainAttrs_list PySem.F.slot_list_append PySem.F.type_list_append mt_append (pv 3) (pa_cons (pe_tup (pa_cons (pv 4) (pa_cons (pv 5) pa_nil))) pa_nil)))
          (pss_one (ps_expr (pe_bm PySem.F.plainAttrs_list PySem.F.slot_list_append PySem.F.type_list_append mt_append (pv 2) (pa_cons (pe_call G2 hr (by rfl) Y.gLedTo F2.kp b2 .nil pass0 (pa_cons (pv 0) (pa_cons (pv 5) pa_nil))) pa_nil))))))
        (pss_one (ps_aug (i := 4) nd rfl (Or.inl rfl) pe_int ip_add))))
      (pss_one (ps_ret (pv 3)))))), ?_⟩
    obtain ⟨x, l, ss, n, f, xs, ls, ts, rfl, hF, gd, hl, hin, hled, hG, lf, k⟩ := h
    refine ⟨_, rfl, l, _, rfl, .inl hl, fun A0 hA0 => ?_⟩
    have sA := same_upd (o := .lst (ss.map V.str)) hA0
    refine ⟨szl (by show 0 ≤ 1000; decide), fun S0 hS0 => ?_⟩
    have nSA : S0 ≠ A0 := fun z => by rw [z, upd_same] at hS0; cases hS0
    have nS : H S0 = none := none_of sA hS0
    have eA0 : upd (upd H A0 (.lst (ss.map V.str))) S0 (.lst []) A0 = some (.lst (ss.map V.str)) := (upd_ne fun z => nSA z.symm).trans upd_same
    have s0 := sA.trans (same_upd (o := .lst []) hS0)
    obtain ⟨dx, _, _, _, _, hx, _⟩ := id hF
    refine ⟨fun m σ G => ∃ (i : Nat) (s : Gs) (as : List Addr) (v5 : Option V), σ = [some (.ref x), some (.ref l), some (.ref A0), some (.ref S0), some (.int (i : Int)), v5] ∧ Gr ls ts m i s f ∧ (∀ z ∈ s.1, z ∈ xs) ∧ s.2.length ≤ s.1.length ∧
      G A0 = some (.lst (s.1.map V.str)) ∧ G S0 = some (.lst (as.map V.ref)) ∧ Rs (StAt K) G as s.2 ∧ Same H G, ⟨n, 0, (ss, []), [], _, rfl, hG, hin, Nat.zero_le _, eA0, upd_same, .nil, s0⟩, ?_⟩
    clear eA0 s0 hS0 sA
    rintro m σ G ⟨i, s, as, v5, rfl, hG, hin, l2, eA, eS, hR, sm⟩
    refine ⟨_, rfl, _, rfl, A0, _, rfl, .inl (SqL.of eA), ?_⟩
    rw [List.length_map]
    refine ⟨_, _, rfl, rfl, _, rfl, ite2 (fun hc => ?_) (fun hc => ?_)⟩
    · have li : i < s.1.length := by
        have z : (i : Int) < (s.1.length : Int) := of_decide_eq_true hc
        omega
      have lg := hG.len
      cases hG with
      | stop q => omega
      | @next n' _ _ _ _ hG =>
      have gd2 : s.1[i]? = some (s.1.getD i "") := by simp [List.getD, li]
      have zx := hin _ (List.mem_of_getElem? gd2)
      refine ⟨fun σ G => ∃ (i : Nat) (s : Gs) (as : List Addr) (v5 : Option V), σ = [some (.ref x), some (.ref l), some (.ref A0), some (.ref S0), some (.int (i : Int)), v5] ∧ Gr ls ts n' i s f ∧ (∀ z ∈ s.1, z ∈ xs) ∧ s.2.length ≤ s.1.length ∧
        G A0 = some (.lst (s.1.map V.str)) ∧ G S0 = some (.lst (as.map V.ref)) ∧ Rs (StAt K) G as s.2 ∧ Same H G, fun σ' G' h => ⟨n', Nat.lt_succ_self _, h⟩, ?_⟩
      refine ⟨_, rfl, x, dx, _, rfl, sm _ _ hx, rfl, _, rfl, _, rfl, A0, _, _, _, rfl, rfl, SqL.of eA, str_atI gd2, x, .str (s.1.getD i ""), .str (s.1.getD i ""), xs, ls, ts, rfl, hF.same sm, gd, .str _, fun e => ?_, fun z hz e L bs G2 sm2 hL eL hA => ?_⟩
      · rw [isTx_str, decide_eq_true zx] at e
        cases e
      obtain rfl : s.1.getD i "" = z := V.str.inj e
      have nLA : L ≠ A0 := fun z => by rw [z, eA] at hL; cases hL
      have nLS : L ≠ S0 := fun z => by rw [z, eS] at hL; cases hL
      obtain ⟨kd, ekd⟩ : ∃ kd, kd = tfs ls ts (s.1.getD i "") := ⟨_, rfl⟩
      rw [← ekd] at hA
      have lb : bs.length = kd.length := by rw [hA.1, List.length_map]
      have gs : gstep ls ts i s = (s.1 ++ kd.map (led ls), s.2 ++ kd.map fun t => (i, t)) := by rw [ekd]; rfl
      have lgs := hG.len
      rw [gs] at lgs
      rw [List.length_append, List.length_map] at lgs
      refine ⟨L, rfl, ⟨_, SqL.of eL⟩, for_list (K := K) (a := L) (xs := bs.map V.ref) (fun j σ G => ∃ (cs : List Addr) (v5 : Option V), σ = [some (.ref x), some (.ref l), some (.ref A0), some (.ref S0), some (.int (i : Int)), v5] ∧ G L = some (.lst (bs.map V.ref)) ∧ AllT K G bs (kd.map ttV) ∧
        G A0 = some (.lst ((s.1 ++ (kd.take j).map (led ls)).map V.str)) ∧ G S0 = some (.lst (cs.map V.ref)) ∧ Rs (StAt K) G cs (s.2 ++ (kd.take j).map fun t => (i, t)) ∧ Same H G)
        ⟨as, _, rfl, eL, hA, by rw [List.take_zero, List.map_nil, List.append_nil]; exact sm2 _ _ eA, sm2 _ _ eS, by rw [List.take_zero, List.map_nil, List.append_nil]; exact hR.xt stAt_xp (.of sm2), sm.trans sm2⟩ (fun j σ G _ q => by obtain ⟨_, _, _, q, _⟩ := q; exact SqL.of q) ?_ ?_⟩
      · rintro j v σ G3 hj ⟨cs, v5, rfl, eL3, hA3, eA3, eS3, hR3, sm3⟩
        obtain ⟨b, eb, rfl⟩ := ref_at hj
        obtain ⟨vs, e1, hB⟩ := hA3.2 j b eb
        obtain ⟨tt, e2, rfl⟩ := tt_at e1
        have lj := (List.getElem?_eq_some_iff.mp e2).1
        have tm : tt ∈ ts := (tfs_mem (ekd ▸ List.mem_of_getElem? e2)).1
        have lc := hR3.len
        rw [List.length_append, List.length_map, List.length_take, Nat.min_eq_left (by omega)] at lc
        refine ⟨_, rfl, .inl ⟨rfl, _, SqL.of eS3⟩, _, rfl, _, rfl, szl (by show 2 ≤ 1000; decide), fun T hT => ?_⟩
        have sT := same_upd (o := .tup [V.int (i : Int), V.ref b]) hT
        have eS4 := sT _ _ eS3
        refine ⟨S0, _, _, rfl, rfl, eS4, by rw [List.length_map]; exact big16 (by omega), ?_⟩
        have eA4 := sT _ _ eA3
        have xt4 : XT G3 (upd (upd G3 T (.tup [V.int (i : Int), V.ref b])) S0 (.lst (cs.map V.ref ++ [.ref T]))) := (XT.of sT).trans (.put eS4)
        have nA : A0 ≠ S0 := fun z => nSA z.symm
        have eA5 : upd (upd G3 T (.tup [V.int (i : Int), V.ref b])) S0 (.lst (cs.map V.ref ++ [.ref T])) A0 = some (.lst ((s.1 ++ (kd.take j).map (led ls)).map V.str)) := (upd_ne nA).trans eA4
        have eS5 : upd (upd G3 T (.tup [V.int (i : Int), V.ref b])) S0 (.lst (cs.map V.ref ++ [.ref T])) S0 = some (.lst ((cs ++ [T]).map V.ref)) := by rw [upd_same, List.map_append]; rfl
        have eL5 : upd (upd G3 T (.tup [V.int (i : Int), V.ref b])) S0 (.lst (cs.map V.ref ++ [.ref T])) L = some (.lst (bs.map V.ref)) := (upd_ne nLS).trans (sT _ _ eL3)
        have sm5 : Same H (upd (upd G3 T (.tup [V.int (i : Int), V.ref b])) S0 (.lst (cs.map V.ref ++ [.ref T]))) := same_put nS (sm3.trans sT)
        have hR5 : Rs (StAt K) (upd (upd G3 T (.tup [V.int (i : Int), V.ref b])) S0 (.lst (cs.map V.ref ++ [.ref T]))) (cs ++ [T]) (s.2 ++ (kd.take (j + 1)).map fun t => (i, t)) := by
          rw [List.take_add_one, e2, List.map_append, ← List.append_assoc]
          exact (hR3.xt stAt_xp xt4).app (.one ⟨b, (XT.put eS4).sqt (SqT.of upd_same), xt4.sqt hB⟩)
        obtain ⟨G5, e5⟩ : ∃ Z, Z = upd (upd G3 T (.tup [V.int (i : Int), V.ref b])) S0 (.lst (cs.map V.ref ++ [.ref T])) := ⟨_, rfl⟩
        dsimp only [gName]
        change tDrop _ _ [some (.ref x), some (.ref l), some (.ref A0), some (.ref S0), some (.int (i : Int)), some (.ref b)] (upd (upd G3 T (.tup [V.int (i : Int), V.ref b])) S0 (.lst (cs.map V.ref ++ [.ref T])))
        rw [← e5] at eA5 eS5 eL5 sm5 hR5 xt4 ⊢
        clear e5 eS4 eA4 sT hT eS3 eA3 eL3 hR3
        have hB5 := xt4.sqt hB
        refine ⟨_, rfl, .inl ⟨rfl, _, SqL.of eA5⟩, _, rfl, _, rfl, x, b, tt, xs, ls, ts, rfl, hF.same sm5, gd, tm, hB5, A0, _, _, rfl, rfl, eA5, by rw [List.length_map, List.length_append, List.length_map, List.length_take]; exact big16 (by omega), cs ++ [T], _, rfl, (upd_ne nLA).trans eL5, (hA3.xt xt4).xt (.put eA5), ?_, (upd_ne nSA).trans eS5, hR5.xt stAt_xp (.put eA5), same_put hA0 sm5⟩
        rw [upd_same, List.take_add_one, e2, List.map_append (f := led ls), ← List.append_assoc, List.map_append (l₂ := List.map (led ls) (some tt).toList)]
        rfl
      · rintro σ G3 ⟨cs, v5, rfl, eL3, hA3, eA3, eS3, hR3, sm3⟩
        rw [List.length_map, lb, List.take_length] at eA3 hR3
        refine ⟨_, rfl, _, _, rfl, rfl, i + 1, gstep ls ts i s, cs, _, rfl, hG, fun z hz => ?_, ?_, by rw [gs]; exact eA3, eS3, by rw [gs]; exact hR3, sm3⟩
        · rcases List.mem_append.mp hz with q | q
          · exact hin z q
          · obtain ⟨t, ht, rfl⟩ := List.mem_map.mp q
            exact hled t (tfs_mem ht).1
        · rw [gs, List.length_append, List.length_append, List.length_map, List.length_map]
          omega
    · cases hG with
      | next q _ => exact absurd (decide_eq_true (show (i : Int) < (s.1.length : Int) by omega)) hc
      | stop q => exact ⟨_, rfl, k S0 as G sm nS eS hR⟩
end
end K43

namespace K43
open PySem PySem.Spec PyProof.Rows L2 Ow Xv
/-! ### books, what is made -/
theorem seq_any {a u : TS} {D : Ends} {σ : L2.St} {H : Hp} (I : L2.St → Hp → Prop) (hu : ∀ σ' H', I σ' H' → u D σ' H') (h : ∀ nx : L2.St → Hp → Prop, (∀ σ' H', I σ' H' → nx σ' H') → a { D with nx := nx } σ H) : tSeq a u D σ H := h _ hu
theorem fn_no {P : Program} {w : World} {K : PySem.W.Frag} {mg : Str → Option Value} {base : Heap} {k : Nat} {f : Addr} {fd : FuncData} {ps : List Str} : FnOk P w K mg base CX0 k f fd ps (fun _ _ _ _ => False) :=
  ⟨fun _ _ _ _ h => h.elim, fun _ _ _ _ _ _ _ _ _ _ _ _ _ h => h.elim⟩
def BkAt (K : PySem.W.Frag) (H : Hp) (x fr : Addr) : Prop := ∃ dx T, H x = some (.ins (CBook K) dx [("_frame", .ref fr), ("_premises", .ref T)])
theorem BkAt.same {K : PySem.W.Frag} {H H' : Hp} {x fr : Addr} (s : Same H H') (h : BkAt K H x fr) : BkAt K H' x fr := let ⟨a, b, c⟩ := h; ⟨a, b, s _ _ c⟩
abbrev NBI : List Str := ["self", "frame", "premises", "number", "p", "q"]
theorem scBI : FnScope NBI ["self", "frame", "premises"] (defScope sBook_Init) := ⟨rfl, rfl, rfl, by decide +kernel, rfl, by decide +kernel, by decide +kernel⟩
theorem scBF : FnScope ["self"] ["self"] (defScope sBook_Frame) := ⟨rfl, rfl, rfl, by decide +kernel, rfl, by decide +kernel, by decide +kernel⟩
def spBI (K : PySem.W.Frag) : Sp := fun vs H Q _ => ∃ (x fr p dx : Addr), vs = [.ref x, .ref fr, .ref p] ∧ H x = some (.ins (CBook K) dx []) ∧ SqL K H p [] ∧ ∀ H', Keep x H H' → BkAt K H' x fr → Q .non H'
def spBF (K : PySem.W.Frag) : Sp := fun vs H Q _ => ∃ (x fr : Addr), vs = [.ref x] ∧ BkAt K H x fr ∧ Q (.ref fr) H
abbrev NMd : List Str := ["book", "way", "frame", "sorts", "marks", "place", "total", "letter", "word", "further", "i", "j"]
theorem scMd : FnScope NMd ["book", "way"] (defScope sMade) := ⟨rfl, rfl, rfl, by decide +kernel, rfl, by decide +kernel, by decide +kernel⟩
def spMd (K : PySem.W.Frag) : Sp := fun vs H Q _ => ∃ (x a fr : Addr) (w : Wy) (n : Nat) (f : Gs) (xs : List Str) (ls : List Lt) (ts : List Tt), vs = [.ref x, .ref a] ∧ BkAt K H x fr ∧ FrmAt K H fr xs ls ts ∧ GdF xs ls ts ∧ WyAt K H a w ∧ (∀ z ∈ w.1, z ∈ xs) ∧ (∀ t ∈ ts, led ls t ∈ xs) ∧ Gr ls ts n 0 (w.1, []) f ∧ f.1.length ≤ 2000 ∧ w.2.length ≤ 900 ∧
  ∀ (T : Addr) (H' : Hp), Same H H' → WyAt K H' T (madeW w f) → Q (.ref T) H'
section
variable {P : Program} {w : World} {K : PySem.W.Frag} {mg : Str → Option Value} {base : Heap} {f : Addr} {fd : FuncData}
theorem ok_bi (F : FnM K "__init__" "Book.__init__" sBook_Init f fd) (Y : Fx w K mg) : FnOk P w K mg base CX0 2 f fd ["self", "frame", "premises"] (spBI K) := by
  obtain ⟨d1, F1⟩ := Y.dCheckPremise
  have b1 := FunD.bindsN (ps := ["frame", "number", "p", "q"]) F1 fun _ _ _ _ _ _ us hl => match us, hl with | [_, _, _, _], _ => rfl
  have G1 : FnOk P w K mg base CX0 1 (He.ga K "_check_premise") d1 ["frame", "number", "p", "q"] (fun _ _ _ _ => False) := fn_no
  refine okD F scBI (fun vs H Q E h => ?_) (fun cdv A outer s H vs Q E hr h => ?_)
  · obtain ⟨x, fr, p, dx, rfl, _⟩ := h
    rfl
  · have nd := scBI.nd
    refine ⟨_, pss_cons (ps_for PassesOwn.never rfl (pi_enumA (by rfl) Y.bEnumerate (pa_cons (pv 2) pa_nil)) (pg_tup rfl (pgs_cons (pg_name (i := 3) nd rfl (Or.inl rfl)) (pgs_cons (pg_tup rfl (pgs_cons (pg_name (i := 4) nd rfl (Or.inl rfl)) (pgs_cons (pg_name (i := 5) nd rfl (Or.inl rfl)) pgs_nil))) pgs_nil)))
        (pss_one (ps_expr (pe_call G1 hr (by rfl) Y.gCheckPremise F1.kp b1 .nil pass0 (pa_cons (pv 1) (pa_cons (pv 3) (pa_cons (pv 4) (pa_cons (pv 5) pa_nil))))))))
      (pss_cons (ps_fld (pv 0) (pv 1) rfl)
      (pss_one (ps_fld (pv 0) (pe_callTy call_tupA (by rfl) Y.bTuple (by decide +kernel) (pa_cons
          (pe_lc (own := [("p", 4), ("q", 5)]) (g := gTup K 2 (gCons (gName 4) (gCons (gName 5) gNil))) (tt := tYes) (te := tTup (tCons (tVar 4) (tCons (tVar 5) tNil))) rfl nd (pi_list (pv 2)) (blkOk_by (N := NBI) (sc := defScope sBook_Init) (by decide +kernel))
            (fun _ _ _ _ _ => pg_tup rfl (pgs_cons (pg_name (i := 4) nd rfl (Or.inl rfl)) (pgs_cons (pg_name (i := 5) nd rfl (Or.inl rfl)) pgs_nil))) (fun _ _ _ _ _ => pts_nil) (fun _ _ _ _ _ => pe_tup (pa_cons (pv 4) (pa_cons (pv 5) pa_nil)))) pa_nil)) rfl))), ?_⟩
    obtain ⟨x, fr, p, dx, rfl, hx, hp, k⟩ := h
    refine ⟨_, rfl, p, _, rfl, .inl hp, fun J GG wk gk => ?_⟩
    refine for_it wk (fun i σ G => σ = [some (.ref x), some (.ref fr), some (.ref p), none, none, none] ∧ Same H G) ⟨rfl, Same.refl _⟩ (fun i σ G _ p => gk G p.2) (fun i v σ G G' hi _ _ => absurd hi (Nat.not_lt_zero _)) ?_
    rintro σ G ⟨rfl, sm⟩
    refine ⟨_, rfl, _, rfl, x, CBook K, dx, _, rfl, sm _ _ hx, Y.cBook, Y.nBookFrame, (by show 0 < 1000; decide), ?_⟩
    have k1 : Keep x H (upd G x (.ins (CBook K) dx [("_frame", .ref fr)])) := (Keep.of sm).trans .put
    have hx7 : ∃ u, G x = some u ∧ isIns u = true := ⟨_, sm _ _ hx, rfl⟩
    have hp2 : SqL K (upd G x (.ins (CBook K) dx [("_frame", .ref fr)])) p [] := (Keep.put (x := x)).sql hx7 (sm.seq hp)
    refine ⟨_, rfl, p, rfl, ⟨_, hp2⟩, fun D hD => ?_⟩
    have xD : x ≠ D := fun z => by rw [← z, upd_same] at hD; cases hD
    refine lc_list (K := K) (a := p) (xs := []) (fun i G2 => G2 D = some (.lst []) ∧ Same (upd G x (.ins (CBook K) dx [("_frame", .ref fr)])) G2) ⟨upd_same, same_upd hD⟩ (fun i G2 _ q => q.2.seq hp2) (fun i v G2 hi _ => nomatch hi) ?_
    rintro G2 ⟨eD, sm2⟩
    refine ⟨D, [], rfl, .inl (SqL.of eD), fun T G3 sm3 hT => ?_⟩
    refine ⟨_, rfl, x, CBook K, dx, _, rfl, sm3 _ _ (sm2 _ _ upd_same), Y.cBook, Y.nBookPremises, (by show 1 < 1000; decide), ?_⟩
    exact k _ (k1.trans ((Keep.of (sm2.trans sm3)).trans .put)) ⟨dx, T, upd_same⟩
theorem ok_bf (F : FnM K "frame" "Book.frame" sBook_Frame f fd) (Y : Fx w K mg) : FnOk P w K mg base CX0 1 f fd ["self"] (spBF K) := by
  refine okD F scBF (fun vs H Q E h => ?_) (fun cdv A outer s H vs Q E hr h => ?_)
  · obtain ⟨x, fr, rfl, _⟩ := h
    rfl
  · refine ⟨_, pss_one (ps_ret (pe_fld (pv 0) rfl)), ?_⟩
    obtain ⟨x, fr, rfl, ⟨dx, T, hx⟩, k⟩ := h
    exact ⟨_, rfl, x, _, dx, _, _, rfl, hx, Y.cBook, Y.nBookFrame, rfl, k⟩
theorem mk_bk {H : Hp} {fr p : Addr} {Q : Addr → Hp → Prop} {E : XK} (hp : SqL K H p []) (k : ∀ b H', Same H H' → H b = none → BkAt K H' b fr → Q b H') :
    ∀ x dx, H x = none → H dx = none → dx ≠ x → spBI K (.ref x :: ([.ref fr, .ref p] ++ [])) (upd (upd H dx (.own x)) x (.ins (CBook K) dx [])) (fun v H2 => v = .non ∧ Q x H2) E := fun x dx hx hd nd => by
  have s0 : Same H (upd (upd H dx (.own x)) x (.ins (CBook K) dx [])) := same_new hx hd .refl
  exact ⟨x, fr, p, dx, rfl, upd_same, s0.seq hp, fun H' kk hF => ⟨rfl, k x H' (same_new hx hd kk) hx hF⟩⟩
theorem ok_md (F : FnP K "made" sMade f fd) (Y : Fx w K mg) : FnOk P w K mg base CX0 6 f fd ["book", "way"] (spMd K) := by
  obtain ⟨d1, F1⟩ := Y.dBook_Frame
  obtain ⟨d2, F2⟩ := Y.dLedTo
  obtain ⟨d3, F3⟩ := Y.dMadeSteps
  have b1 := FunD.bindsN (ps := ["self"]) F1 fun _ _ _ _ _ _ us hl => match us, hl with | [_], _ => rfl
  have b2 := FunD.bindsN (ps := ["frame", "total"]) F2 fun _ _ _ _ _ _ us hl => match us, hl with | [_, _], _ => rfl
  have b3 := FunD.bindsN (ps := ["frame", "sorts"]) F3 fun _ _ _ _ _ _ us hl => match us, hl with | [_, _], _ => rfl
  have G1 : FnOk P w K mg base CX0 1 _ d1 ["self"] (spBF K) := ok_bf F1 Y
  have G2 : FnOk P w K mg base CX0 4 _ d2 ["frame", "total"] (spLT K) := ok_ledto F2 Y
  have G3 : FnOk P w K mg base CX0 5 _ d3 ["frame", "sorts"] (spMst K) := ok_mst F3 Y
  refine okD F scMd (fun vs H Q E h => ?_) (fun cdv A outer s H vs Q E hr h => ?_)
  · obtain ⟨x, a, fr, w, n, f, xs, ls, ts, rfl, _⟩ := h
    rfl
  · have nd := scMd.nd
    have hr1 : Room 1 _ := hr.mono (by decide)
    have hr4 : Room 4 _ := hr.mono (by decide)
    refine ⟨_, pss_cons (ps_set (i := 2) nd rfl (Or.inl rfl) (pe_meth0 (pv 0) Y.cBook Y.mBook_Frame G1 hr1 b1 .nil pass0))
      (pss_cons (ps_par (i := 3) (j := 4) (by rfl) nd rfl rfl (by decide) rfl rfl (pa_cons (pe_callTy call_list_of (by rfl) Y.bList boot_list (pa_cons (pe_ix ix_tup (pv 1) pe_int (fun _ _ => rfl)) pa_nil)) (pa_cons (pe_callTy call_list_of (by rfl) Y.bList boot_list (pa_cons (pe_ix ix_tup (pv 1) pe_int (fun _ _ => rfl)) pa_nil)) pa_nil)) (by rfl))
      (pss_cons (ps_for PassesOwn.never rfl (pi_list (pe_call G3 hr (by rfl) Y.gMadeSteps F3.kp b3 .nil pass0 (pa_cons (pv 2) (pa_cons (pv 3) pa_nil)))) (pg_tup rfl (pgs_cons (pg_name (i := 5) nd rfl (Or.inl rfl)) (pgs_cons (pg_name (i := 6) nd rfl (Or.inl rfl)) pgs_nil)))
        (pss_cons (ps_asg (pv 6) (pg_tup rfl (pgs_cons (pg_name (i := 7) nd rfl (Or.inl rfl)) (pgs_cons (pg_name (i := 8) nd rfl (Or.inl rfl)) pgs_nil))))
        (pss_cons (ps_set (i := 9) nd rfl (Or.inl rfl) (pe_callB call_len_seq (by rfl) Y.bLen PySem.boot_len (pa_cons (pv 3) pa_nil)))
        (pss_cons (ps_asg (pe_ifExp (pt_cmpR op_eq (pv 8) pe_str (nomark _)) (pe_tup (pa_cons (pv 5) (pa_cons (pv 9) pa_nil))) (pe_tup (pa_cons (pv 9) (pa_cons (pv 5) pa_nil)))) (pg_tup rfl (pgs_cons (pg_name (i := 10) nd rfl (Or.inl rfl)) (pgs_cons (pg_name (i := 11) nd rfl (Or.inl rfl)) pgs_nil))))
        (pss_cons (ps_expr (pe_bm PySem.F.plainAttrs_list PySem.F.slot_list_append PySem.F.type_list_append mt_append (pv 4) (pa_cons (pe_tup (pa_cons (pe_tup (pa_cons pe_str (pa_cons (pv 7) pa_nil))) (pa_cons (pv 10) (pa_cons (pv 11) pa_nil)))) pa_nil)))
        (pss_one (ps_expr (pe_bm PySem.F.plainAttrs_list PySem.F.slot_list_append PySem.F.type_list_append mt_append (pv 3) (pa_cons (pe_call G2 hr4 (by rfl) Y.gLedTo F2.kp b2 .nil pass0 (pa_cons (pv 2) (pa_cons (pv 6) pa_nil))) pa_nil)))))))))
      (pss_one (ps_ret (pe_tup (pa_cons (pe_callTy call_tupA (by rfl) Y.bTuple (by decide +kernel) (pa_cons (pv 3) pa_nil)) (pa_cons (pe_callTy call_tupA (by rfl) Y.bTuple (by decide +kernel) (pa_cons (pv 4) pa_nil)) pa_nil))))))), ?_⟩
    obtain ⟨x, a, fr, w, n, f, xs, ls, ts, rfl, hB, hF, gd, ⟨s0, m0, ha, hs, ⟨rs0, hm, hR0⟩⟩, hin, hled, hG, lf, lm, k⟩ := h
    have I := hG.inv (ss := w.1) ⟨by simp, fun q hq => absurd hq List.not_mem_nil⟩
    have lw := hR0.len
    obtain ⟨dxb, Tb, hxb⟩ := id hB
    refine ⟨_, rfl, x, dxb, _, rfl, hxb, rfl, x, fr, rfl, hB, ?_⟩
    dsimp only [gName]
    refine ⟨_, rfl, a, _, 0, _, rfl, rfl, ha, rfl, s0, _, rfl, .inr hs, fun A0 hA0 => ?_⟩
    have sA := same_upd (o := .lst (w.1.map V.str)) hA0
    refine ⟨_, rfl, a, _, 1, _, rfl, rfl, sqt_same sA ha, rfl, m0, _, rfl, .inr (sqt_same sA hm), fun M0 hM0 => ⟨_, _, rfl, ?_⟩⟩
    have nMA : M0 ≠ A0 := fun z => by rw [z, upd_same] at hM0; cases hM0
    have nM : H M0 = none := none_of sA hM0
    have sM := same_upd (o := .lst (rs0.map V.ref)) hM0
    have eA0 : upd (upd H A0 (.lst (w.1.map V.str))) M0 (.lst (rs0.map V.ref)) A0 = some (.lst (w.1.map V.str)) := sM _ _ upd_same
    have eM0 : upd (upd H A0 (.lst (w.1.map V.str))) M0 (.lst (rs0.map V.ref)) M0 = some (.lst (rs0.map V.ref)) := upd_same
    have s0' := sA.trans sM
    obtain ⟨G0, eG⟩ : ∃ Z, Z = upd (upd H A0 (.lst (w.1.map V.str))) M0 (.lst (rs0.map V.ref)) := ⟨_, rfl⟩
    change tSeq _ _ _ [some (.ref x), some (.ref a), some (.ref fr), some (.ref A0), some (.ref M0), none, none, none, none, none, none, none] (upd (upd H A0 (.lst (w.1.map V.str))) M0 (.lst (rs0.map V.ref)))
    rw [← eG] at eA0 eM0 s0' ⊢
    clear eG sM hM0 sA
    refine ⟨_, rfl, _, rfl, fr, A0, w.1, n, f, xs, ls, ts, rfl, hF.same s0', gd, SqL.of eA0, hin, hled, hG, lf, fun L as G1 s1 hL eL hR => ?_⟩
    have nLA : L ≠ A0 := fun z => by rw [z, eA0] at hL; cases hL
    have nLM : L ≠ M0 := fun z => by rw [z, eM0] at hL; cases hL
    have la := hR.len
    have lI : f.1.length = w.1.length + f.2.length := by rw [I.e, List.length_append, List.length_map]
    refine ⟨L, rfl, ⟨_, SqL.of eL⟩, for_list (K := K) (a := L) (xs := as.map V.ref) (fun j σ G => ∃ (ms : List Addr) (v5 v6 v7 v8 v9 v10 v11 : Option V), σ = [some (.ref x), some (.ref a), some (.ref fr), some (.ref A0), some (.ref M0), v5, v6, v7, v8, v9, v10, v11] ∧ G L = some (.lst (as.map V.ref)) ∧ Rs (StAt K) G as f.2 ∧
      G A0 = some (.lst ((w.1 ++ (f.2.take j).map fun q => led ls q.2).map V.str)) ∧ G M0 = some (.lst (ms.map V.ref)) ∧ Rs (MkAt K) G ms (w.2 ++ smk w.1.length (f.2.take j)) ∧ Same H G)
      ⟨rs0, none, none, none, none, none, none, none, rfl, eL, hR, by rw [List.take_zero, List.map_nil, List.append_nil]; exact s1 _ _ eA0, s1 _ _ eM0, by rw [List.take_zero]; show Rs _ _ _ (w.2 ++ []); rw [List.append_nil]; exact hR0.xt mkAt_xp (.of (s0'.trans s1)), s0'.trans s1⟩ (fun j σ G _ q => by obtain ⟨_, _, _, _, _, _, _, _, _, q, _⟩ := q; exact SqL.of q) ?_ ?_⟩
    · rintro j v σ G hj ⟨ms, v5, v6, v7, v8, v9, v10, v11, rfl, eL2, hR2, eA, eM, hM, sm⟩
      obtain ⟨r, er, rfl⟩ := ref_at hj
      obtain ⟨q, eq, p, h1, h2⟩ := hR2.get er
      have lj := (List.getElem?_eq_some_iff.mp eq).1
      have tm := (I.k q (List.mem_of_getElem? eq)).1
      have lms := hM.len
      rw [List.length_append, smk_len, List.length_take, Nat.min_eq_left (by omega)] at lms
      refine ⟨r, _, rfl, h1, rfl, _, _, rfl, _, _, rfl, rfl, ?_⟩
      refine ⟨_, rfl, p, _, rfl, h2, rfl, _, _, rfl, _, _, rfl, rfl, ?_⟩
      refine ⟨_, rfl, A0, _, rfl, .inl (SqL.of eA), ?_⟩
      rw [List.length_map, List.length_append, List.length_map, List.length_take, Nat.min_eq_left (by omega)]
      dsimp only [gName]
      obtain ⟨F, eF⟩ : ∃ F, F = w.1.length + j := ⟨_, rfl⟩
      rw [← eF]
      refine seq_any (fun σ' G' => ∃ i2 j2 : Nat, mk1 F q = (.leaf "letter" [q.2.1], i2, j2) ∧ Same G G' ∧ σ' = [some (.ref x), some (.ref a), some (.ref fr), some (.ref A0), some (.ref M0), some (.int (q.1 : Int)), some (.ref p), some (.str q.2.1), some (.str q.2.2), some (.int (F : Int)), some (.int (i2 : Int)), some (.int (j2 : Int))]) ?_ ?_
      rotate_left
      · intro nx hnx
        refine ⟨_, rfl, rfl, _, rfl, ite2 (fun hc => ?_) (fun hc => ?_)⟩
        · refine ⟨_, rfl, _, rfl, szl (by show 2 ≤ 1000; decide), fun T hT => ⟨T, _, rfl, SqT.of upd_same, rfl, _, _, rfl, _, _, rfl, rfl, ?_⟩⟩
          exact hnx _ _ ⟨q.1, F, by unfold mk1; rw [if_pos (V.str.inj (of_decide_eq_true hc))], same_upd hT, rfl⟩
        · refine ⟨_, rfl, _, rfl, szl (by show 2 ≤ 1000; decide), fun T hT => ⟨T, _, rfl, SqT.of upd_same, rfl, _, _, rfl, _, _, rfl, rfl, ?_⟩⟩
          exact hnx _ _ ⟨F, q.1, by unfold mk1; rw [if_neg (fun z => hc (by rw [z]; exact decide_eq_true rfl))], same_upd hT, rfl⟩
      rintro σ G2 ⟨i2, j2, emk, s2, rfl⟩
      refine ⟨_, rfl, .inl ⟨rfl, _, SqL.of (s2 _ _ eM)⟩, _, rfl, szl (by show 2 ≤ 1000; decide), fun T1 hT1 => ⟨_, rfl, _, rfl, szl (by show 3 ≤ 1000; decide), fun T2 hT2 => ?_⟩⟩
      have s3 := same_upd (o := .tup [V.str "letter", V.str q.2.1]) hT1
      have s4 := same_upd (o := .tup [V.ref T1, V.int (i2 : Int), V.int (j2 : Int)]) hT2
      have s24 := s2.trans (s3.trans s4)
      have eM4 := s24 _ _ eM
      refine ⟨M0, _, _, rfl, rfl, eM4, by rw [List.length_map]; exact big16 (by omega), ?_⟩
      have nA : A0 ≠ M0 := fun z => nMA z.symm
      have xt5 := (XT.of s24).trans (.put (o := .lst (ms.map V.ref ++ [.ref T2])) eM4)
      have eA5 := (upd_ne nA (o := .lst (ms.map V.ref ++ [.ref T2]))).trans (s24 _ _ eA)
      have eL5 := (upd_ne nLM (o := .lst (ms.map V.ref ++ [.ref T2]))).trans (s24 _ _ eL2)
      have sm5 := same_put nM (o := .lst (ms.map V.ref ++ [.ref T2])) (sm.trans s24)
      have eM5 : upd (upd (upd G2 T1 (.tup [V.str "letter", V.str q.2.1])) T2 (.tup [V.ref T1, V.int (i2 : Int), V.int (j2 : Int)])) M0 (.lst (ms.map V.ref ++ [.ref T2])) M0 = some (.lst ((ms ++ [T2]).map V.ref)) := by rw [upd_same, List.map_append]; rfl
      have hM5 : Rs (MkAt K) (upd (upd (upd G2 T1 (.tup [V.str "letter", V.str q.2.1])) T2 (.tup [V.ref T1, V.int (i2 : Int), V.int (j2 : Int)])) M0 (.lst (ms.map V.ref ++ [.ref T2]))) (ms ++ [T2]) (w.2 ++ smk w.1.length (f.2.take (j + 1))) := by
        rw [List.take_add_one, eq, show (some q).toList = [q] from rfl, smk_snoc, List.length_take, Nat.min_eq_left (by omega), ← eF, emk, ← List.append_assoc]
        exact (hM.xt mkAt_xp xt5).app (.one (show MkAt K _ T2 (.leaf "letter" [q.2.1], i2, j2) from ⟨T1, (XT.put eM4).sqt (SqT.of upd_same), (XT.put eM4).sqt (sqt_same s4 (SqT.of upd_same))⟩))
      have hB5 := xt5.sqt h2
      have hR5 := hR2.xt stAt_xp xt5
      obtain ⟨G5, e5⟩ : ∃ Z, Z = upd (upd (upd G2 T1 (.tup [V.str "letter", V.str q.2.1])) T2 (.tup [V.ref T1, V.int (i2 : Int), V.int (j2 : Int)])) M0 (.lst (ms.map V.ref ++ [.ref T2])) := ⟨_, rfl⟩
      dsimp only [gName]
      change tDrop _ _ [some (.ref x), some (.ref a), some (.ref fr), some (.ref A0), some (.ref M0), some (.int (q.1 : Int)), some (.ref p), some (.str q.2.1), some (.str q.2.2), some (.int (F : Int)), some (.int (i2 : Int)), some (.int (j2 : Int))] (upd (upd (upd G2 T1 (.tup [V.str "letter", V.str q.2.1])) T2 (.tup [V.ref T1, V.int (i2 : Int), V.int (j2 : Int)])) M0 (.lst (ms.map V.ref ++ [.ref T2])))
      rw [← e5] at eA5 eL5 sm5 eM5 hM5 hB5 hR5 ⊢
      clear e5 xt5 eM4 s24 s4 s3 hT2 hT1 s2 hM eM eA hR2 eL2
      refine ⟨_, rfl, .inl ⟨rfl, _, SqL.of eA5⟩, _, rfl, _, rfl, fr, p, q.2, xs, ls, ts, rfl, hF.same sm5, gd, tm, hB5, A0, _, _, rfl, rfl, eA5, by rw [List.length_map, List.length_append, List.length_map, List.length_take]; exact big16 (by omega), ms ++ [T2], _, _, _, _, _, _, _, rfl, (upd_ne nLA).trans eL5, hR5.xt stAt_xp (.put eA5), ?_, (upd_ne nMA).trans eM5, hM5.xt mkAt_xp (.put eA5), same_put hA0 sm5⟩
      rw [upd_same, List.take_add_one, eq]
      simp
    · rintro σ G ⟨ms, v5, v6, v7, v8, v9, v10, v11, rfl, eL2, hR2, eA, eM, hM, sm⟩
      rw [List.length_map, la, List.take_length] at eA hM
      rw [← I.e] at eA
      refine ⟨_, rfl, A0, _, rfl, .inl (SqL.of eA), fun T1 G1 s1 h1 => ⟨_, rfl, M0, _, rfl, .inl (SqL.of (s1 _ _ eM)), fun T2 G2 s2 h2 => ⟨szl (by show 2 ≤ 1000; decide), fun T hT => ?_⟩⟩⟩
      have s3 := same_upd (o := .tup [V.ref T1, V.ref T2]) hT
      exact k T _ (sm.trans (s1.trans (s2.trans s3))) ⟨T1, T2, SqT.of upd_same, sqt_same (s2.trans s3) h1, ms, sqt_same s3 h2, hM.xt mkAt_xp (.of (s1.trans (s2.trans s3)))⟩
end
end K43

namespace K43
open PySem PySem.Spec PyProof.Rows L2 Ow Xv
/-! ### the numbers of parts; the part at a path -/
def numB : V → Nat → Bool
  | .int i, n => decide (0 ≤ i) && decide (i < (n : Int))
  | _, _ => false
/-- what may stand in a path -/
inductive Elt (K : PySem.W.Frag) (H : Hp) : V → Prop
  | int (i : Int) : Elt K H (.int i)
  | bl (b : Bool) : Elt K H (.bl b)
  | non : Elt K H .non
  | str (s : Str) : Elt K H (.str s)
  | tup {a : Addr} {xs : List V} (h : SqT K H a xs) : Elt K H (.ref a)
theorem Elt.same {K : PySem.W.Frag} {H H' : Hp} {x : V} (s : Same H H') : Elt K H x → Elt K H' x
  | .int i => .int i
  | .bl b => .bl b
  | .non => .non
  | .str x => .str x
  | .tup h => .tup (sqt_same s h)
theorem sqt_ty0 {K : PySem.W.Frag} {H : Hp} {a : Addr} {xs : List V} (h : SqT K H a xs) : TyX K H (.ref a) (.type "tuple") := by
  rcases h with (h | ⟨o, h⟩) | ⟨o, its, n, h, c, _⟩
  · exact .base (.tup h)
  · exact .fTuple h
  · exact .kTuple h c
/-- its type, and what isinstance tells of it -/
theorem Elt.ty {K : PySem.W.Frag} {H : Hp} {x : V} : Elt K H x → ∃ (T : String) (i b : Bool), TyX K H x (.type T) ∧ kitB T "int" = some i ∧ kitB T "bool" = some b ∧ ((i = true ∧ b = false ∧ ∃ j, x = .int j) ∨ ((i = false ∨ b = true) ∧ ∀ n, numB x n = false))
  | .int j => ⟨"int", true, false, .base (.int j), by decide +kernel, by decide +kernel, .inl ⟨rfl, rfl, j, rfl⟩⟩
  | .bl b => ⟨"bool", true, true, .base (.bl b), by decide +kernel, by decide +kernel, .inr ⟨.inr rfl, fun _ => rfl⟩⟩
  | .non => ⟨"NoneType", false, false, .base .non, by decide +kernel, by decide +kernel, .inr ⟨.inl rfl, fun _ => rfl⟩⟩
  | .str s => ⟨"str", false, false, .base (.str s), by decide +kernel, by decide +kernel, .inr ⟨.inl rfl, fun _ => rfl⟩⟩
  | .tup h => ⟨"tuple", false, false, sqt_ty0 h, by decide +kernel, by decide +kernel, .inr ⟨.inl rfl, fun _ => rfl⟩⟩
abbrev NNB : List Str := ["value", "limit"]
theorem scNB : FnScope NNB ["value", "limit"] (defScope sIsNumberBelow) := ⟨rfl, rfl, rfl, by decide +kernel, rfl, by decide +kernel, by decide +kernel⟩
def spNB (K : PySem.W.Frag) : Sp := fun vs H Q _ => ∃ (x : V) (n : Nat), vs = [x, .int (n : Int)] ∧ Elt K H x ∧ Q (.bl (numB x n)) H
section
variable {P : Program} {w : World} {K : PySem.W.Frag} {mg : Str → Option Value} {base : Heap} {f : Addr} {fd : FuncData}
theorem ok_nb (F : FnP K "is_number_below" sIsNumberBelow f fd) (Y : Fx w K mg) : FnOk P w K mg base CX0 1 f fd ["value", "limit"] (spNB K) := by
  refine okD F scNB (fun vs H Q E h => ?_) (fun cdv A outer s H vs Q E hr h => ?_)
  · obtain ⟨x, n, rfl, _⟩ := h
    rfl
  · refine ⟨_, pss_one (ps_ret (pe_and (pe_callB call_isi (by rfl) Y.bIsinstance boot_isinstance (pa_cons (pv 0) (pa_cons (pe_bltn (v := .ty "int") (u := .type "int") (by rfl) Y.bInt (by decide +kernel) rfl) pa_nil)))
      (pe_and (pe_not (pe_callB call_isi (by rfl) Y.bIsinstance boot_isinstance (pa_cons (pv 0) (pa_cons (pe_bltn (v := .ty "bool") (u := .type "bool") (by rfl) Y.bBool (by decide +kernel) rfl) pa_nil))))
      (pe_one (pe_chain op_le op_lt pe_int (pv 0) (pv 1)))))), ?_⟩
    obtain ⟨x, n, rfl, hx, k⟩ := h
    obtain ⟨T, i, b, ht, ei, eb, hc⟩ := hx.ty
    refine ⟨_, rfl, _, _, _, _, i, rfl, .ty _, ht, kit_ty ei, ?_⟩
    refine ⟨_, rfl, ite2 (fun hi => ?_) (fun hi => ?_)⟩
    · refine ⟨_, rfl, _, _, _, _, b, rfl, .ty _, ht, kit_ty eb, _, rfl, _, rfl, ite2 (fun hb => ?_) (fun hb => ?_)⟩
      · rcases hc with ⟨_, rfl, j, rfl⟩ | ⟨z, z2⟩
        · refine ⟨_, rfl, _, _, rfl, rfl, _, rfl, ite2 (fun h0 => ⟨_, rfl, _, _, rfl, rfl, ?_⟩) (fun h0 => ?_)⟩
          · rw [show numB (V.int j) n = (decide (0 ≤ j) && decide (j < (n : Int))) from rfl, h0, Bool.true_and] at k
            exact k
          · rw [show numB (V.int j) n = (decide (0 ≤ j) && decide (j < (n : Int))) from rfl, Bool.eq_false_iff.mpr h0, Bool.false_and] at k
            exact k
        · exfalso
          rcases z with z | z
          · rw [z] at hi; cases hi
          · rw [z] at hb; cases hb
      · rcases hc with ⟨_, rfl, _⟩ | ⟨_, z⟩
        · exact absurd rfl hb
        · rw [z n] at k
          exact k
    · rcases hc with ⟨z, _⟩ | ⟨_, z⟩
      · exact absurd z hi
      · rw [z n] at k
        exact k
end
/-! ### ways told, ways judged -/
theorem scWy : FnScope ["frame", "term"] ["frame", "term"] (defScope sWays) := ⟨rfl, rfl, rfl, by decide +kernel, rfl, by decide +kernel, by decide +kernel⟩
def spWays (K : PySem.W.Frag) : Sp := fun vs H Q _ => ∃ (x a : Addr) (xs : List Str) (ls : List Lt) (t : Tm) (ex ey : Str), vs = [.ref x, .ref a] ∧ FrmA K H x xs ls ∧ FrOk xs ls ∧ TmAt K H a t ∧ Ty xs ls t ex ey ∧ Short t ∧ t.sz ≤ 50 ∧ cnt t ≤ 100 ∧ ∀ (L : Addr) (H' : Hp), Same H H' → H L = none → WysL K H' L (wys ls t) → Q (.ref L) H'
abbrev NIM : List Str := ["frame", "sorts", "value", "term", "i", "j", "ends"]
theorem scIM : FnScope NIM ["frame", "sorts", "value"] (defScope sIsMark) := ⟨rfl, rfl, rfl, by decide +kernel, rfl, by decide +kernel, by decide +kernel⟩
def spIM (K : PySem.W.Frag) : Sp := fun vs H Q _ => ∃ (x s r : Addr) (xs : List Str) (ls : List Lt) (ss : List Str) (m : Mk2), vs = [.ref x, .ref s, .ref r] ∧ FrmA K H x xs ls ∧ FrOk xs ls ∧ SqT K H s (ss.map V.str) ∧ ss.length ≤ 4000 ∧ MkAt K H r m ∧ MkOk xs ls ss m ∧ ∀ H', Same H H' → Q (.bl true) H'
abbrev NIW : List Str := ["frame", "value", "sorts", "marks", "sort", "mark"]
theorem scIW : FnScope NIW ["frame", "value"] (defScope sIsWay) := ⟨rfl, rfl, rfl, by decide +kernel, rfl, by decide +kernel, by decide +kernel⟩
def spIWy (K : PySem.W.Frag) : Sp := fun vs H Q _ => ∃ (x a : Addr) (xs : List Str) (ls : List Lt) (w : Wy), vs = [.ref x, .ref a] ∧ FrmA K H x xs ls ∧ FrOk xs ls ∧ WyAt K H a w ∧ WyG xs ls w ∧ w.1.length ≤ 4000 ∧ w.2.length ≤ 4000 ∧ ∀ H', Same H H' → Q (.bl true) H'
theorem allT {n : Nat} : (List.replicate n true).all id = true := by simp
section
variable {P : Program} {w : World} {K : PySem.W.Frag} {mg : Str → Option Value} {base : Heap} {f : Addr} {fd : FuncData}
theorem ok_ways (F : FnP K "ways" sWays f fd) (Y : Fx w K mg) : FnOk P w K mg base CX0 67 f fd ["frame", "term"] (spWays K) := by
  obtain ⟨dE, FE⟩ := Y.dEndsOf
  obtain ⟨dS, FS⟩ := Y.dIsShort
  obtain ⟨dW, FW⟩ := Y.dUWays
  have bE := FunD.bindsN (ps := ["frame", "term"]) FE fun _ _ _ _ _ _ us hl => match us, hl with | [_, _], _ => rfl
  have bS := FunD.bindsN (ps := ["term"]) FS fun _ _ _ _ _ _ us hl => match us, hl with | [_], _ => rfl
  have bW := FunD.bindsN (ps := ["frame", "term"]) FW fun _ _ _ _ _ _ us hl => match us, hl with | [_, _], _ => rfl
  have GE : FnOk P w K mg base (L2.CX P w) 6 _ dE ["frame", "term"] (spEF K) := ok_ef FE Y
  have GS : FnOk P w K mg base CX0 8 _ dS ["term"] (spBo K (fun t => keptB t && noneOf NSh t)) := ok_is FS Y
  have GW : FnOk P w K mg base CX0 66 _ dW ["frame", "term"] (spWs K 60) := ok_ws FW Y 60
  refine okD F scWy (fun vs H Q E h => ?_) (fun cdv A outer s H vs Q E hr h => ?_)
  · obtain ⟨x, a, xs, ls, t, ex, ey, rfl, _⟩ := h
    rfl
  · have nd := scWy.nd
    have hr6 : Room 6 _ := hr.mono (by decide)
    have hr8 : Room 8 _ := hr.mono (by decide)
    refine ⟨_, pss_cons (ps_expr (pe_call GE hr6 (by rfl) Y.gEndsOf FE.kp bE .nil passX (pa_cons (pv 0) (pa_cons (pv 1) pa_nil))))
      (pss_cons (ps_ifN (pt_not (pt_val (pe_call GS hr8 (by rfl) Y.gIsShort FS.kp bS .nil pass0 (pa_cons (pv 1) pa_nil)))) pss_nil)
      (pss_one (ps_ret (pe_call GW hr (by rfl) Y.gUWays FW.kp bW .nil pass0 (pa_cons (pv 0) (pa_cons (pv 1) pa_nil)))))), ?_⟩
    obtain ⟨x, a, xs, ls, t, ex, ey, rfl, hF, ok, ha, hty, hsh, z6, c1, k⟩ := h
    have rt := Ty.rt ok hty
    obtain ⟨k1, k2⟩ := short_kept hsh rt
    have kk : (fun t => keptB t && noneOf NSh t) t = true := by show (keptB t && noneOf NSh t) = true; rw [k1, k2]; rfl
    refine ⟨_, rfl, _, rfl, ?_⟩
    dsimp only [tNil, List.append_nil]
    refine ef_right hF ok ha hty (by omega) fun T H1 s1 _ => ?_
    refine ⟨_, rfl, a, t, rfl, ha.same s1, rt, by omega, fun H2 s2 => ⟨_, rfl, ?_⟩⟩
    rw [kk]
    refine ⟨rfl, ?_⟩
    have s12 := s1.trans s2
    exact ⟨_, rfl, _, rfl, x, a, xs, ls, t, ex, ey, rfl, hF.same s12, ok, ha.same s12, hty, hsh, by omega, z6, c1, fun L H3 s3 hL hW => k L H3 (s12.trans s3) (none_of s12 hL) hW⟩
theorem ok_im (F : FnP K "_is_mark" sIsMark f fd) (Y : Fx w K mg) : FnOk P w K mg base CX0 8 f fd ["frame", "sorts", "value"] (spIM K) := by
  obtain ⟨dE, FE⟩ := Y.dEndsOf
  obtain ⟨dB, FB⟩ := Y.dIsNumberBelow
  obtain ⟨dF, FF⟩ := Y.dIsFlat
  have bE := FunD.bindsN (ps := ["frame", "term"]) FE fun _ _ _ _ _ _ us hl => match us, hl with | [_, _], _ => rfl
  have bB := FunD.bindsN (ps := ["value", "limit"]) FB fun _ _ _ _ _ _ us hl => match us, hl with | [_, _], _ => rfl
  have bF := FunD.bindsN (ps := ["term"]) FF fun _ _ _ _ _ _ us hl => match us, hl with | [_], _ => rfl
  have GE : FnOk P w K mg base (L2.CX P w) 6 _ dE ["frame", "term"] (spEF K) := ok_ef FE Y
  have GB : FnOk P w K mg base CX0 1 _ dB ["value", "limit"] (spNB K) := ok_nb FB Y
  have GF : FnOk P w K mg base CX0 6 _ dF ["term"] (spBo K (noneOf NF)) := ok_if FF Y
  refine okD F scIM (fun vs H Q E h => ?_) (fun cdv A outer s H vs Q E hr h => ?_)
  · obtain ⟨x, s0, r, xs, ls, ss, m, rfl, _⟩ := h
    rfl
  · have nd := scIM.nd
    have hu64 := hu64_of hr
    have hr6 : Room 6 _ := hr.mono (by decide)
    have hr1 : Room 1 _ := hr.mono (by decide)
    refine ⟨_, pss_cons (ps_if (pw_or (pt_not (pt_val (pe_callB call_isi (by rfl) Y.bIsinstance boot_isinstance (pa_cons (pv 2) (pa_cons (pe_bltn (v := .ty "tuple") (u := .type "tuple") (by rfl) Y.bTuple (by decide +kernel) rfl) pa_nil))))) (pw_or1 (pt_cmpR op_ne (pe_callB call_len_seq (by rfl) Y.bLen PySem.boot_len (pa_cons (pv 2) pa_nil)) pe_int (nomark _)))).pt (pss_one (ps_ret pe_bl)) pss_nil)
      (pss_cons (ps_asg (pv 2) (pg_tup rfl (pgs_cons (pg_name (i := 3) nd rfl (Or.inl rfl)) (pgs_cons (pg_name (i := 4) nd rfl (Or.inl rfl)) (pgs_cons (pg_name (i := 5) nd rfl (Or.inl rfl)) pgs_nil)))))
      (pss_cons (ps_if (pw_or (pt_not (pt_val (pe_call GB hr1 (by rfl) Y.gIsNumberBelow FB.kp bB .nil pass0 (pa_cons (pv 4) (pa_cons (pe_callB call_len_seq (by rfl) Y.bLen PySem.boot_len (pa_cons (pv 1) pa_nil)) pa_nil)))))
          (pw_or1 (pt_not (pt_val (pe_call GB hr1 (by rfl) Y.gIsNumberBelow FB.kp bB .nil pass0 (pa_cons (pv 5) (pa_cons (pe_callB call_len_seq (by rfl) Y.bLen PySem.boot_len (pa_cons (pv 1) pa_nil)) pa_nil))))))).pt (pss_one (ps_ret pe_bl)) pss_nil)
      (pss_cons (ps_try_thru0 (pss_one (ps_set (i := 6) nd rfl (Or.inl rfl) (pe_call GE hr6 (by rfl) Y.gEndsOf FE.kp bE .nil passX (pa_cons (pv 0) (pa_cons (pv 3) pa_nil))))))
      (pss_one (ps_ret (pe_and (pe_call GF hr6 (by rfl) Y.gIsFlat FF.kp bF .nil pass0 (pa_cons (pv 3) pa_nil)) (pe_one (pe_cmpR (op_eqD hu64) (pv 6) (pe_tup (pa_cons (pe_ix ix_tup (pv 1) (pv 4) (fun _ _ => rfl)) (pa_cons (pe_ix ix_tup (pv 1) (pv 5) (fun _ _ => rfl)) pa_nil))) (nomark _))))))))), ?_⟩
    obtain ⟨x, s0, r, xs, ls, ss, ⟨t, i, j⟩, rfl, hF, ok, hs, ls4, ⟨u, hr1, hu⟩, ⟨a, b, h1, h2, hty, fl, z6⟩, k⟩ := h
    replace z6 : t.sz ≤ 50 := z6
    replace hu : TmAt K H u t := hu
    replace fl : FlT t := fl
    replace h1 : ss[i]? = some a := h1
    replace h2 : ss[j]? = some b := h2
    replace hty : Ty xs ls t a b := hty
    have rt := Ty.rt ok hty
    have li := (List.getElem?_eq_some_iff.mp h1).1
    have lj := (List.getElem?_eq_some_iff.mp h2).1
    obtain ⟨ee, _⟩ := Ty.eL (fun q hq => find_nd ok.nl.nd hq) hty
    have iee := eL_in ok (Ty.fm0 hty)
    rw [ee] at iee
    have nb : ∀ i : Nat, i < ss.length → numB (.int (i : Int)) ss.length = true := fun i l => by
      show (decide (0 ≤ (i : Int)) && decide ((i : Int) < (ss.length : Int))) = true
      rw [decide_eq_true (by omega), decide_eq_true (by omega)]
      rfl
    refine ⟨_, rfl, _, _, _, _, true, rfl, .ty _, sqt_tyX hr1, kit_ty (by decide +kernel : kitB "tuple" "tuple" = some true), _, rfl, ?_⟩
    refine iteF ⟨_, rfl, r, _, rfl, .inr hr1, rfl, _, rfl, ?_⟩
    refine iteF ?_
    refine ⟨_, rfl, r, _, rfl, hr1, rfl, _, _, rfl, _, _, rfl, _, _, rfl, rfl, ?_⟩
    dsimp only
    refine ⟨_, rfl, _, rfl, s0, _, rfl, .inr hs, ?_⟩
    rw [List.length_map]
    refine ⟨.int (i : Int), ss.length, rfl, .int _, _, rfl, ?_⟩
    rw [nb i li]
    refine iteF ⟨_, rfl, _, rfl, s0, _, rfl, .inr hs, ?_⟩
    rw [List.length_map]
    refine ⟨.int (j : Int), ss.length, rfl, .int _, _, rfl, ?_⟩
    rw [nb j lj]
    refine iteF ⟨_, rfl, _, rfl, ?_⟩
    dsimp only [tNil, List.append_nil]
    refine ef_right hF ok hu hty (by omega) fun T H1 s1 hT => ?_
    rw [ee] at hT
    refine ⟨_, rfl, u, t, rfl, hu.same s1, rt, by omega, fun H2 s2 => ⟨_, rfl, ?_⟩⟩
    rw [none_fB rt, (fB_iff t).mpr fl]
    have s12 := s1.trans s2
    refine iteT ⟨_, rfl, _, rfl, _, rfl, s0, _, _, _, rfl, rfl, sqt_same s12 hs, str_atI h1, _, rfl, _, rfl, s0, _, _, _, rfl, rfl, sqt_same s12 hs, str_atI h2, szl (by show 2 ≤ 1000; decide), fun T2 hT2 => ?_⟩
    have s3 := same_upd (o := .tup [V.str a, V.str b]) hT2
    refine eq_ends (ok.nx.w _ iee.1) (ok.nx.w _ iee.2) (ok.nx.w _ iee.1) (ok.nx.w _ iee.2) (sqt_same (s2.trans s3) hT) (SqT.of upd_same) ?_
    rw [decide_eq_true ⟨rfl, rfl⟩]
    exact k _ (s12.trans s3)
theorem ok_iwy (F : FnP K "is_way" sIsWay f fd) (Y : Fx w K mg) : FnOk P w K mg base CX0 9 f fd ["frame", "value"] (spIWy K) := by
  obtain ⟨d1, F1⟩ := Y.dFrame_HasSort
  obtain ⟨d2, F2⟩ := Y.dIsMark
  have b1 := FunD.bindsN (ps := ["self", "value"]) F1 fun _ _ _ _ _ _ us hl => match us, hl with | [_, _], _ => rfl
  have b2 := FunD.bindsN (ps := ["frame", "sorts", "value"]) F2 fun _ _ _ _ _ _ us hl => match us, hl with | [_, _, _], _ => rfl
  have G1 : FnOk P w K mg base CX0 1 _ d1 ["self", "value"] (spHS K) := ok_hs F1 Y
  have G2 : FnOk P w K mg base CX0 8 _ d2 ["frame", "sorts", "value"] (spIM K) := ok_im F2 Y
  refine okD F scIW (fun vs H Q E h => ?_) (fun cdv A outer s H vs Q E hr h => ?_)
  · obtain ⟨x, a, xs, ls, w, rfl, _⟩ := h
    rfl
  · have nd := scIW.nd
    have hr1 : Room 1 _ := hr.mono (by decide)
    refine ⟨_, pss_cons (ps_if (pw_or (pt_not (pt_val (pe_callB call_isi (by rfl) Y.bIsinstance boot_isinstance (pa_cons (pv 1) (pa_cons (pe_bltn (v := .ty "tuple") (u := .type "tuple") (by rfl) Y.bTuple (by decide +kernel) rfl) pa_nil))))) (pw_or1 (pt_cmpR op_ne (pe_callB call_len_seq (by rfl) Y.bLen PySem.boot_len (pa_cons (pv 1) pa_nil)) pe_int (nomark _)))).pt (pss_one (ps_ret pe_bl)) pss_nil)
      (pss_cons (ps_asg (pv 1) (pg_tup rfl (pgs_cons (pg_name (i := 2) nd rfl (Or.inr rfl)) (pgs_cons (pg_name (i := 3) nd rfl (Or.inl rfl)) pgs_nil))))
      (pss_cons (ps_if (pw_or (pt_not (pt_val (pe_callB call_isi (by rfl) Y.bIsinstance boot_isinstance (pa_cons (pv 2) (pa_cons (pe_bltn (v := .ty "tuple") (u := .type "tuple") (by rfl) Y.bTuple (by decide +kernel) rfl) pa_nil)))))
          (pw_or (pt_not (pt_val (pe_callB call_isi (by rfl) Y.bIsinstance boot_isinstance (pa_cons (pv 3) (pa_cons (pe_bltn (v := .ty "tuple") (u := .type "tuple") (by rfl) Y.bTuple (by decide +kernel) rfl) pa_nil))))) (pw_or1 (pt_cmpR op_lt (pe_callB call_len_seq (by rfl) Y.bLen PySem.boot_len (pa_cons (pv 2) pa_nil)) pe_int (nomark _))))).pt (pss_one (ps_ret pe_bl)) pss_nil)
      (pss_one (ps_ret (pe_and (pe_callB (cr_all rfl) (by rfl) Y.bAll (by decide +kernel) (pa_cons (pe_lc (own := [("sort", 4)]) (g := gName 4) (tt := tYes) (te := tMeth (CFrame K) "has_sort" (spHS K) [] E0 (tVar 0) (tCons (tVar 4) tNil)) rfl nd (pi_tup (pv 2)) (blkOk_by (N := NIW) (sc := defScope sIsWay) (by decide +kernel))
            (fun _ _ _ _ _ => pg_name (i := 4) nd rfl (Or.inl rfl)) (fun _ _ _ _ _ => pts_nil) (fun _ _ _ _ _ => pe_meth (pv 0) Y.cFrame Y.mFrame_HasSort G1 hr1 b1 .nil pass0 (pa_cons (pv 4) pa_nil))) pa_nil))
        (pe_one (pe_callB (cr_all rfl) (by rfl) Y.bAll (by decide +kernel) (pa_cons (pe_lc (own := [("mark", 5)]) (g := gName 5) (tt := tYes) (te := tCall (spIM K) [] E0 (tCons (tVar 0) (tCons (tVar 2) (tCons (tVar 5) tNil)))) rfl nd (pi_tup (pv 3)) (blkOk_by (N := NIW) (sc := defScope sIsWay) (by decide +kernel))
            (fun _ _ _ _ _ => pg_name (i := 5) nd rfl (Or.inl rfl)) (fun _ _ _ _ _ => pts_nil) (fun _ _ _ _ _ => pe_call G2 hr (by rfl) Y.gIsMark F2.kp b2 .nil pass0 (pa_cons (pv 0) (pa_cons (pv 2) (pa_cons (pv 5) pa_nil))))) pa_nil)))))))), ?_⟩
    obtain ⟨x, a, xs, ls, w, rfl, hF, ok, ⟨s0, m0, ha, hs, ⟨rs, hm, hR⟩⟩, wg, l1, l2, k⟩ := h
    have lr := hR.len
    obtain ⟨tz, hFz⟩ := id hF
    obtain ⟨dx, _, _, _, _, hx, _⟩ := id hFz
    have w2 := wg.two
    refine ⟨_, rfl, _, _, _, _, true, rfl, .ty _, sqt_tyX ha, kit_ty (by decide +kernel : kitB "tuple" "tuple" = some true), _, rfl, ?_⟩
    refine iteF ⟨_, rfl, a, _, rfl, .inr ha, rfl, _, rfl, ?_⟩
    refine iteF ?_
    refine ⟨_, rfl, a, _, rfl, ha, rfl, _, _, rfl, _, _, rfl, rfl, ?_⟩
    dsimp only
    refine ⟨_, rfl, _, _, _, _, true, rfl, .ty _, sqt_tyX hs, kit_ty (by decide +kernel : kitB "tuple" "tuple" = some true), _, rfl, ?_⟩
    refine iteF ⟨_, rfl, _, _, _, _, true, rfl, .ty _, sqt_tyX hm, kit_ty (by decide +kernel : kitB "tuple" "tuple" = some true), _, rfl, ?_⟩
    refine iteF ⟨_, rfl, s0, _, rfl, .inr hs, ?_⟩
    rw [List.length_map]
    refine ⟨_, _, rfl, rfl, _, rfl, ?_⟩
    rw [decide_eq_false (by omega)]
    refine iteF ?_
    refine ⟨_, rfl, s0, rfl, ⟨_, hs⟩, fun D hD => ?_⟩
    refine lc_tup (K := K) (a := s0) (xs := w.1.map V.str) (fun i G => G D = some (.lst ((List.replicate i true).map V.bl)) ∧ Same H G) ⟨upd_same, same_upd hD⟩ (fun i G _ q => sqt_same q.2 hs) ?_ ?_
    · rintro i v G hi ⟨e, sm⟩
      obtain ⟨z, ez, rfl⟩ := str_at hi
      have li := (List.getElem?_eq_some_iff.mp ez).1
      have zx := wg.inx z (List.mem_of_getElem? ez)
      refine ⟨rfl, _, rfl, x, dx, _, rfl, sm _ _ hx, rfl, _, rfl, x, .str z, .str z, xs, ls, tz, rfl, hFz.same sm, .str _, ?_⟩
      rw [isTx_str, decide_eq_true zx]
      refine ⟨_, e, by rw [List.length_map, List.length_replicate]; exact big16 (by omega), ?_, same_put hD sm⟩
      rw [upd_same, List.replicate_succ', List.map_append]
      rfl
    rintro G1 ⟨e1, s1⟩
    refine ⟨D, _, rfl, SqL.of e1, _, rfl, ?_⟩
    rw [allT]
    refine iteT ⟨_, rfl, m0, rfl, ⟨_, sqt_same s1 hm⟩, fun D2 hD2 => ?_⟩
    refine lc_tup (K := K) (a := m0) (xs := rs.map V.ref) (fun i G => G D2 = some (.lst ((List.replicate i true).map V.bl)) ∧ Same G1 G) ⟨upd_same, same_upd hD2⟩ (fun i G _ q => sqt_same (s1.trans q.2) hm) ?_ ?_
    · rintro i v G hi ⟨e, sm⟩
      obtain ⟨r, er, rfl⟩ := ref_at hi
      obtain ⟨m, em, hmk⟩ := hR.get er
      have li := (List.getElem?_eq_some_iff.mp em).1
      have sA := s1.trans sm
      refine ⟨rfl, _, rfl, _, rfl, _, rfl, x, s0, r, xs, ls, w.1, m, rfl, hF.same sA, ok, sqt_same sA hs, l1, mkAt_xp _ _ _ _ (.of sA) hmk, wg.mks m (List.mem_of_getElem? em), fun G2 s2 => ?_⟩
      refine ⟨_, s2 _ _ e, by rw [List.length_map, List.length_replicate]; exact big16 (by omega), ?_, same_put hD2 (sm.trans s2)⟩
      rw [upd_same, List.replicate_succ', List.map_append]
      rfl
    · rintro G2 ⟨e2, s2⟩
      refine ⟨D2, _, rfl, SqL.of e2, ?_⟩
      rw [allT]
      exact k G2 (s1.trans s2)
end
end K43

namespace K43
open PySem PySem.Spec PyProof.Rows L2 Ow Xv
/-! ### the law's own words of a term, flat or not -/
def rEqNL (K : PySem.W.Frag) : R2 := fun x y H Q => ∃ (a b : Addr) (xs : List V), x = .ref a ∧ y = .ref b ∧ SqL K H a xs ∧ SqL K H b [] ∧ Q (.bl xs.isEmpty) H
theorem op_eqNL {X : Cx} (hu : X.A.units < cLine) : OpR X (compareOp .Eq) (rEqNL X.K) := by
  intro pins s σ H x y v u Q I rx ry ⟨a, b, xs, e1, e2, h1, h2, q⟩
  subst e1 e2
  obtain rfl : v = Value.ref a := rx
  obtain rfl : u = Value.ref b := ry
  obtain ⟨its, rv, pl, _⟩ := I.list h1
  obtain ⟨jts, rw2, pl2, _⟩ := I.list h2
  cases rw2
  cases rv with
  | nil =>
    refine SeqAt.eq_listAt (items := #[]) (items2 := #[]) (e := fun _ => true) pl.isList pl2.isList rfl hu (fun j h1 h2 => absurd h2 (Nat.not_lt_zero j)) ?_
    exact ⟨.bl _, H, I, rfl, q⟩
  | cons r rs =>
    refine SeqAt.eq_list_lengthsAt pl.isList pl2.isList (by simp) hu ?_
    exact ⟨.bl _, H, I, rfl, q⟩
abbrev NWd : List Str := ["_law_term_here", "_law_found", "_law_wait", "_law_here"]
theorem scWd : FnScope NWd ["_law_term_here"] (defScope sLawWords) := ⟨rfl, rfl, rfl, by decide +kernel, rfl, by decide +kernel, by decide +kernel⟩
def nfB (w : Str) : Bool := !decide (w ∈ NF)
def spWd (K : PySem.W.Frag) : Sp := fun vs H Q _ => ∃ (a : Addr) (t : Tm), vs = [.ref a] ∧ TmAt K H a t ∧ Rt t ∧ t.sz ≤ 400 ∧ ∀ (L : Addr) (ws : List Str) (H' : Hp), Same H H' → H L = none → H' L = some (.lst (ws.map V.str)) → ws.all nfB = noneOf NF t → ws.length ≤ 400 → Q (.ref L) H'
abbrev NIf : List Str := ["_law_term_here", "_law_word"]
theorem scIf2 : FnScope NIf ["_law_term_here"] (defScope sLawIsFlat) := ⟨rfl, rfl, rfl, by decide +kernel, rfl, by decide +kernel, by decide +kernel⟩
def szs (ts : List Tm) : Nat := (ts.map Tm.sz).sum
theorem szs_app (a b : List Tm) : szs (a ++ b) = szs a + szs b := by simp [szs]
theorem noneOf_kids {t : Tm} (h : Rt t) : noneOf NF t = (nfB t.hd && t.kids.all (noneOf NF)) := by
  cases t with
  | leaf w ss => rw [noneOf_leaf]; show _ = (nfB w && true); rw [Bool.and_true]; rfl
  | one w t => rw [noneOf_one]; show _ = (nfB w && (noneOf NF t && true)); rw [Bool.and_true]; rfl
  | two w s t => rw [noneOf_two]; show _ = (nfB w && (noneOf NF s && (noneOf NF t && true))); rw [Bool.and_true]; rfl
theorem szs_kids (t : Tm) : 1 + szs t.kids = t.sz := by
  cases t with
  | leaf w ss => rfl
  | one w t => simp [szs, Tm.kids, Tm.sz]
  | two w s t => simp [szs, Tm.kids, Tm.sz]; omega
abbrev L5w : List Str := ["letter", "same", "other", "none", "all"]
theorem Rt.l5 {t : Tm} (h : Rt t) : (decide (t.hd ∈ L5w) = true ∧ t.kids = []) ∨ (decide (t.hd ∈ L5w) = false ∧ t.ss = []) := by
  cases t with
  | leaf w ss =>
    left
    refine ⟨?_, rfl⟩
    show decide (w ∈ L5w) = true
    rcases leafOk_ne h with rfl | rfl | rfl | rfl | rfl <;> decide +kernel
  | one w t =>
    right
    refine ⟨?_, rfl⟩
    show decide (w ∈ L5w) = false
    rcases h.1 with rfl | rfl | rfl | rfl <;> decide +kernel
  | two w s t =>
    right
    refine ⟨?_, rfl⟩
    show decide (w ∈ L5w) = false
    rcases h.1 with rfl | rfl | rfl <;> decide +kernel
theorem Tms.last {K : PySem.W.Frag} {H : Hp} {a : Addr} : ∀ {as : List Addr} {ts : List Tm}, Tms K H (as ++ [a]) ts → ∃ us t, ts = us ++ [t] ∧ Tms K H as us ∧ TmAt K H a t
  | [], _, .cons h g => by cases g; exact ⟨[], _, rfl, .nil, h⟩
  | b :: as, _, .cons h g => by
    obtain ⟨us, t, rfl, h1, h2⟩ := Tms.last g
    exact ⟨_ :: us, t, rfl, .cons h h1, h2⟩
theorem Tms.put {K : PySem.W.Frag} {H : Hp} {D : Addr} {l : List V} {o : HO} (e : H D = some (.lst l)) : ∀ {as : List Addr} {ts : List Tm}, Tms K H as ts → Tms K (upd H D o) as ts
  | _, _, .nil => .nil
  | _, _, .cons h g => .cons (h.put e) (g.put e)
section
variable {P : Program} {w : World} {K : PySem.W.Frag} {mg : Str → Option Value} {base : Heap} {f : Addr} {fd : FuncData}
theorem ok_wd (F : FnP K "_law_words" sLawWords f fd) (Y : Fx w K mg) : FnOk P w K mg base CX0 1 f fd ["_law_term_here"] (spWd K) := by
  refine okD F scWd (fun vs H Q E h => ?_) (fun cdv A outer s H vs Q E hr h => ?_)
  · obtain ⟨a, t, rfl, _⟩ := h
    rfl
  · have nd := scWd.nd
    have hu := hu_of hr
    refine ⟨_, pss_cons (ps_par (i := 1) (j := 2) (by rfl) nd rfl rfl (by decide) rfl rfl (pa_cons (pe_lst pa_nil) (pa_cons (pe_lst (pa_cons (pv 0) pa_nil)) pa_nil)) (by rfl))
      (pss_cons (ps_while PassesOwn.never (pt_cmpR (op_neNL (Nat.lt_of_succ_lt hu)) (pv 2) (pe_lst pa_nil) (nomark _))
        (pss_cons (ps_set (i := 3) nd rfl (Or.inl rfl) (pe_bm0 PySem.F.plainAttrs_list PySem.F.slot_list_pop PySem.F.type_list_pop mt_pop (pv 2)))
        (pss_cons (ps_expr (pe_bm PySem.F.plainAttrs_list PySem.F.slot_list_append PySem.F.type_list_append mt_append (pv 1) (pa_cons (pe_ix ix_tup (pv 3) pe_int (fun _ _ => rfl)) pa_nil)))
        (pss_one (ps_if (pt_cmpR op_notIn_seq (pe_ix ix_tup (pv 3) pe_int (fun _ _ => rfl)) (pe_lst (pa_cons pe_str (pa_cons pe_str (pa_cons pe_str (pa_cons pe_str (pa_cons pe_str pa_nil)))))) (by rfl))
          (pss_one (ps_set (i := 2) nd rfl (Or.inl rfl) (pe_op op_cat (pv 2) (pe_callTy call_list_of (by rfl) Y.bList boot_list (pa_cons (pe_slice sl_tupA (pv 3) (po_some pe_int) po_none) pa_nil))))) pss_nil)))))
      (pss_one (ps_ret (pv 1)))), ?_⟩
    obtain ⟨a, t, rfl, ha, rt, z4, k⟩ := h
    refine ⟨szl (by show 0 ≤ 1000; decide), fun Fd hF => ?_⟩
    have s0 := same_upd (o := .lst []) hF
    refine ⟨_, rfl, szl (by show 1 ≤ 1000; decide), fun W0 hW0 => ⟨_, _, rfl, ?_⟩⟩
    have nWF : W0 ≠ Fd := fun z => by rw [z, upd_same] at hW0; cases hW0
    have eF0 : upd (upd H Fd (.lst [])) W0 (.lst [.ref a]) Fd = some (.lst []) := (same_upd hW0) _ _ upd_same
    refine ⟨fun m σ G => ∃ (Wt : Addr) (us : List Addr) (ts : List Tm) (ws : List Str) (v3 : Option V), σ = [some (.ref a), some (.ref Fd), some (.ref Wt), v3] ∧ Wt ≠ Fd ∧ H Wt = none ∧ G Wt = some (.lst (us.map V.ref)) ∧ G Fd = some (.lst (ws.map V.str)) ∧ Tms K G us ts ∧ (∀ u ∈ ts, Rt u) ∧
      (ws.all nfB && ts.all (noneOf NF)) = noneOf NF t ∧ ws.length + szs ts ≤ t.sz ∧ m = szs ts ∧ Same H G,
      ⟨szs [t], W0, [a], [t], [], _, rfl, nWF, none_of s0 hW0, upd_same, eF0, .cons ((ha.same s0).same (same_upd hW0)) .nil, fun u hu => by rw [List.mem_singleton.mp hu]; exact rt, by simp, by simp [szs], rfl, s0.trans (same_upd hW0)⟩, ?_⟩
    clear eF0 nWF hW0 s0 W0
    rintro m σ G ⟨Wt, us, ts, ws, v3, rfl, nW, hWn, eW, eF, hT, hR, hall, hsz, rfl, sm⟩
    have ll := hT.len
    refine ⟨_, rfl, szl (by show 0 ≤ 1000; decide), fun N0 hN0 => ?_⟩
    have sN := same_upd (o := .lst []) hN0
    refine ⟨Wt, N0, _, rfl, rfl, SqL.of (sN _ _ eW), SqL.of upd_same, _, rfl, ?_⟩
    rcases List.eq_nil_or_concat us with rfl | ⟨us', r, rfl⟩
    · refine iteF ?_
      rw [List.length_eq_zero_iff.mp ll.symm, List.all_nil, Bool.and_true] at hall
      exact ⟨_, rfl, k Fd ws _ (sm.trans sN) hF (sN _ _ eF) hall (by omega)⟩
    · rw [List.concat_eq_append] at *
      have ne : (!((us' ++ [r]).map V.ref).isEmpty) = true := by simp
      rw [ne]
      refine iteT ?_
      obtain ⟨ts', u, rfl, hT', hu'⟩ := hT.last
      have hRu := hR u (List.mem_append_right _ List.mem_cons_self)
      have zk := szs_kids u
      rw [szs_app] at hsz
      rw [show szs [u] = u.sz by simp [szs]] at hsz
      rw [List.all_append, List.all_cons, List.all_nil, Bool.and_true, noneOf_kids hRu] at hall
      refine ⟨fun σ G => ∃ (Wt : Addr) (us : List Addr) (ts : List Tm) (ws : List Str) (v3 : Option V), σ = [some (.ref a), some (.ref Fd), some (.ref Wt), v3] ∧ Wt ≠ Fd ∧ H Wt = none ∧ G Wt = some (.lst (us.map V.ref)) ∧ G Fd = some (.lst (ws.map V.str)) ∧ Tms K G us ts ∧ (∀ u ∈ ts, Rt u) ∧
        (ws.all nfB && ts.all (noneOf NF)) = noneOf NF t ∧ ws.length + szs ts ≤ t.sz ∧ szs ts < szs (ts' ++ [u]) ∧ Same H G, fun σ' G' ⟨Wt, us, ts, ws, v3, a1, a2, a3, a4, a5, a6, a7, a8, a9, b1, b2⟩ => ⟨szs ts, b1, Wt, us, ts, ws, v3, a1, a2, a3, a4, a5, a6, a7, a8, a9, rfl, b2⟩, ?_⟩
      have szu : szs (ts' ++ [u]) = szs ts' + u.sz := by rw [szs_app]; simp [szs]
      obtain ⟨kds, hv, hK⟩ := hu'.view
      have eW1 := sN _ _ eW
      refine ⟨_, rfl, .inl ⟨rfl, _, SqL.of eW1⟩, Wt, _, .ref r, rfl, rfl, eW1, by rw [List.map_append, List.length_append]; simp, ?_⟩
      rw [List.map_append, show (us'.map V.ref ++ [r].map V.ref).dropLast = us'.map V.ref by simp]
      have xt1 := (XT.of sN).trans (.put (o := .lst (us'.map V.ref)) eW1)
      have hv1 := xt1.sqt hv
      have eF1 : upd (upd G N0 (.lst [])) Wt (.lst (us'.map V.ref)) Fd = some (.lst (ws.map V.str)) := (upd_ne (Ne.symm nW)).trans (sN _ _ eF)
      have eW2 : upd (upd G N0 (.lst [])) Wt (.lst (us'.map V.ref)) Wt = some (.lst (us'.map V.ref)) := upd_same
      have sm1 : Same H (upd (upd G N0 (.lst [])) Wt (.lst (us'.map V.ref))) := same_put hWn (sm.trans sN)
      have hT1 := (hT'.same sN).put (o := .lst (us'.map V.ref)) eW1
      have hK1 := (hK.same sN).put (o := .lst (us'.map V.ref)) eW1
      obtain ⟨G1, e1⟩ : ∃ Z, Z = upd (upd G N0 (.lst [])) Wt (.lst (us'.map V.ref)) := ⟨_, rfl⟩
      dsimp only [gName]
      change tSeq _ _ _ [some (.ref a), some (.ref Fd), some (.ref Wt), some (.ref r)] (upd (upd G N0 (.lst [])) Wt (.lst (us'.map V.ref)))
      rw [← e1] at hv1 eF1 eW2 sm1 hT1 hK1 ⊢
      clear e1 xt1 eW1 sN hN0 hT' hu' hK hv eW eF hT sm
      refine ⟨_, rfl, .inl ⟨rfl, _, SqL.of eF1⟩, _, rfl, r, _, 0, _, rfl, rfl, hv1, atI_0 _ _, Fd, _, _, rfl, rfl, eF1, by rw [List.length_map]; exact big16 (by omega), ?_⟩
      have eF2 : upd G1 Fd (.lst (ws.map V.str ++ [.str u.hd])) Fd = some (.lst ((ws ++ [u.hd]).map V.str)) := by rw [upd_same, List.map_append]; rfl
      have eW3 : upd G1 Fd (.lst (ws.map V.str ++ [.str u.hd])) Wt = some (.lst (us'.map V.ref)) := (upd_ne nW).trans eW2
      have hv2 := (XT.put (o := .lst (ws.map V.str ++ [.str u.hd])) eF1).sqt hv1
      have sm2 : Same H (upd G1 Fd (.lst (ws.map V.str ++ [.str u.hd]))) := same_put hF sm1
      have hT2 := hT1.put (o := .lst (ws.map V.str ++ [.str u.hd])) eF1
      have hK2 := hK1.put (o := .lst (ws.map V.str ++ [.str u.hd])) eF1
      obtain ⟨G2, e2⟩ : ∃ Z, Z = upd G1 Fd (.lst (ws.map V.str ++ [.str u.hd])) := ⟨_, rfl⟩
      dsimp only
      rw [← e2] at eF2 eW3 hv2 sm2 hT2 hK2 ⊢
      clear e2 hv1 eF1 eW2 sm1 hT1 hK1
      refine ⟨_, rfl, r, _, 0, _, rfl, rfl, hv2, atI_0 _ _, szl (by show 5 ≤ 1000; decide), fun l0 hl0 => ?_⟩
      have s3 := same_upd (o := .lst [V.str "letter", V.str "same", V.str "other", V.str "none", V.str "all"]) hl0
      refine ⟨l0, _, rfl, .inl (SqL.of upd_same), rfl, fl_strs L5w, _, rfl, ?_⟩
      rw [if_pos rfl, show inV (V.str u.hd) [V.str "letter", V.str "same", V.str "other", V.str "none", V.str "all"] = decide (u.hd ∈ L5w) from inV_strs u.hd L5w]
      have lw2 : (ws ++ [u.hd]).length = ws.length + 1 := by rw [List.length_append]; rfl
      have aw2 : (ws ++ [u.hd]).all nfB = (ws.all nfB && nfB u.hd) := by rw [List.all_append, List.all_cons, List.all_nil, Bool.and_true]
      rcases hRu.l5 with ⟨d1, d2⟩ | ⟨d1, d2⟩
      · rw [d1]
        rw [d2] at hall zk
        refine iteF ⟨Wt, us', ts', ws ++ [u.hd], _, rfl, nW, hWn, s3 _ _ eW3, s3 _ _ eF2, hT2.same s3, fun v hv => hR v (List.mem_append_left _ hv), ?_, by rw [lw2]; omega, by rw [szu]; omega, sm2.trans s3⟩
        rw [← hall, aw2, List.all_nil, Bool.and_true]
        cases ws.all nfB <;> cases nfB u.hd <;> cases ts'.all (noneOf NF) <;> rfl
      · rw [d1]
        rw [d2, List.map_nil, List.nil_append] at hv2
        refine iteT ⟨_, rfl, _, rfl, 1, rfl, slice_from (sqt_same s3 hv2) fun T G4 s4 hT4 => ?_⟩
        rw [cutV_tl] at hT4
        refine ⟨T, _, rfl, .inr hT4, fun l1 hl1 => ?_⟩
        have s5 := s4.trans (same_upd (o := .lst (kds.map V.ref)) hl1)
        have lk := hK2.len
        have lt := hT2.len
        have bz : ∀ l : List Tm, l.length ≤ szs l := fun l => by
          induction l with
          | nil => exact Nat.le_refl _
          | cons x l ih =>
            have : 1 ≤ x.sz := by cases x <;> simp only [Tm.sz] <;> omega
            simp only [szs, List.map_cons, List.sum_cons, List.length_cons] at ih ⊢
            omega
        have b1 := bz ts'
        have b2 := bz u.kids
        refine ⟨Wt, l1, _, _, rfl, rfl, s5 _ _ (s3 _ _ eW3), upd_same, by rw [List.length_map, List.length_map]; exact szl (by omega), fun W2 hW2 => ?_⟩
        have s6 := s3.trans (s5.trans (same_upd (o := .lst (us'.map V.ref ++ kds.map V.ref)) hW2))
        have nW2 : W2 ≠ Fd := fun z => by
          have q := (s3.trans s5) _ _ eF2
          rw [z, q] at hW2
          cases hW2
        refine ⟨W2, us' ++ kds, ts' ++ u.kids, ws ++ [u.hd], _, rfl, nW2, none_of (sm2.trans (s3.trans s5)) hW2, by rw [upd_same, List.map_append], s6 _ _ eF2, (hT2.same s6).app (hK2.same s6), fun v hv => ?_, ?_, by rw [lw2, szs_app]; omega, by rw [szu, szs_app]; omega, sm2.trans s6⟩
        · rcases List.mem_append.mp hv with q | q
          · exact hR v (List.mem_append_left _ q)
          · exact hRu.kids v q
        · rw [← hall, aw2, List.all_append]
          cases ws.all nfB <;> cases nfB u.hd <;> cases ts'.all (noneOf NF) <;> rfl
theorem ok_if2 (F : FnP K "_law_is_flat" sLawIsFlat f fd) (Y : Fx w K mg) : FnOk P w K mg base CX0 2 f fd ["_law_term_here"] (spBo K (noneOf NF)) := by
  obtain ⟨d1, F1⟩ := Y.dLawWords
  have b1 := FunD.bindsN (ps := ["_law_term_here"]) F1 fun _ _ _ _ _ _ us hl => match us, hl with | [_], _ => rfl
  have G1 : FnOk P w K mg base CX0 1 _ d1 ["_law_term_here"] (spWd K) := ok_wd F1 Y
  refine okD F scIf2 (fun vs H Q E h => ?_) (fun cdv A outer s H vs Q E hr h => ?_)
  · obtain ⟨a, t, rfl, _⟩ := h
    rfl
  · have nd := scIf2.nd
    have hu := hu_of hr
    refine ⟨_, pss_one (ps_ret (pe_cmpR (op_eqNL (Nat.lt_of_succ_lt hu)) (pe_lc (own := [("_law_word", 1)]) (g := gName 1) (tt := tTest (tOp (rIn K false) (tVar 1) (tLst (tCons (tC (.str "then")) (tCons (tC (.str "closed")) (tCons (tC (.str "walked")) tNil)))))) (te := tVar 1) rfl nd
        (pi_list (pe_call G1 hr (by rfl) Y.gLawWords F1.kp b1 .nil pass0 (pa_cons (pv 0) pa_nil))) (blkOk_by (N := NIf) (sc := defScope sLawIsFlat) (by decide +kernel)) (fun _ _ _ _ _ => pg_name (i := 1) nd rfl (Or.inl rfl))
        (fun _ _ _ _ _ => pts_one (pt_cmpR op_in_seq (pv 1) (pe_lst (pa_cons pe_str (pa_cons pe_str (pa_cons pe_str pa_nil)))) (by rfl))) (fun _ _ _ _ _ => pv 1)) (pe_lst pa_nil) (nomark _))), ?_⟩
    obtain ⟨a, t, rfl, ha, rt, z4, k⟩ := h
    refine ⟨_, rfl, a, t, rfl, ha, rt, z4, fun L ws H1 s1 hL eL hall lw => ⟨L, rfl, ⟨_, SqL.of eL⟩, fun D hD => ?_⟩⟩
    refine lc_list (K := K) (a := L) (xs := ws.map V.str) (fun i G => G D = some (.lst (((ws.take i).filter fun w => !nfB w).map V.str)) ∧ Same H1 G) ⟨upd_same, same_upd hD⟩ (fun i G _ q => q.2.seq (SqL.of eL)) ?_ ?_
    · rintro i v G hi ⟨e, sm⟩
      obtain ⟨z, ez, rfl⟩ := str_at hi
      have li := (List.getElem?_eq_some_iff.mp ez).1
      have fl := List.length_filter_le (fun w => !nfB w) (ws.take i)
      rw [List.length_take] at fl
      refine ⟨rfl, _, rfl, szl (by show 3 ≤ 1000; decide), fun l0 hl0 => ?_⟩
      have s3 := same_upd (o := .lst [V.str "then", V.str "closed", V.str "walked"]) hl0
      refine ⟨l0, _, rfl, .inl (SqL.of upd_same), rfl, fl_strs NF, _, rfl, ?_⟩
      rw [if_neg Bool.false_ne_true, show inV (V.str z) [V.str "then", V.str "closed", V.str "walked"] = decide (z ∈ NF) from inV_strs z NF]
      have e3 := s3 _ _ e
      refine ite2 (fun hc => ?_) (fun hc => ?_)
      · refine ⟨_, rfl, _, e3, by rw [List.length_map]; exact big16 (by omega), ?_, same_put hD (sm.trans s3)⟩
        rw [upd_same, List.take_add_one, ez, List.filter_append, List.map_append]
        have : (!nfB z) = true := by unfold nfB; rw [hc]; rfl
        simp [List.filter_cons, this]
      · refine ⟨?_, sm.trans s3⟩
        rw [List.take_add_one, ez, List.filter_append, List.map_append]
        have : (!nfB z) = false := by unfold nfB; rw [Bool.eq_false_iff.mpr hc]; rfl
        rw [show List.filter (fun w => !nfB w) (some z).toList = [] by simp [List.filter_cons, this], List.map_nil, List.append_nil]
        exact e3
    · rintro G ⟨e, sm⟩
      rw [List.length_map, List.take_length] at e
      refine ⟨szl (by show 0 ≤ 1000; decide), fun N0 hN0 => ⟨D, N0, _, rfl, rfl, SqL.of ((same_upd hN0) _ _ e), SqL.of upd_same, ?_⟩⟩
      have em : ((ws.filter fun w => !nfB w).map V.str).isEmpty = noneOf NF t := by
        rw [← hall]
        clear hall lw eL e
        induction ws with
        | nil => rfl
        | cons w ws ih =>
          rw [List.filter_cons, List.all_cons]
          cases nfB w with
          | true => rw [if_neg (by decide), Bool.true_and]; exact ih
          | false => rw [if_pos (show (!false) = true from rfl)]; rfl
      rw [em]
      exact k _ (s1.trans (sm.trans (same_upd hN0)))
end
end K43

namespace K43
open PySem PySem.Spec PyProof.Rows L2 Ow Xv
/-! ### the law's own ends -/
abbrev NLE : List Str := ["_law_frame_here", "_law_term_here", "_law_word", "_law_first"]
abbrev PLE : List Str := ["_law_frame_here", "_law_term_here"]
theorem scLE : FnScope NLE PLE (defScope sLawEnds) := ⟨rfl, rfl, rfl, by decide +kernel, rfl, by decide +kernel, by decide +kernel⟩
def spLE (K : PySem.W.Frag) (N : Nat) : Sp := fun vs H Q _ => ∃ (e a : Addr) (xs : List Str) (ls : List Lt) (t : Tm), vs = [.ref e, .ref a] ∧ FrAt K H e xs ls ∧ TmAt K H a t ∧ Fmd xs (ls.map (·.1)) t ∧ t.sz ≤ N ∧ ∀ (T : Addr) (H' : Hp), Same H H' → SqT K H' T (prV (eL ls t)) → Q (.ref T) H'
theorem mem2_of {z a b : Str} (h : decide (z ∈ [a, b]) = true) : z = a ∨ z = b := by
  have := of_decide_eq_true h
  simpa using this
section
variable {P : Program} {w : World} {K : PySem.W.Frag} {mg : Str → Option Value} {base : Heap} {f : Addr} {fd : FuncData}
theorem le_step {N k : Nat} (F : FnP K "_law_ends" sLawEnds (He.ga K "_law_ends") fd) (Y : Fx w K mg) (G0 : FnOk P w K mg base CX0 k (He.ga K "_law_ends") fd PLE (spLE K N)) (hk : 1 ≤ k) :
    FnOk P w K mg base CX0 (k + 1) (He.ga K "_law_ends") fd PLE (spLE K (N + 1)) := by
  have b0 := FunD.bindsN (ps := PLE) F fun _ _ _ _ _ _ us hl => match us, hl with | [_, _], _ => rfl
  refine okD F scLE (fun vs H Q E h => ?_) (fun cdv A outer s H vs Q E hr h => ?_)
  · obtain ⟨e, a, xs, ls, t, rfl, _⟩ := h
    rfl
  · have nd := scLE.nd
    have hu := hu_of hr
    refine ⟨_, pss_cons (ps_set (i := 2) nd rfl (Or.inl rfl) (pe_ix ix_tup (pv 1) pe_int (fun _ _ => rfl)))
      (pss_cons (ps_if (pt_cmpR op_eq (pv 2) pe_str (nomark _)) (pss_one (ps_ret (pe_dget hu (pe_dget hu (pv 0) pe_str nosl) (pe_ix ix_tup (pv 1) pe_int (fun _ _ => rfl)) nosl))) pss_nil)
      (pss_cons (ps_if (pt_cmpR op_in_seq (pv 2) (pe_lst (pa_cons pe_str (pa_cons pe_str pa_nil))) (by rfl)) (pss_one (ps_ret (pe_tup (pa_cons (pe_ix ix_tup (pv 1) pe_int (fun _ _ => rfl)) (pa_cons (pe_ix ix_tup (pv 1) pe_int (fun _ _ => rfl)) pa_nil))))) pss_nil)
      (pss_cons (ps_if (pt_cmpR op_in_seq (pv 2) (pe_lst (pa_cons pe_str (pa_cons pe_str pa_nil))) (by rfl)) (pss_one (ps_ret (pe_tup (pa_cons (pe_ix ix_tup (pv 1) pe_int (fun _ _ => rfl)) (pa_cons (pe_ix ix_tup (pv 1) pe_int (fun _ _ => rfl)) pa_nil))))) pss_nil)
      (pss_cons (ps_set (i := 3) nd rfl (Or.inl rfl) (pe_call G0 hr (by rfl) Y.gLawEnds F.kp b0 .nil pass0 (pa_cons (pv 0) (pa_cons (pe_ix ix_tup (pv 1) pe_int (fun _ _ => rfl)) pa_nil))))
      (pss_cons (ps_if (pt_cmpR op_eq (pv 2) pe_str (nomark _)) (pss_one (ps_ret (pe_rev (pv 3) (pe_un un_neg pe_int)))) pss_nil)
      (pss_cons (ps_if (pt_cmpR op_eq (pv 2) pe_str (nomark _)) (pss_one (ps_ret (pe_tup (pa_cons (pe_ix ix_tup (pv 3) pe_int (fun _ _ => rfl)) (pa_cons (pe_ix ix_tup (pe_call G0 hr (by rfl) Y.gLawEnds F.kp b0 .nil pass0 (pa_cons (pv 0) (pa_cons (pe_ix ix_tup (pv 1) pe_int (fun _ _ => rfl)) pa_nil))) pe_int (fun _ _ => rfl)) pa_nil))))) pss_nil)
      (pss_one (ps_ret (pv 3))))))))), ?_⟩
    obtain ⟨e, a, xs, ls, t, rfl, fr, ha, fm, hN, k⟩ := h
    obtain ⟨s0, m0, o0, _, gm, _, _, lm, _⟩ := fr.fr
    have ok := fr.ok
    obtain ⟨us, hv, hk2⟩ := ha.view
    refine ⟨_, rfl, a, _, 0, _, rfl, rfl, hv, atI_0 _ _, ?_⟩
    obtain ⟨wd, ewd⟩ : ∃ wd, wd = t.hd := ⟨_, rfl⟩
    rw [← ewd]
    refine ⟨_, rfl, rfl, _, rfl, ite2 (fun hc => ?_) (fun hc => ?_)⟩
    · have ew : wd = ("letter" : Str) := V.str.inj (of_decide_eq_true hc)
      rw [ewd] at ew
      cases t with
      | one w t => exact absurd (show w = "letter" from ew) (fun q => by subst q; exact absurd fm.1 (by unfold OneOk; decide +kernel))
      | two w s t => exact absurd (show w = "letter" from ew) (fun q => by subst q; exact absurd fm.1 (by unfold TwoOk; decide +kernel))
      | leaf w ss =>
        replace ew : w = "letter" := ew
        obtain ⟨n, rfl, hn⟩ : ∃ n, ss = [n] ∧ n ∈ ls.map (·.1) := by
          rcases fm with ⟨_, n, e, m⟩ | ⟨e, _⟩ | ⟨e, _⟩ | ⟨e, _⟩ | ⟨e, _⟩
          · exact ⟨n, e, m⟩
          all_goals exact absurd (ew.symm.trans e) (by decide +kernel)
        obtain ⟨h1, h2, _⟩ := end_in ok hn
        obtain ⟨i, li, ei⟩ := List.getElem_of_mem h1
        obtain ⟨T, dg, hT⟩ := lm.get ok.nl.nd (show ls[i]? = some (endOf ls n) by rw [List.getElem?_eq_getElem li, ei])
        rw [h2] at dg
        refine ⟨_, rfl, e, .ref m0, rfl, gm, _, rfl, a, _, 1, _, rfl, rfl, ha, rfl, m0, .ref T, rfl, dg, k T _ (Same.refl _) ?_⟩
        rw [eL_leaf, if_pos ew]
        exact hT
    · have ew : wd ≠ ("letter" : Str) := fun q => hc (by rw [q]; exact decide_eq_true rfl)
      refine ⟨_, rfl, szl (by show 2 ≤ 1000; decide), fun l0 hl0 => ?_⟩
      have s1 := same_upd (o := .lst [V.str "same", V.str "other"]) hl0
      refine ⟨l0, _, rfl, .inl (SqL.of upd_same), rfl, rfl, ?_⟩
      rw [if_neg Bool.false_ne_true, show inV (V.str wd) [V.str "same", V.str "other"] = decide (wd ∈ (["same", "other"] : List Str)) from inV_strs wd ["same", "other"]]
      refine ⟨_, rfl, ite2 (fun hc2 => ?_) (fun hc2 => ?_)⟩
      · have cw := mem2_of hc2
        rw [ewd] at cw
        cases t with
        | one w t => exact absurd (show w = "same" ∨ w = "other" from cw) (fun q => by rcases q with q | q <;> subst q <;> exact absurd fm.1 (by unfold OneOk; decide +kernel))
        | two w s t => exact absurd (show w = "same" ∨ w = "other" from cw) (fun q => by rcases q with q | q <;> subst q <;> exact absurd fm.1 (by unfold TwoOk; decide +kernel))
        | leaf w ss =>
          replace cw : w = "same" ∨ w = "other" := cw
          obtain ⟨n, rfl⟩ : ∃ n, ss = [n] := by
            rcases fm with ⟨e, _⟩ | ⟨_, n, e, _⟩ | ⟨_, n, e, _⟩ | ⟨e, _⟩ | ⟨e, _⟩
            · exact absurd e (by rw [ewd] at ew; exact ew)
            · exact ⟨n, e⟩
            · exact ⟨n, e⟩
            all_goals (rcases cw with q | q <;> rw [q] at e <;> exact absurd e (by decide +kernel))
          refine ⟨_, rfl, a, _, 1, _, rfl, rfl, sqt_same s1 ha, rfl, _, rfl, a, _, 1, _, rfl, rfl, sqt_same s1 ha, rfl, szl (by show 2 ≤ 1000; decide), fun T hT => k T _ (s1.trans (same_upd hT)) ?_⟩
          rw [eL_leaf, if_neg (by rw [ewd] at ew; exact ew)]
          exact SqT.of upd_same
      · refine ⟨_, rfl, szl (by show 2 ≤ 1000; decide), fun l1 hl1 => ?_⟩
        have s2 := s1.trans (same_upd (o := .lst [V.str "none", V.str "all"]) hl1)
        refine ⟨l1, _, rfl, .inl (SqL.of upd_same), rfl, rfl, ?_⟩
        rw [if_neg Bool.false_ne_true, show inV (V.str wd) [V.str "none", V.str "all"] = decide (wd ∈ (["none", "all"] : List Str)) from inV_strs wd ["none", "all"]]
        refine ⟨_, rfl, ite2 (fun hc3 => ?_) (fun hc3 => ?_)⟩
        · have cw := mem2_of hc3
          rw [ewd] at cw
          cases t with
          | one w t => exact absurd (show w = "none" ∨ w = "all" from cw) (fun q => by rcases q with q | q <;> subst q <;> exact absurd fm.1 (by unfold OneOk; decide +kernel))
          | two w s t => exact absurd (show w = "none" ∨ w = "all" from cw) (fun q => by rcases q with q | q <;> subst q <;> exact absurd fm.1 (by unfold TwoOk; decide +kernel))
          | leaf w ss =>
            replace cw : w = "none" ∨ w = "all" := cw
            obtain ⟨y, z, rfl⟩ : ∃ y z, ss = [y, z] := by
              rcases fm with ⟨e, _⟩ | ⟨e, _⟩ | ⟨e, _⟩ | ⟨_, y, z, e, _⟩ | ⟨_, y, z, e, _⟩
              · exact absurd e (by rw [ewd] at ew; exact ew)
              · rcases cw with q | q <;> rw [q] at e <;> exact absurd e (by decide +kernel)
              · rcases cw with q | q <;> rw [q] at e <;> exact absurd e (by decide +kernel)
              · exact ⟨y, z, e⟩
              · exact ⟨y, z, e⟩
            refine ⟨_, rfl, a, _, 1, _, rfl, rfl, sqt_same s2 ha, rfl, _, rfl, a, _, 2, _, rfl, rfl, sqt_same s2 ha, rfl, szl (by show 2 ≤ 1000; decide), fun T hT => k T _ (s2.trans (same_upd hT)) ?_⟩
            rw [eL_leaf, if_neg (by rw [ewd] at ew; exact ew)]
            exact SqT.of upd_same
        · cases t with
          | leaf w ss =>
            exfalso
            replace ewd : wd = w := ewd
            rcases fm with ⟨e, _⟩ | ⟨e, _⟩ | ⟨e, _⟩ | ⟨e, _⟩ | ⟨e, _⟩
            · exact ew (ewd.trans e)
            · exact hc2 (by rw [ewd, e]; decide +kernel)
            · exact hc2 (by rw [ewd, e]; decide +kernel)
            · exact hc3 (by rw [ewd, e]; decide +kernel)
            · exact hc3 (by rw [ewd, e]; decide +kernel)
          | one w t =>
            replace ewd : wd = w := ewd
            obtain ⟨b, h1, h2⟩ := ha
            have hs : 1 + t.sz ≤ N + 1 := hN
            refine ⟨_, rfl, _, rfl, a, _, 1, _, rfl, rfl, sqt_same s2 h1, rfl, e, b, xs, ls, t, rfl, fr.same s2, h2.same s2, fm.2, by omega, fun T H3 s3 hT => ?_⟩
            rw [eL_one, ← ewd] at k
            refine ⟨_, rfl, rfl, _, rfl, ite2 (fun h4 => ?_) (fun h4 => ?_)⟩
            · rw [if_pos (V.str.inj (of_decide_eq_true h4))] at k
              exact ⟨_, rfl, _, rfl, rfl, T, _, rfl, .inr ⟨hT, fun p hp => k p _ (s2.trans (s3.trans (same_upd hp))) (SqT.of upd_same)⟩⟩
            · rw [if_neg (fun q => h4 (by rw [q]; exact decide_eq_true rfl))] at k
              refine ⟨_, rfl, rfl, _, rfl, ite2 (fun h5 => ?_) (fun h5 => ?_)⟩
              · exfalso
                have q : w = "then" := ewd.symm.trans (V.str.inj (of_decide_eq_true h5))
                have f1 := fm.1
                rw [q] at f1
                exact absurd f1 (by unfold OneOk; decide +kernel)
              · exact ⟨_, rfl, k T _ (s2.trans s3) hT⟩
          | two w s t =>
            replace ewd : wd = w := ewd
            obtain ⟨b, c, h1, h2, h3⟩ := ha
            have hs : 1 + s.sz + t.sz ≤ N + 1 := hN
            refine ⟨_, rfl, _, rfl, a, _, 1, _, rfl, rfl, sqt_same s2 h1, rfl, e, b, xs, ls, s, rfl, fr.same s2, h2.same s2, fm.2.1, by omega, fun T H3 s3 hT => ?_⟩
            rw [eL_two, ← ewd] at k
            refine ⟨_, rfl, rfl, _, rfl, ite2 (fun h4 => ?_) (fun h4 => ?_)⟩
            · exfalso
              have q : w = "turned" := ewd.symm.trans (V.str.inj (of_decide_eq_true h4))
              have f1 := fm.1
              rw [q] at f1
              exact absurd f1 (by unfold TwoOk; decide +kernel)
            · refine ⟨_, rfl, rfl, _, rfl, ite2 (fun h5 => ?_) (fun h5 => ?_)⟩
              · rw [if_pos (V.str.inj (of_decide_eq_true h5))] at k
                have s4 := s2.trans s3
                refine ⟨_, rfl, T, _, 0, _, rfl, rfl, hT, rfl, _, rfl, _, rfl, a, _, 2, _, rfl, rfl, sqt_same s4 h1, rfl, e, c, xs, ls, t, rfl, fr.same s4, h3.same s4, fm.2.2, by omega, fun T2 H5 s5 hT2 => ?_⟩
                exact ⟨T2, _, 1, _, rfl, rfl, hT2, rfl, szl (by show 2 ≤ 1000; decide), fun T3 hT3 => k T3 _ (s4.trans (s5.trans (same_upd hT3))) (SqT.of upd_same)⟩
              · rw [if_neg (fun q => h5 (by rw [q]; exact decide_eq_true rfl))] at k
                exact ⟨_, rfl, k T _ (s2.trans s3) hT⟩
theorem le_none : FnOk P w K mg base CX0 1 (He.ga K "_law_ends") fd PLE (spLE K 0) := by
  have no : ∀ t : Tm, ¬ t.sz ≤ 0 := fun t => by cases t <;> simp only [Tm.sz] <;> omega
  refine ⟨fun vs H Q E h => ?_, fun A outer s H args us vs Q E hr e0 bt r h => ?_⟩
  · obtain ⟨_, _, _, _, t, _, _, _, _, h2, _⟩ := h
    exact absurd h2 (no t)
  · obtain ⟨_, _, _, _, t, _, _, _, _, h2, _⟩ := h
    exact absurd h2 (no t)
theorem ok_le (F : FnP K "_law_ends" sLawEnds (He.ga K "_law_ends") fd) (Y : Fx w K mg) : ∀ N, FnOk P w K mg base CX0 (1 + N) (He.ga K "_law_ends") fd PLE (spLE K N)
  | 0 => le_none
  | N + 1 => le_step F Y (ok_le F Y N) (Nat.le_add_right 1 N)
end
end K43

namespace K43
open PySem PySem.Spec PyProof.Rows L2 Ow Xv
/-! ### the law's own ways -/
abbrev NMv : List Str := ["_law_marks", "_law_spots", "_law_term_here", "_law_i", "_law_j"]
theorem scMv : FnScope NMv ["_law_marks", "_law_spots"] (defScope sLawMoved) := ⟨rfl, rfl, rfl, by decide +kernel, rfl, by decide +kernel, by decide +kernel⟩
abbrev NT2 : List Str := ["_law_word", "_law_one", "_law_other", "_law_few", "_law_more", "_law_spots", "_law_early", "_law_late", "_law_sorts", "_law_k"]
abbrev PT2 : List Str := ["_law_word", "_law_one", "_law_other"]
theorem scT2 : FnScope NT2 PT2 (defScope sLawTwoWays) := ⟨rfl, rfl, rfl, by decide +kernel, rfl, by decide +kernel, by decide +kernel⟩
def twoW (w : Str) (o p : Wy) : Wy := if w = "cut" then cutW o p else thenW o p
def spT2 (K : PySem.W.Frag) : Sp := fun vs H Q _ => ∃ (wd : Str) (a b : Addr) (o p : Wy), vs = [.str wd, .ref a, .ref b] ∧ WyAt K H a o ∧ WyAt K H b p ∧ WyIn o ∧ WyIn p ∧ o.1.length + p.1.length ≤ 900 ∧ o.2.length + p.2.length ≤ 900 ∧ ∀ (T : Addr) (H' : Hp), Same H H' → WyAt K H' T (twoW wd o p) → Q (.ref T) H'
def numV (c n : Nat) : List V := (List.range n).map fun i : Nat => V.int ((c : Int) + (i : Int))
theorem numV_snoc (c n : Nat) : numV c (n + 1) = numV c n ++ [V.int ((c : Int) + (n : Int))] := by
  unfold numV
  rw [List.range_succ, List.map_append]
  rfl
theorem num_nums (a b c n : Nat) : [V.int (a : Int), V.int (b : Int)] ++ numV c n = paV (nums a b c n) := by
  unfold numV paV nums
  rw [List.map_cons, List.map_cons, List.map_map]
  show _ :: _ :: _ = _ :: _ :: _
  congr 2
  refine List.map_congr_left fun i _ => ?_
  show V.int _ = V.int _
  congr 1
  show (c : Int) + (i : Int) = ((i + c : Nat) : Int)
  omega
theorem numV_len (c n : Nat) : (numV c n).length = n := by simp [numV]
section
variable {P : Program} {w : World} {K : PySem.W.Frag} {mg : Str → Option Value} {base : Heap} {f : Addr} {fd : FuncData}
theorem ok_mv (F : FnP K "_law_moved" sLawMoved f fd) (Y : Fx w K mg) : FnOk P w K mg base CX0 1 f fd ["_law_marks", "_law_spots"] (spRn K) := by
  refine okD F scMv (fun vs H Q E h => ?_) (fun cdv A outer s H vs Q E hr h => ?_)
  · obtain ⟨m, l, ms, ns, rfl, _⟩ := h
    rfl
  · have nd := scMv.nd
    refine ⟨_, pss_one (ps_ret (pe_callTy call_tupA (by rfl) Y.bTuple (by decide +kernel) (pa_cons (pe_lc (own := [("_law_term_here", 2), ("_law_i", 3), ("_law_j", 4)]) (g := gTup K 3 (gCons (gName 2) (gCons (gName 3) (gCons (gName 4) gNil)))) (tt := tYes)
        (te := tTup (tCons (tVar 2) (tCons (tOp (rIxL K) (tVar 1) (tVar 3)) (tCons (tOp (rIxL K) (tVar 1) (tVar 4)) tNil)))) rfl nd (pi_tup (pv 0)) (blkOk_by (N := NMv) (sc := defScope sLawMoved) (by decide +kernel))
        (fun _ _ _ _ _ => pg_tup rfl (pgs_cons (pg_name (i := 2) nd rfl (Or.inl rfl)) (pgs_cons (pg_name (i := 3) nd rfl (Or.inl rfl)) (pgs_cons (pg_name (i := 4) nd rfl (Or.inl rfl)) pgs_nil)))) (fun _ _ _ _ _ => pts_nil)
        (fun _ _ _ _ _ => pe_tup (pa_cons (pv 2) (pa_cons (pe_ix ix_list (pv 1) (pv 3) (fun _ _ => rfl)) (pa_cons (pe_ix ix_list (pv 1) (pv 4) (fun _ _ => rfl)) pa_nil))))) pa_nil))), ?_⟩
    obtain ⟨m, l, ms, ns, rfl, ⟨rs, hm, hR⟩, hl, hb, lm, k⟩ := h
    have lr := hR.len
    refine ⟨_, rfl, m, rfl, ⟨_, hm⟩, fun D hD => ?_⟩
    refine lc_tup (K := K) (a := m) (xs := rs.map V.ref) (fun i G => ∃ qs : List Addr, G D = some (.lst (qs.map V.ref)) ∧ Rs (MkAt K) G qs (rnm ns (ms.take i)) ∧ Same H G) ⟨[], upd_same, .nil, same_upd hD⟩ (fun i G _ p => by obtain ⟨_, _, _, p⟩ := p; exact sqt_same p hm) ?_ ?_
    · rintro i v G hi ⟨qs, e, hQ, sm⟩
      obtain ⟨r, er, rfl⟩ := ref_at hi
      obtain ⟨⟨t, a, b⟩, ek, u, h1, h2⟩ := hR.get er
      obtain ⟨b1, b2⟩ := hb _ (List.mem_of_getElem? ek)
      have h1' := sqt_same sm h1
      have hl' := sm.seq hl
      refine ⟨r, _, rfl, h1', rfl, _, _, rfl, _, _, rfl, _, _, rfl, rfl, rfl, _, rfl, ?_⟩
      refine ⟨_, rfl, _, rfl, l, _, _, _, rfl, rfl, hl', pa_at b1, _, rfl, _, rfl, l, _, _, _, rfl, rfl, hl', pa_at b2, szl (by show 3 ≤ 1000; decide), fun T hT => ?_⟩
      have sT := same_upd (o := .tup [V.ref u, V.int ((ns.getD a 0 : Nat) : Int), V.int ((ns.getD b 0 : Nat) : Int)]) hT
      have e2 := sT _ _ e
      have lq := hQ.len
      unfold rnm at lq
      rw [List.length_map, List.length_take] at lq
      refine ⟨_, e2, by rw [List.length_map]; exact small1000 (by omega), qs ++ [T], by rw [upd_same, List.map_append]; rfl, ?_, same_put hD (sm.trans sT)⟩
      rw [List.take_add_one, ek]
      unfold rnm
      rw [List.map_append]
      refine (Rs.app (hQ.xt mkAt_xp (.of sT)) (.one (show MkAt K _ T (t, ns.getD a 0, ns.getD b 0) from ⟨u, SqT.of upd_same, (h2.same sm).same sT⟩))).xt mkAt_xp (.put e2)
    · rintro G ⟨qs, e, hQ, sm⟩
      rw [List.length_map, lr, List.take_length] at hQ
      exact ⟨D, _, rfl, .inl (SqL.of e), fun T H' s' hT => k T H' (sm.trans s') ⟨qs, hT, hQ.xt mkAt_xp (.of s')⟩⟩
theorem ok_t2 (F : FnP K "_law_two_ways" sLawTwoWays f fd) (Y : Fx w K mg) : FnOk P w K mg base CX0 2 f fd PT2 (spT2 K) := by
  obtain ⟨d1, F1⟩ := Y.dLawMoved
  have b1 := FunD.bindsN (ps := ["_law_marks", "_law_spots"]) F1 fun _ _ _ _ _ _ us hl => match us, hl with | [_, _], _ => rfl
  have G1 : FnOk P w K mg base CX0 1 _ d1 ["_law_marks", "_law_spots"] (spRn K) := ok_mv F1 Y
  refine okD F scT2 (fun vs H Q E h => ?_) (fun cdv A outer s H vs Q E hr h => ?_)
  · obtain ⟨wd, a, b, o, p, rfl, _⟩ := h
    rfl
  · have nd := scT2.nd
    refine ⟨_, pss_cons (ps_asg (pe_tup (pa_cons (pe_callB call_len_seq (by rfl) Y.bLen PySem.boot_len (pa_cons (pe_ix ix_tup (pv 1) pe_int (fun _ _ => rfl)) pa_nil)) (pa_cons (pe_callB call_len_seq (by rfl) Y.bLen PySem.boot_len (pa_cons (pe_ix ix_tup (pv 2) pe_int (fun _ _ => rfl)) pa_nil)) pa_nil))) (pg_tup rfl (pgs_cons (pg_name (i := 3) nd rfl (Or.inr rfl)) (pgs_cons (pg_name (i := 4) nd rfl (Or.inl rfl)) pgs_nil))))
      (pss_cons (ps_if (pt_cmpR op_eq (pv 0) pe_str (nomark _))
        (pss_cons (ps_set (i := 5) nd rfl (Or.inl rfl) (pe_op op_cat (pe_lst (pa_cons pe_int (pa_cons pe_int pa_nil))) (pe_lc (own := [("_law_k", 9)]) (g := gName 9) (tt := tYes) (te := tOp (rI0 fun i j => .int (i + j)) (tVar 3) (tVar 9)) rfl nd (pi_range1 (by rfl) Y.bRange (pa_cons (pe_op op_sub (pv 4) pe_int) pa_nil)) (blkOk_by (N := NT2) (sc := defScope sLawTwoWays) (by decide +kernel)) (fun _ _ _ _ _ => pg_name (i := 9) nd rfl (Or.inl rfl)) (fun _ _ _ _ _ => pts_nil) (fun _ _ _ _ _ => pe_op op_add (pv 3) (pv 9)))))
        (pss_one (ps_ret (pe_tup (pa_cons (pe_op op_catA (pe_ix ix_tup (pv 1) pe_int (fun _ _ => rfl)) (pe_slice sl_tupA (pe_ix ix_tup (pv 2) pe_int (fun _ _ => rfl)) (po_some pe_int) po_none))
          (pa_cons (pe_op op_catA (pe_ix ix_tup (pv 1) pe_int (fun _ _ => rfl)) (pe_call G1 hr (by rfl) Y.gLawMoved F1.kp b1 .nil pass0 (pa_cons (pe_ix ix_tup (pv 2) pe_int (fun _ _ => rfl)) (pa_cons (pv 5) pa_nil)))) pa_nil)))))) pss_nil)
      (pss_cons (ps_set (i := 6) nd rfl (Or.inl rfl) (pe_op op_cat (pe_lst (pa_cons pe_int (pa_cons pe_int pa_nil))) (pe_lc (own := [("_law_k", 9)]) (g := gName 9) (tt := tYes) (te := tOp (rI0 fun i j => .int (i + j)) (tC (.int 3)) (tVar 9)) rfl nd (pi_range1 (by rfl) Y.bRange (pa_cons (pe_op op_sub (pv 3) pe_int) pa_nil)) (blkOk_by (N := NT2) (sc := defScope sLawTwoWays) (by decide +kernel)) (fun _ _ _ _ _ => pg_name (i := 9) nd rfl (Or.inl rfl)) (fun _ _ _ _ _ => pts_nil) (fun _ _ _ _ _ => pe_op op_add pe_int (pv 9)))))
      (pss_cons (ps_set (i := 7) nd rfl (Or.inl rfl) (pe_op op_cat (pe_lst (pa_cons pe_int (pa_cons pe_int pa_nil))) (pe_lc (own := [("_law_k", 9)]) (g := gName 9) (tt := tYes) (te := tOp (rI0 fun i j => .int (i + j)) (tOp (rI0 fun i j => .int (i + j)) (tC (.int 1)) (tVar 3)) (tVar 9)) rfl nd (pi_range1 (by rfl) Y.bRange (pa_cons (pe_op op_sub (pv 4) pe_int) pa_nil)) (blkOk_by (N := NT2) (sc := defScope sLawTwoWays) (by decide +kernel)) (fun _ _ _ _ _ => pg_name (i := 9) nd rfl (Or.inl rfl)) (fun _ _ _ _ _ => pts_nil) (fun _ _ _ _ _ => pe_op op_add (pe_op op_add pe_int (pv 3)) (pv 9)))))
      (pss_cons (ps_set (i := 8) nd rfl (Or.inl rfl) (pe_op op_catA (pe_op op_catA (pe_tup (pa_cons (pe_ix ix_tup (pe_ix ix_tup (pv 1) pe_int (fun _ _ => rfl)) pe_int (fun _ _ => rfl)) (pa_cons (pe_ix ix_tup (pe_ix ix_tup (pv 2) pe_int (fun _ _ => rfl)) pe_int (fun _ _ => rfl)) (pa_cons (pe_ix ix_tup (pe_ix ix_tup (pv 1) pe_int (fun _ _ => rfl)) pe_int (fun _ _ => rfl)) pa_nil))))
          (pe_slice sl_tupA (pe_ix ix_tup (pv 1) pe_int (fun _ _ => rfl)) (po_some pe_int) po_none)) (pe_slice sl_tupA (pe_ix ix_tup (pv 2) pe_int (fun _ _ => rfl)) (po_some pe_int) po_none)))
      (pss_one (ps_ret (pe_tup (pa_cons (pv 8) (pa_cons (pe_op op_catA (pe_call G1 hr (by rfl) Y.gLawMoved F1.kp b1 .nil pass0 (pa_cons (pe_ix ix_tup (pv 1) pe_int (fun _ _ => rfl)) (pa_cons (pv 6) pa_nil))) (pe_call G1 hr (by rfl) Y.gLawMoved F1.kp b1 .nil pass0 (pa_cons (pe_ix ix_tup (pv 2) pe_int (fun _ _ => rfl)) (pa_cons (pv 7) pa_nil)))) pa_nil))))))))), ?_⟩
    obtain ⟨wd, a, b, o, p, rfl, ⟨s0, m0, ha, hs, hm⟩, ⟨s1, m1, hb, ht, hn⟩, wo, wp, ll, lm, k⟩ := h
    obtain ⟨x, z, r0, e0⟩ := wo.sh
    obtain ⟨z', y, r, e⟩ := wp.sh
    have hin0 := wo.ins
    have hin := wp.ins
    have ec : cutW o p = (o.1 ++ r, o.2 ++ rnm (nums 0 1 (r0.length + 2) r.length) p.2) := by unfold cutW; rw [e, e0]; rfl
    have et : thenW o p = (x :: y :: z :: (r0 ++ r), rnm (nums 0 2 3 r0.length) o.2 ++ rnm (nums 2 1 (r0.length + 3) r.length) p.2) := by unfold thenW; rw [e, e0]; rfl
    rw [e] at ht hin ll
    rw [e0] at hs hin0 ll ec
    simp only [List.length_cons] at ll
    refine ⟨_, rfl, a, _, 0, _, rfl, rfl, ha, rfl, s0, _, rfl, .inr hs, ?_⟩
    rw [List.length_map, List.length_cons, List.length_cons]
    refine ⟨_, rfl, b, _, 0, _, rfl, rfl, hb, rfl, s1, _, rfl, .inr ht, ?_⟩
    rw [List.length_map, List.length_cons, List.length_cons]
    refine ⟨szl (by show 2 ≤ 1000; decide), fun T0 hT0 => ⟨T0, _, rfl, SqT.of upd_same, rfl, _, _, rfl, _, _, rfl, rfl, ?_⟩⟩
    have u0 := same_upd (o := .tup [V.int ((r0.length + 1 + 1 : Nat) : Int), V.int ((r.length + 1 + 1 : Nat) : Int)]) hT0
    obtain ⟨G0, eG⟩ : ∃ Z, Z = upd H T0 (.tup [V.int ((r0.length + 1 + 1 : Nat) : Int), V.int ((r.length + 1 + 1 : Nat) : Int)]) := ⟨_, rfl⟩
    dsimp only
    change tSeq _ _ _ [some (.str wd), some (.ref a), some (.ref b), some (.int ((r0.length + 1 + 1 : Nat) : Int)), some (.int ((r.length + 1 + 1 : Nat) : Int)), none, none, none, none, none] (upd H T0 (.tup [V.int ((r0.length + 1 + 1 : Nat) : Int), V.int ((r.length + 1 + 1 : Nat) : Int)]))
    rw [← eG] at u0 ⊢
    clear eG hT0
    unfold twoW at k
    refine ⟨_, rfl, rfl, _, rfl, ite2 (fun hc => ?_) (fun hc => ?_)⟩
    · rw [if_pos (V.str.inj (of_decide_eq_true hc)), ec] at k
      refine ⟨szl (by show 2 ≤ 1000; decide), fun l0 hl0 => ?_⟩
      have u1 := same_upd (o := .lst [V.int 0, V.int 1]) hl0
      refine ⟨_, rfl, _, _, rfl, rfl, _, rfl, by omega, by omega, fun D hD => ?_⟩
      have eN : (((r.length + 1 + 1 : Nat) : Int) - 2).toNat = r.length := by omega
      rw [eN]
      refine lc_range (lo := 0) (n := r.length) (fun i G => G D = some (.lst (numV (r0.length + 2) i)) ∧ G l0 = some (.lst [V.int 0, V.int 1]) ∧ Same G0 G) ⟨upd_same, (same_upd hD) _ _ upd_same, u1.trans (same_upd hD)⟩ ?_ ?_
      · rintro i G hi ⟨e1, e2, sm⟩
        refine ⟨rfl, _, rfl, _, rfl, _, _, rfl, rfl, _, e1, by rw [numV_len]; exact big16 (by omega), ?_, ?_, same_put (none_of u1 hD) sm⟩
        · rw [upd_same, numV_snoc]
          show some (HO.lst (_ ++ [V.int (((r0.length + 1 + 1 : Nat) : Int) + (0 + (i : Int)))])) = some (HO.lst (_ ++ [V.int (((r0.length + 2 : Nat) : Int) + (i : Int))]))
          rw [Int.zero_add]
        · exact (upd_ne fun q => by rw [← q, upd_same] at hD; cases hD).trans e2
      rintro G ⟨e1, e2, sm⟩
      refine ⟨l0, D, _, _, rfl, rfl, e2, e1, by rw [numV_len]; show 2 + _ ≤ _; exact szl (by omega), fun l2 hl2 => ?_⟩
      rw [show [V.int 0, V.int 1] ++ numV (r0.length + 2) r.length = paV (nums 0 1 (r0.length + 2) r.length) from num_nums 0 1 _ _]
      have u3 := u0.trans (sm.trans (same_upd (o := .lst (paV (nums 0 1 (r0.length + 2) r.length))) hl2))
      have e3 : upd G l2 (.lst (paV (nums 0 1 (r0.length + 2) r.length))) l2 = _ := upd_same
      obtain ⟨G, eG⟩ : ∃ Z, Z = upd G l2 (.lst (paV (nums 0 1 (r0.length + 2) r.length))) := ⟨_, rfl⟩
      dsimp only [gName]
      rw [← eG] at u3 e3 ⊢
      refine ⟨_, rfl, a, _, 0, _, rfl, rfl, sqt_same u3 ha, rfl, _, rfl, b, _, 0, _, rfl, rfl, sqt_same u3 hb, rfl, 2, rfl, slice_from (sqt_same u3 ht) fun t2 G2 s5 h2 => ?_⟩
      rw [show cutV ((z' :: y :: r).map V.str) (some 2) none = r.map V.str from cutV_drop _ 2] at h2
      refine tup_cat (sqt_same (u3.trans s5) hs) h2 (by show r0.length + 1 + 1 + r.length ≤ _; omega) fun t3 G3 s6 h3 => ?_
      have sA := u3.trans (s5.trans s6)
      refine ⟨_, rfl, a, _, 1, _, rfl, rfl, sqt_same sA ha, rfl, _, rfl, b, _, 1, _, rfl, rfl, sqt_same sA hb, rfl, _, rfl, m1, l2, p.2, nums 0 1 (r0.length + 2) r.length, rfl, hn.xt (.of sA), SqL.of ((s5.trans s6) _ _ e3), nums_in hin rfl, wp.lm, fun t4 G4 s7 h4 => ?_⟩
      refine mks_cat (hm.xt (.of (sA.trans s7))) h4 (by unfold rnm; rw [List.length_map]; omega) fun t5 G5 s8 h5 => ⟨szl (by show 2 ≤ 1000; decide), fun T hT => ?_⟩
      have s9 := same_upd (o := .tup [V.ref t3, V.ref t5]) hT
      refine k T _ (sA.trans (s7.trans (s8.trans s9))) ⟨t3, t5, SqT.of upd_same, ?_, h5.xt (.of s9)⟩
      exact sqt_same (s7.trans (s8.trans s9)) h3
    · rw [if_neg (fun q => hc (by rw [q]; exact decide_eq_true rfl)), et] at k
      refine ⟨szl (by show 2 ≤ 1000; decide), fun l0 hl0 => ?_⟩
      have u1 := same_upd (o := .lst [V.int 0, V.int 2]) hl0
      refine ⟨_, rfl, _, _, rfl, rfl, _, rfl, by omega, by omega, fun D hD => ?_⟩
      have eN : (((r0.length + 1 + 1 : Nat) : Int) - 2).toNat = r0.length := by omega
      rw [eN]
      refine lc_range (lo := 0) (n := r0.length) (fun i G => G D = some (.lst (numV 3 i)) ∧ G l0 = some (.lst [V.int 0, V.int 2]) ∧ Same G0 G) ⟨upd_same, (same_upd hD) _ _ upd_same, u1.trans (same_upd hD)⟩ ?_ ?_
      · rintro i G hi ⟨e1, e2, sm⟩
        refine ⟨rfl, _, rfl, _, _, rfl, rfl, _, e1, by rw [numV_len]; exact big16 (by omega), ?_, ?_, same_put (none_of u1 hD) sm⟩
        · rw [upd_same, numV_snoc]
          show some (HO.lst (_ ++ [V.int (3 + (0 + (i : Int)))])) = some (HO.lst (_ ++ [V.int (((3 : Nat) : Int) + (i : Int))]))
          rw [Int.zero_add]
          rfl
        · exact (upd_ne fun q => by rw [← q, upd_same] at hD; cases hD).trans e2
      rintro G ⟨e1, e2, sm⟩
      refine ⟨l0, D, _, _, rfl, rfl, e2, e1, by rw [numV_len]; show 2 + _ ≤ _; exact szl (by omega), fun l2 hl2 => ?_⟩
      rw [show [V.int 0, V.int 2] ++ numV 3 r0.length = paV (nums 0 2 3 r0.length) from num_nums 0 2 _ _]
      have u3 := u0.trans (sm.trans (same_upd (o := .lst (paV (nums 0 2 3 r0.length))) hl2))
      have e3 : upd G l2 (.lst (paV (nums 0 2 3 r0.length))) l2 = _ := upd_same
      obtain ⟨G1, eG⟩ : ∃ Z, Z = upd G l2 (.lst (paV (nums 0 2 3 r0.length))) := ⟨_, rfl⟩
      dsimp only [gName]
      change tSeq _ _ _ [some (.str wd), some (.ref a), some (.ref b), some (.int ((r0.length + 1 + 1 : Nat) : Int)), some (.int ((r.length + 1 + 1 : Nat) : Int)), none, some (.ref l2), none, none, none] (upd G l2 (.lst (paV (nums 0 2 3 r0.length))))
      rw [← eG] at u3 e3 ⊢
      clear eG e1 e2 sm hD u1 hl0 hl2
      refine ⟨szl (by show 2 ≤ 1000; decide), fun q0 hq0 => ?_⟩
      have u1 := same_upd (o := .lst [V.int 2, V.int 1]) hq0
      refine ⟨_, rfl, _, _, rfl, rfl, _, rfl, by omega, by omega, fun D hD => ?_⟩
      have eN : (((r.length + 1 + 1 : Nat) : Int) - 2).toNat = r.length := by omega
      rw [eN]
      refine lc_range (lo := 0) (n := r.length) (fun i G => G D = some (.lst (numV (r0.length + 3) i)) ∧ G q0 = some (.lst [V.int 2, V.int 1]) ∧ Same G1 G) ⟨upd_same, (same_upd hD) _ _ upd_same, u1.trans (same_upd hD)⟩ ?_ ?_
      · rintro i G hi ⟨e1, e2, sm⟩
        refine ⟨rfl, _, rfl, _, _, rfl, rfl, _, rfl, _, _, rfl, rfl, _, e1, by rw [numV_len]; exact big16 (by omega), ?_, ?_, same_put (none_of u1 hD) sm⟩
        · rw [upd_same, numV_snoc]
          show some (HO.lst (_ ++ [V.int (1 + ((r0.length + 1 + 1 : Nat) : Int) + (0 + (i : Int)))])) = some (HO.lst (_ ++ [V.int (((r0.length + 3 : Nat) : Int) + (i : Int))]))
          rw [show 1 + ((r0.length + 1 + 1 : Nat) : Int) + (0 + (i : Int)) = ((r0.length + 3 : Nat) : Int) + (i : Int) by omega]
        · exact (upd_ne fun q => by rw [← q, upd_same] at hD; cases hD).trans e2
      rintro G ⟨e1, e2, sm⟩
      refine ⟨q0, D, _, _, rfl, rfl, e2, e1, by rw [numV_len]; show 2 + _ ≤ _; exact szl (by omega), fun q2 hq2 => ?_⟩
      rw [show [V.int 2, V.int 1] ++ numV (r0.length + 3) r.length = paV (nums 2 1 (r0.length + 3) r.length) from num_nums 2 1 _ _]
      have v3 := sm.trans (same_upd (o := .lst (paV (nums 2 1 (r0.length + 3) r.length))) hq2)
      have f3 : upd G q2 (.lst (paV (nums 2 1 (r0.length + 3) r.length))) q2 = _ := upd_same
      obtain ⟨G2, eG⟩ : ∃ Z, Z = upd G q2 (.lst (paV (nums 2 1 (r0.length + 3) r.length))) := ⟨_, rfl⟩
      dsimp only [gName]
      change tSeq _ _ _ [some (.str wd), some (.ref a), some (.ref b), some (.int ((r0.length + 1 + 1 : Nat) : Int)), some (.int ((r.length + 1 + 1 : Nat) : Int)), none, some (.ref l2), some (.ref q2), none, none] (upd G q2 (.lst (paV (nums 2 1 (r0.length + 3) r.length))))
      rw [← eG] at v3 f3 ⊢
      have g3 := v3 _ _ e3
      have w5 := u3.trans v3
      clear eG e1 e2 sm hD u1 hq0 hq2 e3 u3 v3
      have ha5 := sqt_same w5 ha
      have hb5 := sqt_same w5 hb
      have hs5 := sqt_same w5 hs
      have ht5 := sqt_same w5 ht
      refine ⟨_, rfl, a, _, 0, _, rfl, rfl, ha5, rfl, s0, _, 0, _, rfl, rfl, hs5, str_atI (i := 0) rfl, _, rfl, b, _, 0, _, rfl, rfl, hb5, rfl, s1, _, 1, _, rfl, rfl, ht5, str_atI (i := 1) rfl, _, rfl, a, _, 0, _, rfl, rfl, ha5, rfl, s0, _, 1, _, rfl, rfl, hs5, str_atI (i := 1) rfl, szl (by show 3 ≤ 1000; decide), fun t4 ht4 => ?_⟩
      have s8 := same_upd (o := .tup [V.str x, V.str y, V.str z]) ht4
      refine ⟨_, rfl, a, _, 0, _, rfl, rfl, sqt_same s8 ha5, rfl, 2, rfl, slice_from (sqt_same s8 hs5) fun t5 G5 s9 h5 => ?_⟩
      rw [show cutV ((x :: z :: r0).map V.str) (some 2) none = r0.map V.str from cutV_drop _ 2] at h5
      refine tup_cat (xs := [x, y, z]) (ys := r0) (SqT.of (s9 _ _ upd_same)) h5 (by show 3 + _ ≤ _; omega) fun t6 G6 s10 h6 => ?_
      have s11 := s8.trans (s9.trans s10)
      refine ⟨_, rfl, b, _, 0, _, rfl, rfl, sqt_same s11 hb5, rfl, 2, rfl, slice_from (sqt_same s11 ht5) fun t7 G7 s12 h7 => ?_⟩
      rw [show cutV ((z' :: y :: r).map V.str) (some 2) none = r.map V.str from cutV_drop _ 2] at h7
      refine tup_cat (sqt_same s12 h6) h7 (by rw [List.length_append]; show 3 + r0.length + _ ≤ _; omega) fun t8 G8 s13 h8 => ?_
      have s14 := s11.trans (s12.trans s13)
      have sA := w5.trans s14
      refine ⟨_, rfl, _, rfl, a, _, 1, _, rfl, rfl, sqt_same sA ha, rfl, _, rfl, m0, l2, o.2, nums 0 2 3 r0.length, rfl, hm.xt (.of sA), SqL.of (s14 _ _ g3), nums_in hin0 rfl, wo.lm, fun t9 G9 s15 h9 => ?_⟩
      have sB := sA.trans s15
      refine ⟨_, rfl, b, _, 1, _, rfl, rfl, sqt_same sB hb, rfl, _, rfl, m1, q2, p.2, nums 2 1 (r0.length + 3) r.length, rfl, hn.xt (.of sB), SqL.of ((s14.trans s15) _ _ f3), nums_in hin rfl, wp.lm, fun t10 G10 s16 h10 => ?_⟩
      refine mks_cat (h9.xt (.of s16)) h10 (by unfold rnm; rw [List.length_map, List.length_map]; omega) fun t11 G11 s17 h11 => ⟨szl (by show 2 ≤ 1000; decide), fun T hT => ?_⟩
      have s18 := same_upd (o := .tup [V.ref t8, V.ref t11]) hT
      have s19 := s15.trans (s16.trans (s17.trans s18))
      exact k T _ (sA.trans s19) ⟨t8, t11, SqT.of upd_same, sqt_same s19 h8, h11.xt (.of s18)⟩
end
end K43

namespace K43
open PySem PySem.Spec PyProof.Rows L2 Ow Xv
abbrev NLW : List Str := ["_law_frame_here", "_law_term_here", "_law_first", "_law_found", "_law_sorts", "_law_marks", "_law_spots", "_law_second", "_law_one", "_law_other"]
abbrev PLW : List Str := ["_law_frame_here", "_law_term_here"]
theorem scLW : FnScope NLW PLW (defScope sLawWays) := ⟨rfl, rfl, rfl, by decide +kernel, rfl, by decide +kernel, by decide +kernel⟩
def spLW (K : PySem.W.Frag) (N : Nat) : Sp := fun vs H Q _ => ∃ (e a : Addr) (xs : List Str) (ls : List Lt) (t : Tm) (ex ey : Str), vs = [.ref e, .ref a] ∧ FrAt K H e xs ls ∧ TmAt K H a t ∧ Ty xs ls t ex ey ∧ Short t ∧ t.sz ≤ N ∧ t.sz ≤ 50 ∧ cnt t ≤ 100 ∧ ∀ (L : Addr) (H' : Hp), Same H H' → WysL K H' L (wys ls t) → Q (.ref L) H'
section
variable {P : Program} {w : World} {K : PySem.W.Frag} {mg : Str → Option Value} {base : Heap} {f : Addr} {fd : FuncData}
theorem lw_step {N k : Nat} (F : FnP K "_law_ways" sLawWays (He.ga K "_law_ways") fd) (Y : Fx w K mg) (G0 : FnOk P w K mg base CX0 k (He.ga K "_law_ways") fd PLW (spLW K N)) (hk : 61 ≤ k) :
    FnOk P w K mg base CX0 (k + 1) (He.ga K "_law_ways") fd PLW (spLW K (N + 1)) := by
  have b0 := FunD.bindsN (ps := PLW) F fun _ _ _ _ _ _ us hl => match us, hl with | [_, _], _ => rfl
  obtain ⟨dF, FF⟩ := Y.dLawIsFlat
  obtain ⟨dE, FE⟩ := Y.dLawEnds
  obtain ⟨dM, FM⟩ := Y.dLawMoved
  obtain ⟨dT, FT⟩ := Y.dLawTwoWays
  have bF := FunD.bindsN (ps := ["_law_term_here"]) FF fun _ _ _ _ _ _ us hl => match us, hl with | [_], _ => rfl
  have bE := FunD.bindsN (ps := PLE) FE fun _ _ _ _ _ _ us hl => match us, hl with | [_, _], _ => rfl
  have bM := FunD.bindsN (ps := ["_law_marks", "_law_spots"]) FM fun _ _ _ _ _ _ us hl => match us, hl with | [_, _], _ => rfl
  have bT := FunD.bindsN (ps := PT2) FT fun _ _ _ _ _ _ us hl => match us, hl with | [_, _, _], _ => rfl
  have GF : FnOk P w K mg base CX0 2 _ dF ["_law_term_here"] (spBo K (noneOf NF)) := ok_if2 FF Y
  have GE : FnOk P w K mg base CX0 61 _ dE PLE (spLE K 60) := ok_le FE Y 60
  have GM : FnOk P w K mg base CX0 1 _ dM ["_law_marks", "_law_spots"] (spRn K) := ok_mv FM Y
  have GT : FnOk P w K mg base CX0 2 _ dT PT2 (spT2 K) := ok_t2 FT Y
  refine okD F scLW (fun vs H Q E h => ?_) (fun cdv A outer s H vs Q E hr h => ?_)
  · obtain ⟨e, a, xs, ls, t, ex, ey, rfl, _⟩ := h
    rfl
  · have nd := scLW.nd
    have hr1 : Room 1 _ := hr.mono (by omega)
    have hr2 : Room 2 _ := hr.mono (by omega)
    have hr61 : Room 61 _ := hr.mono hk
    refine ⟨_, pss_cons (ps_if (pt_val (pe_call GF hr2 (by rfl) Y.gLawIsFlat FF.kp bF .nil pass0 (pa_cons (pv 1) pa_nil)))
        (pss_one (ps_ret (pe_lst (pa_cons (pe_tup (pa_cons (pe_callTy call_tupA (by rfl) Y.bTuple (by decide +kernel) (pa_cons (pe_call GE hr61 (by rfl) Y.gLawEnds FE.kp bE .nil pass0 (pa_cons (pv 0) (pa_cons (pv 1) pa_nil))) pa_nil)) (pa_cons (pe_tup (pa_cons (pe_tup (pa_cons (pv 1) (pa_cons pe_int (pa_cons pe_int pa_nil)))) pa_nil)) pa_nil))) pa_nil)))) pss_nil)
      (pss_cons (ps_set (i := 2) nd rfl (Or.inl rfl) (pe_call G0 hr (by rfl) Y.gLawWays F.kp b0 .nil pass0 (pa_cons (pv 0) (pa_cons (pe_ix ix_tup (pv 1) pe_int (fun _ _ => rfl)) pa_nil))))
      (pss_cons (ps_if (pt_cmpR op_eq (pe_ix ix_tup (pv 1) pe_int (fun _ _ => rfl)) pe_str (nomark _))
        (pss_cons (ps_set (i := 3) nd rfl (Or.inl rfl) (pe_lst pa_nil))
        (pss_cons (ps_for PassesOwn.never rfl (pi_list (pv 2)) (pg_tup rfl (pgs_cons (pg_name (i := 4) nd rfl (Or.inl rfl)) (pgs_cons (pg_name (i := 5) nd rfl (Or.inl rfl)) pgs_nil)))
          (pss_cons (ps_set (i := 6) nd rfl (Or.inl rfl) (pe_op op_cat (pe_lst (pa_cons pe_int (pa_cons pe_int pa_nil))) (pe_listRg (by rfl) (by rfl) Y.bList (prg_2 (by rfl) Y.bRange pe_int (pe_callB call_len_seq (by rfl) Y.bLen PySem.boot_len (pa_cons (pv 4) pa_nil))))))
          (pss_one (ps_expr (pe_bm PySem.F.plainAttrs_list PySem.F.slot_list_append PySem.F.type_list_append mt_append (pv 3) (pa_cons (pe_tup (pa_cons (pe_op op_catA (pe_tup (pa_cons (pe_ix ix_tup (pv 4) pe_int (fun _ _ => rfl)) (pa_cons (pe_ix ix_tup (pv 4) pe_int (fun _ _ => rfl)) pa_nil))) (pe_slice sl_tupA (pv 4) (po_some pe_int) po_none))
            (pa_cons (pe_call GM hr1 (by rfl) Y.gLawMoved FM.kp bM .nil pass0 (pa_cons (pv 5) (pa_cons (pv 6) pa_nil))) pa_nil))) pa_nil))))))
        (pss_one (ps_ret (pv 3))))) pss_nil)
      (pss_cons (ps_set (i := 7) nd rfl (Or.inl rfl) (pe_call G0 hr (by rfl) Y.gLawWays F.kp b0 .nil pass0 (pa_cons (pv 0) (pa_cons (pe_ix ix_tup (pv 1) pe_int (fun _ _ => rfl)) pa_nil))))
      (pss_cons (ps_if (pt_cmpR op_eq (pe_ix ix_tup (pv 1) pe_int (fun _ _ => rfl)) pe_str (nomark _)) (pss_one (ps_ret (pe_op op_cat (pv 2) (pv 7)))) pss_nil)
      (pss_cons (ps_set (i := 3) nd rfl (Or.inl rfl) (pe_lst pa_nil))
      (pss_cons (ps_for PassesOwn.never rfl (pi_list (pv 2)) (pg_name (i := 8) nd rfl (Or.inr rfl))
        (pss_one (ps_set (i := 3) nd rfl (Or.inl rfl) (pe_op op_cat (pv 3) (pe_lc (own := [("_law_other", 9)]) (g := gName 9) (tt := tYes) (te := tCall (spT2 K) [] E0 (tCons (tOp (rIxT K) (tVar 1) (tC (.int 0))) (tCons (tVar 8) (tCons (tVar 9) tNil)))) rfl nd (pi_list (pv 7)) (blkOk_by (N := NLW) (sc := defScope sLawWays) (by decide +kernel))
          (fun _ _ _ _ _ => pg_name (i := 9) nd rfl (Or.inl rfl)) (fun _ _ _ _ _ => pts_nil) (fun _ _ _ _ _ => pe_call GT hr2 (by rfl) Y.gLawTwoWays FT.kp bT .nil pass0 (pa_cons (pe_ix ix_tup (pv 1) pe_int (fun _ _ => rfl)) (pa_cons (pv 8) (pa_cons (pv 9) pa_nil)))))))))
      (pss_one (ps_ret (pv 3))))))))), ?_⟩
    obtain ⟨e, a, xs, ls, tt, ex, ey, rfl, fr, ha, hty, hsh, zN, z6, c1, k⟩ := h
    have ok := fr.ok
    have rt := Ty.rt ok hty
    obtain ⟨us0, hv, _⟩ := ha.view
    refine ⟨_, rfl, a, tt, rfl, ha, rt, by omega, fun H1 s1 => ⟨_, rfl, ?_⟩⟩
    rw [none_fB rt]
    refine ite2 (fun hf => ?_) (fun hf => ?_)
    · refine ⟨_, rfl, _, rfl, e, a, xs, ls, tt, rfl, fr.same s1, ha.same s1, Ty.fm0 hty, by omega, fun T H2 s2 hT => ⟨T, _, rfl, .inr hT, fun T3 H3 s3 hT3 => ?_⟩⟩
      refine ⟨_, rfl, szl (by show 3 ≤ 1000; decide), fun m0 hm0 => ⟨szl (by show 1 ≤ 1000; decide), fun m1 hm1 => ⟨szl (by show 2 ≤ 1000; decide), fun wy hwy => ⟨szl (by show 1 ≤ 1000; decide), fun L hL => ?_⟩⟩⟩⟩
      have q0 := same_upd (o := .tup [V.ref a, V.int 0, V.int 1]) hm0
      have q1 := same_upd (o := .tup [V.ref m0]) hm1
      have q2 := same_upd (o := .tup [V.ref T3, V.ref m1]) hwy
      have q3 := same_upd (o := .lst [V.ref wy]) hL
      have sA := s1.trans (s2.trans (s3.trans (q0.trans (q1.trans q2))))
      refine k L _ (sA.trans q3) ⟨[wy], upd_same, ?_⟩
      rw [flat_wys hf]
      exact .one ⟨T3, m1, sqt_same q3 (SqT.of upd_same), sqt_same (q0.trans (q1.trans (q2.trans q3))) hT3, [m0], sqt_same (q2.trans q3) (SqT.of upd_same), .one ⟨a, sqt_same (q1.trans (q2.trans q3)) (SqT.of upd_same), ha.same (sA.trans q3)⟩⟩
    cases hsh with
    | leaf => exact absurd rfl hf
    | rest fl => exact absurd ((fB_iff _).mpr (show FlT (.one "rest" _) from ⟨.inl rfl, fl⟩)) hf
    | @turned t sh =>
      obtain ⟨b, hb1, hb2⟩ := ha
      rw [show wys ls (.one "turned" t) = (wys ls t).map turnW by rw [wys, if_neg hf]] at k
      rw [cnt, if_neg hf] at c1
      cases hty with
      | turned hty =>
      simp only [Tm.sz] at z6 zN
      refine ⟨_, rfl, _, rfl, a, _, 1, _, rfl, rfl, sqt_same s1 hb1, rfl, e, b, xs, ls, t, ey, ex, rfl, fr.same s1, hb2.same s1, hty, sh, by omega, by omega, c1, fun L0 H2 s2 hW => ?_⟩
      obtain ⟨as0, e0, g0⟩ := hW
      have s12 := s1.trans s2
      rw [← wys_len ls] at c1
      have o0 := wys_ok ok sh hty (by omega)
      have l0 := g0.len
      refine ⟨_, rfl, a, _, 0, _, rfl, rfl, sqt_same s12 hb1, rfl, rfl, _, rfl, ?_⟩
      rw [show decide (V.str ("turned" : Str) = V.str "turned") = true by decide +kernel]
      refine iteT ⟨szl (by show 0 ≤ 1000; decide), fun D hD => ?_⟩
      have sD := same_upd (o := .lst []) hD
      have nD0 : L0 ≠ D := fun z => by rw [← z, e0] at hD; cases hD
      refine ⟨_, rfl, L0, rfl, ⟨_, SqL.of (sD _ _ e0)⟩, for_list (K := K) (a := L0) (xs := as0.map V.ref) (fun i σ G => ∃ (qs : List Addr) (v4 v5 v6 : Option V), σ = [some (.ref e), some (.ref a), some (.ref L0), some (.ref D), v4, v5, v6, none, none, none] ∧ G D = some (.lst (qs.map V.ref)) ∧ Rs (WyAt K) G qs (((wys ls t).take i).map turnW) ∧ Same H2 G)
        ⟨[], _, _, _, rfl, upd_same, .nil, sD⟩ (fun i σ G _ q => by obtain ⟨_, _, _, _, _, _, _, q⟩ := q; exact q.seq (SqL.of e0)) ?_ ?_⟩
      · rintro i v σ G hi ⟨qs, v4, v5, v6, rfl, eq, hQ, sm⟩
        obtain ⟨r, er, rfl⟩ := ref_at hi
        obtain ⟨o, eo, ho⟩ := g0.get er
        have li := (List.getElem?_eq_some_iff.mp eo).1
        have wi := (o0 o (List.mem_of_getElem? eo)).in_ (by omega)
        obtain ⟨s0, m0, h1, h2, h3⟩ := wyAt_xp _ _ _ _ (.of sm) ho
        obtain ⟨x, y, r0, e0'⟩ := wi.sh
        have lx := wi.lx
        have hin := wi.ins
        rw [e0'] at h2 lx hin
        rw [List.length_cons, List.length_cons] at lx
        have ew : turnW o = (y :: x :: r0, rnm (nums 1 0 2 r0.length) o.2) := by unfold turnW; rw [e0']; rfl
        refine ⟨r, _, rfl, h1, rfl, _, _, rfl, _, _, rfl, rfl, ?_⟩
        refine ⟨szl (by show 2 ≤ 1000; decide), fun l0 hl0 => ?_⟩
        have u1 := same_upd (o := .lst [V.int 1, V.int 0]) hl0
        refine ⟨_, rfl, s0, _, rfl, .inr (sqt_same u1 h2), ?_⟩
        rw [List.length_map, List.length_cons, List.length_cons]
        refine ⟨2, _, rfl, rfl, RgOk.of_le (by decide) (by omega) (by decide) (by omega), fun l1 hl1 => ?_⟩
        have u2 := same_upd (o := .lst (rgV 2 ((r0.length + 1 + 1 : Nat) : Int))) hl1
        refine ⟨l0, l1, _, _, rfl, rfl, u2 _ _ upd_same, upd_same, by rw [rgV_length]; show 2 + _ ≤ _; exact szl (by omega), fun l2 hl2 => ?_⟩
        rw [show [V.int 1, V.int 0] ++ rgV 2 ((r0.length + 1 + 1 : Nat) : Int) = paV (nums 1 0 2 r0.length) from rg_nums rfl (by omega)]
        have u3 := u1.trans (u2.trans (same_upd (o := .lst (paV (nums 1 0 2 r0.length))) hl2))
        have f3 : upd (upd (upd G l0 (.lst [V.int 1, V.int 0])) l1 (.lst (rgV 2 ((r0.length + 1 + 1 : Nat) : Int)))) l2 (.lst (paV (nums 1 0 2 r0.length))) l2 = _ := upd_same
        obtain ⟨G2, eG⟩ : ∃ Z, Z = upd (upd (upd G l0 (.lst [V.int 1, V.int 0])) l1 (.lst (rgV 2 ((r0.length + 1 + 1 : Nat) : Int)))) l2 (.lst (paV (nums 1 0 2 r0.length))) := ⟨_, rfl⟩
        dsimp only [gName]
        change tDrop _ _ [some (.ref e), some (.ref a), some (.ref L0), some (.ref D), some (.ref s0), some (.ref m0), some (.ref l2), none, none, none] (upd (upd (upd G l0 (.lst [V.int 1, V.int 0])) l1 (.lst (rgV 2 ((r0.length + 1 + 1 : Nat) : Int)))) l2 (.lst (paV (nums 1 0 2 r0.length))))
        rw [← eG] at u3 f3 ⊢
        clear eG u1 u2 hl0 hl1 hl2
        have h2' := sqt_same u3 h2
        refine ⟨_, rfl, .inl ⟨rfl, _, SqL.of (u3 _ _ eq)⟩, _, rfl, s0, _, 1, _, rfl, rfl, h2', str_atI (i := 1) rfl, _, rfl, s0, _, 0, _, rfl, rfl, h2', str_atI (i := 0) rfl, szl (by show 2 ≤ 1000; decide), fun t1 ht1 => ?_⟩
        have s4 := same_upd (o := .tup [V.str y, V.str x]) ht1
        refine ⟨_, rfl, 2, rfl, slice_from (sqt_same s4 h2') fun t2 G3 s5 hq2 => ?_⟩
        rw [show cutV ((x :: y :: r0).map V.str) (some 2) none = r0.map V.str from cutV_drop _ 2] at hq2
        refine tup_cat (xs := [y, x]) (ys := r0) (SqT.of (s5 _ _ upd_same)) hq2 (by show 2 + _ ≤ _; omega) fun t3 G4 s6 hq3 => ?_
        have sA := s4.trans (s5.trans s6)
        refine ⟨_, rfl, _, rfl, m0, l2, o.2, nums 1 0 2 r0.length, rfl, h3.xt (.of (u3.trans sA)), SqL.of (sA _ _ f3), nums_in hin rfl, wi.lm, fun t4 G5 s7 hq4 => ⟨szl (by show 2 ≤ 1000; decide), fun T hT => ?_⟩⟩
        have s8 := same_upd (o := .tup [V.ref t3, V.ref t4]) hT
        have sB := u3.trans (sA.trans (s7.trans s8))
        have eq2 := sB _ _ eq
        have lq := hQ.len
        rw [List.length_map, List.length_take] at lq
        refine ⟨D, _, _, rfl, rfl, eq2, by rw [List.length_map]; exact small1000 (by omega), qs ++ [T], _, _, _, rfl, by rw [upd_same, List.map_append]; rfl, ?_, same_put hD (sm.trans sB)⟩
        rw [List.take_add_one, eo, List.map_append]
        refine (Rs.app (hQ.xt wyAt_xp (.of sB)) (.one ?_)).xt wyAt_xp (.put eq2)
        rw [ew]
        exact ⟨t3, t4, SqT.of upd_same, sqt_same (s7.trans s8) hq3, hq4.xt (.of s8)⟩
      · rintro σ G ⟨qs, v4, v5, v6, rfl, eq, hQ, sm⟩
        rw [List.length_map, l0, List.take_length] at hQ
        exact ⟨_, rfl, k D G (s12.trans sm) ⟨qs, eq, hQ⟩⟩
    | @joined s t sh1 sh2 =>
      obtain ⟨b, c, hb1, hb2, hb3⟩ := ha
      obtain ⟨c2, c3⟩ := cnt_kids hf
      cases hty with
      | joined ty1 ty2 =>
      simp only [Tm.sz] at z6 zN
      refine ⟨_, rfl, _, rfl, a, _, 1, _, rfl, rfl, sqt_same s1 hb1, rfl, e, b, xs, ls, s, _, _, rfl, fr.same s1, hb2.same s1, ty1, sh1, by omega, by omega, by omega, fun L0 H2 s2 hW => ?_⟩
      obtain ⟨as0, e0, g0⟩ := hW
      have s12 := s1.trans s2
      refine ⟨_, rfl, a, _, 0, _, rfl, rfl, sqt_same s12 hb1, rfl, rfl, _, rfl, ?_⟩
      rw [show decide (V.str ("joined" : Str) = V.str "turned") = false by decide +kernel]
      refine iteF ⟨_, rfl, _, rfl, a, _, 2, _, rfl, rfl, sqt_same s12 hb1, rfl, e, c, xs, ls, t, _, _, rfl, fr.same s12, hb3.same s12, ty2, sh2, by omega, by omega, by omega, fun L1 H3 s3 hW => ?_⟩
      obtain ⟨as1, e1, g1⟩ := hW
      have s13 := s12.trans s3
      have e0 := s3 _ _ e0
      have g0 := g0.xt wyAt_xp (.of s3)
      have o0 := wys_ok ok sh1 ty1 (by omega)
      have o1 := wys_ok ok sh2 ty2 (by omega)
      have l0 := g0.len
      have l1 := g1.len
      refine ⟨_, rfl, a, _, 0, _, rfl, rfl, sqt_same s13 hb1, rfl, rfl, _, rfl, ?_⟩
      rw [show decide (V.str ("joined" : Str) = V.str "joined") = true by decide +kernel]
      rw [show wys ls (.two "joined" s t) = wys ls s ++ wys ls t by rw [wys, if_neg hf, if_pos rfl]] at k
      rw [cnt, if_neg hf, if_pos rfl, ← wys_len ls, ← wys_len ls] at c1
      refine iteT ⟨_, rfl, _, rfl, L0, L1, _, _, rfl, rfl, e0, e1, by rw [List.length_map, List.length_map]; exact szl (by omega), fun D hD => ?_⟩
      have sD := same_upd (o := .lst (as0.map V.ref ++ as1.map V.ref)) hD
      exact k D _ (s13.trans sD) ⟨as0 ++ as1, by rw [upd_same, List.map_append], (g0.app g1).xt wyAt_xp (.of sD)⟩
    | @cut s t sh1 sh2 =>
      obtain ⟨b, c, hb1, hb2, hb3⟩ := ha
      obtain ⟨c2, c3⟩ := cnt_kids hf
      cases hty with
      | cut ty1 ty2 =>
      simp only [Tm.sz] at z6 zN
      refine ⟨_, rfl, _, rfl, a, _, 1, _, rfl, rfl, sqt_same s1 hb1, rfl, e, b, xs, ls, s, _, _, rfl, fr.same s1, hb2.same s1, ty1, sh1, by omega, by omega, by omega, fun L0 H2 s2 hW => ?_⟩
      obtain ⟨as0, e0, g0⟩ := hW
      have s12 := s1.trans s2
      refine ⟨_, rfl, a, _, 0, _, rfl, rfl, sqt_same s12 hb1, rfl, rfl, _, rfl, ?_⟩
      rw [show decide (V.str ("cut" : Str) = V.str "turned") = false by decide +kernel]
      refine iteF ⟨_, rfl, _, rfl, a, _, 2, _, rfl, rfl, sqt_same s12 hb1, rfl, e, c, xs, ls, t, _, _, rfl, fr.same s12, hb3.same s12, ty2, sh2, by omega, by omega, by omega, fun L1 H3 s3 hW => ?_⟩
      obtain ⟨as1, e1, g1⟩ := hW
      have s13 := s12.trans s3
      have e0 := s3 _ _ e0
      have g0 := g0.xt wyAt_xp (.of s3)
      have o0 := wys_ok ok sh1 ty1 (by omega)
      have o1 := wys_ok ok sh2 ty2 (by omega)
      have l0 := g0.len
      have l1 := g1.len
      refine ⟨_, rfl, a, _, 0, _, rfl, rfl, sqt_same s13 hb1, rfl, rfl, _, rfl, ?_⟩
      rw [show decide (V.str ("cut" : Str) = V.str "joined") = false by decide +kernel]
      rw [show wys ls (.two "cut" s t) = (wys ls s).flatMap (fun o => (wys ls t).map (cutW o)) by rw [wys, if_neg hf, if_neg (by decide +kernel), if_pos rfl]] at k
      rw [cnt, if_neg hf, if_neg (by decide +kernel), ← wys_len ls, ← wys_len ls] at c1
      have tw : ∀ o p, twoW "cut" o p = cutW o p := fun o p => by unfold twoW; rw [if_pos rfl]
      refine iteF ⟨szl (by show 0 ≤ 1000; decide), fun D0 hD0 => ?_⟩
      have sD := same_upd (o := .lst []) hD0
      refine ⟨_, rfl, L0, rfl, ⟨_, SqL.of (sD _ _ e0)⟩, for_list (K := K) (a := L0) (xs := as0.map V.ref) (fun i σ G => ∃ (D : Addr) (qs : List Addr) (v8 : Option V), σ = [some (.ref e), some (.ref a), some (.ref L0), some (.ref D), none, none, none, some (.ref L1), v8, none] ∧ G D = some (.lst (qs.map V.ref)) ∧ Rs (WyAt K) G qs (((wys ls s).take i).flatMap fun o => (wys ls t).map (cutW o)) ∧ Same H3 G)
        ⟨D0, [], _, rfl, upd_same, .nil, sD⟩ (fun i σ G _ q => by obtain ⟨_, _, _, _, _, _, q⟩ := q; exact q.seq (SqL.of e0)) ?_ ?_⟩
      · rintro i v σ G hi ⟨D, qs, v8, rfl, eq, hQ, sm⟩
        obtain ⟨r, er, rfl⟩ := ref_at hi
        obtain ⟨o, eo, ho⟩ := g0.get er
        have li := (List.getElem?_eq_some_iff.mp eo).1
        have oo := o0 o (List.mem_of_getElem? eo)
        have fl := fm_const (fun o => (wys ls t).map (cutW o)) (wys ls t).length ((wys ls s).take i) fun x _ => List.length_map _
        rw [List.length_take, Nat.min_eq_left (by omega)] at fl
        have i1 : i * (wys ls t).length + (wys ls t).length ≤ (wys ls s).length * (wys ls t).length := by
          rw [← Nat.succ_mul]
          exact Nat.mul_le_mul_right _ li
        have lq0 := hQ.len
        rw [fl] at lq0
        dsimp only [gName]
        refine ⟨_, rfl, _, rfl, L1, rfl, ⟨_, SqL.of (sm _ _ e1)⟩, fun E hE => ?_⟩
        have nDE : D ≠ E := fun z => by rw [← z, eq] at hE; cases hE
        refine lc_list (K := K) (a := L1) (xs := as1.map V.ref) (fun j G2 => ∃ ps : List Addr, G2 E = some (.lst (ps.map V.ref)) ∧ Rs (WyAt K) G2 ps (((wys ls t).take j).map (cutW o)) ∧ Same G G2) ⟨[], upd_same, .nil, same_upd hE⟩ (fun j G2 _ q => by obtain ⟨_, _, _, q⟩ := q; exact (sm.trans q).seq (SqL.of e1)) ?_ ?_
        · rintro j v G2 hj ⟨ps, ep, hP, sm2⟩
          obtain ⟨r2, er2, rfl⟩ := ref_at hj
          obtain ⟨p, ep2, hp⟩ := g1.get er2
          have lj := (List.getElem?_eq_some_iff.mp ep2).1
          have oo2 := o1 p (List.mem_of_getElem? ep2)
          have x1 := oo.ln
          have x2 := oo.mn
          have x3 := oo2.ln
          have x4 := oo2.mn
          have sA := sm.trans sm2
          refine ⟨rfl, _, rfl, a, _, 0, _, rfl, rfl, sqt_same (s13.trans sA) hb1, rfl, _, rfl, _, rfl, "cut", r, r2, o, p, rfl, wyAt_xp _ _ _ _ (.of sA) ho, wyAt_xp _ _ _ _ (.of sA) hp, oo.in_ (by omega), oo2.in_ (by omega), by omega, by omega, fun T G5 s5 hT => ?_⟩
          rw [tw] at hT
          have lq := hP.len
          rw [List.length_map, List.length_take, Nat.min_eq_left (by omega)] at lq
          have e5 := s5 _ _ ep
          refine ⟨_, e5, by rw [List.length_map]; exact big16 (by omega), ps ++ [T], by rw [upd_same, List.map_append]; rfl, ?_, same_put hE (sm2.trans s5)⟩
          rw [List.take_add_one, ep2, List.map_append]
          exact (Rs.app (hP.xt wyAt_xp (.of s5)) (.one hT)).xt wyAt_xp (.put e5)
        · rintro G2 ⟨ps, ep, hP, sm2⟩
          rw [List.length_map, l1, List.take_length] at hP
          have lp := hP.len
          rw [List.length_map] at lp
          refine ⟨D, E, _, _, rfl, rfl, sm2 _ _ eq, ep, by rw [List.length_map, List.length_map]; exact szl (by omega), fun D2 hD2 => ?_⟩
          have sE := same_upd (o := .lst (qs.map V.ref ++ ps.map V.ref)) hD2
          refine ⟨D2, qs ++ ps, _, rfl, by rw [upd_same, List.map_append], ?_, sm.trans (sm2.trans sE)⟩
          rw [List.take_add_one, eo, List.flatMap_append]
          have z := ((hQ.xt wyAt_xp (.of sm2)).app hP).xt wyAt_xp (.of sE)
          simpa using z
      · rintro σ G ⟨D, qs, v8, rfl, eq, hQ, sm⟩
        rw [List.length_map, l0, List.take_length] at hQ
        exact ⟨_, rfl, k D G (s13.trans sm) ⟨qs, eq, hQ⟩⟩
    | @then_ s t sh1 sh2 =>
      obtain ⟨b, c, hb1, hb2, hb3⟩ := ha
      obtain ⟨c2, c3⟩ := cnt_kids hf
      cases hty with
      | then_ ty1 ty2 =>
      simp only [Tm.sz] at z6 zN
      refine ⟨_, rfl, _, rfl, a, _, 1, _, rfl, rfl, sqt_same s1 hb1, rfl, e, b, xs, ls, s, _, _, rfl, fr.same s1, hb2.same s1, ty1, sh1, by omega, by omega, by omega, fun L0 H2 s2 hW => ?_⟩
      obtain ⟨as0, e0, g0⟩ := hW
      have s12 := s1.trans s2
      refine ⟨_, rfl, a, _, 0, _, rfl, rfl, sqt_same s12 hb1, rfl, rfl, _, rfl, ?_⟩
      rw [show decide (V.str ("then" : Str) = V.str "turned") = false by decide +kernel]
      refine iteF ⟨_, rfl, _, rfl, a, _, 2, _, rfl, rfl, sqt_same s12 hb1, rfl, e, c, xs, ls, t, _, _, rfl, fr.same s12, hb3.same s12, ty2, sh2, by omega, by omega, by omega, fun L1 H3 s3 hW => ?_⟩
      obtain ⟨as1, e1, g1⟩ := hW
      have s13 := s12.trans s3
      have e0 := s3 _ _ e0
      have g0 := g0.xt wyAt_xp (.of s3)
      have o0 := wys_ok ok sh1 ty1 (by omega)
      have o1 := wys_ok ok sh2 ty2 (by omega)
      have l0 := g0.len
      have l1 := g1.len
      refine ⟨_, rfl, a, _, 0, _, rfl, rfl, sqt_same s13 hb1, rfl, rfl, _, rfl, ?_⟩
      rw [show decide (V.str ("then" : Str) = V.str "joined") = false by decide +kernel]
      rw [show wys ls (.two "then" s t) = (wys ls s).flatMap (fun o => (wys ls t).map (thenW o)) by rw [wys, if_neg hf, if_neg (by decide +kernel), if_neg (by decide +kernel)]] at k
      rw [cnt, if_neg hf, if_neg (by decide +kernel), ← wys_len ls, ← wys_len ls] at c1
      have tw : ∀ o p, twoW "then" o p = thenW o p := fun o p => by unfold twoW; rw [if_neg (by decide +kernel)]
      refine iteF ⟨szl (by show 0 ≤ 1000; decide), fun D0 hD0 => ?_⟩
      have sD := same_upd (o := .lst []) hD0
      refine ⟨_, rfl, L0, rfl, ⟨_, SqL.of (sD _ _ e0)⟩, for_list (K := K) (a := L0) (xs := as0.map V.ref) (fun i σ G => ∃ (D : Addr) (qs : List Addr) (v8 : Option V), σ = [some (.ref e), some (.ref a), some (.ref L0), some (.ref D), none, none, none, some (.ref L1), v8, none] ∧ G D = some (.lst (qs.map V.ref)) ∧ Rs (WyAt K) G qs (((wys ls s).take i).flatMap fun o => (wys ls t).map (thenW o)) ∧ Same H3 G)
        ⟨D0, [], _, rfl, upd_same, .nil, sD⟩ (fun i σ G _ q => by obtain ⟨_, _, _, _, _, _, q⟩ := q; exact q.seq (SqL.of e0)) ?_ ?_⟩
      · rintro i v σ G hi ⟨D, qs, v8, rfl, eq, hQ, sm⟩
        obtain ⟨r, er, rfl⟩ := ref_at hi
        obtain ⟨o, eo, ho⟩ := g0.get er
        have li := (List.getElem?_eq_some_iff.mp eo).1
        have oo := o0 o (List.mem_of_getElem? eo)
        have fl := fm_const (fun o => (wys ls t).map (thenW o)) (wys ls t).length ((wys ls s).take i) fun x _ => List.length_map _
        rw [List.length_take, Nat.min_eq_left (by omega)] at fl
        have i1 : i * (wys ls t).length + (wys ls t).length ≤ (wys ls s).length * (wys ls t).length := by
          rw [← Nat.succ_mul]
          exact Nat.mul_le_mul_right _ li
        have lq0 := hQ.len
        rw [fl] at lq0
        dsimp only [gName]
        refine ⟨_, rfl, _, rfl, L1, rfl, ⟨_, SqL.of (sm _ _ e1)⟩, fun E hE => ?_⟩
        have nDE : D ≠ E := fun z => by rw [← z, eq] at hE; cases hE
        refine lc_list (K := K) (a := L1) (xs := as1.map V.ref) (fun j G2 => ∃ ps : List Addr, G2 E = some (.lst (ps.map V.ref)) ∧ Rs (WyAt K) G2 ps (((wys ls t).take j).map (thenW o)) ∧ Same G G2) ⟨[], upd_same, .nil, same_upd hE⟩ (fun j G2 _ q => by obtain ⟨_, _, _, q⟩ := q; exact (sm.trans q).seq (SqL.of e1)) ?_ ?_
        · rintro j v G2 hj ⟨ps, ep, hP, sm2⟩
          obtain ⟨r2, er2, rfl⟩ := ref_at hj
          obtain ⟨p, ep2, hp⟩ := g1.get er2
          have lj := (List.getElem?_eq_some_iff.mp ep2).1
          have oo2 := o1 p (List.mem_of_getElem? ep2)
          have x1 := oo.ln
          have x2 := oo.mn
          have x3 := oo2.ln
          have x4 := oo2.mn
          have sA := sm.trans sm2
          refine ⟨rfl, _, rfl, a, _, 0, _, rfl, rfl, sqt_same (s13.trans sA) hb1, rfl, _, rfl, _, rfl, "then", r, r2, o, p, rfl, wyAt_xp _ _ _ _ (.of sA) ho, wyAt_xp _ _ _ _ (.of sA) hp, oo.in_ (by omega), oo2.in_ (by omega), by omega, by omega, fun T G5 s5 hT => ?_⟩
          rw [tw] at hT
          have lq := hP.len
          rw [List.length_map, List.length_take, Nat.min_eq_left (by omega)] at lq
          have e5 := s5 _ _ ep
          refine ⟨_, e5, by rw [List.length_map]; exact big16 (by omega), ps ++ [T], by rw [upd_same, List.map_append]; rfl, ?_, same_put hE (sm2.trans s5)⟩
          rw [List.take_add_one, ep2, List.map_append]
          exact (Rs.app (hP.xt wyAt_xp (.of s5)) (.one hT)).xt wyAt_xp (.put e5)
        · rintro G2 ⟨ps, ep, hP, sm2⟩
          rw [List.length_map, l1, List.take_length] at hP
          have lp := hP.len
          rw [List.length_map] at lp
          refine ⟨D, E, _, _, rfl, rfl, sm2 _ _ eq, ep, by rw [List.length_map, List.length_map]; exact szl (by omega), fun D2 hD2 => ?_⟩
          have sE := same_upd (o := .lst (qs.map V.ref ++ ps.map V.ref)) hD2
          refine ⟨D2, qs ++ ps, _, rfl, by rw [upd_same, List.map_append], ?_, sm.trans (sm2.trans sE)⟩
          rw [List.take_add_one, eo, List.flatMap_append]
          have z := ((hQ.xt wyAt_xp (.of sm2)).app hP).xt wyAt_xp (.of sE)
          simpa using z
      · rintro σ G ⟨D, qs, v8, rfl, eq, hQ, sm⟩
        rw [List.length_map, l0, List.take_length] at hQ
        exact ⟨_, rfl, k D G (s13.trans sm) ⟨qs, eq, hQ⟩⟩
theorem lw_none : FnOk P w K mg base CX0 61 (He.ga K "_law_ways") fd PLW (spLW K 0) := by
  have no : ∀ t : Tm, ¬ t.sz ≤ 0 := fun t => by cases t <;> simp only [Tm.sz] <;> omega
  refine ⟨fun vs H Q E h => ?_, fun A outer s H args us vs Q E hr e0 bt r h => ?_⟩
  · obtain ⟨_, _, _, _, t, _, _, _, _, _, _, _, h2, _⟩ := h
    exact absurd h2 (no t)
  · obtain ⟨_, _, _, _, t, _, _, _, _, _, _, _, h2, _⟩ := h
    exact absurd h2 (no t)
theorem ok_lw (F : FnP K "_law_ways" sLawWays (He.ga K "_law_ways") fd) (Y : Fx w K mg) : ∀ N, FnOk P w K mg base CX0 (61 + N) (He.ga K "_law_ways") fd PLW (spLW K N)
  | 0 => lw_none
  | N + 1 => lw_step F Y (ok_lw F Y N) (Nat.le_add_right 61 N)
end
end K43

namespace K43
open PySem PySem.Spec PyProof.Rows L2 Ow Xv
/-! ### the law's own made ways -/
theorem fr_totals {H : Hp} {d s m o t b : Addr} (h : H d = some (.dK (frV s m o t b))) : DGet H d (.str "totals") (some (.ref t)) := by
  have z : DGet H d (kV (.inr "totals")) (valV (frV s m o t b) (.inr "totals")) := DGet.k h
  rw [show valV (frV s m o t b) (.inr "totals") = some (.ref t) from rfl] at z
  exact z
abbrev NMW : List Str := ["_law_frame_here", "_law_way", "_law_sorts", "_law_marks", "_law_makers", "_law_place", "_law_name", "_law_word", "_law_ends_here"]
abbrev PMW : List Str := ["_law_frame_here", "_law_way"]
theorem scMW : FnScope NMW PMW (defScope sLawMadeWays) := ⟨rfl, rfl, rfl, by decide +kernel, rfl, by decide +kernel, by decide +kernel⟩
def WdOk (ts : List Tt) : Prop := ∀ t ∈ ts, t.2 = ("on" : Str) ∨ t.2 = ("back" : Str)
def spMW (K : PySem.W.Frag) : Sp := fun vs H Q _ => ∃ (e a b : Addr) (w : Wy) (n : Nat) (f : Gs) (xs : List Str) (ls : List Lt) (ts : List Tt), vs = [.ref e, .ref a] ∧ FrAt K H e xs ls ∧ MdAt K H e xs ls ts b ∧ WdOk ts ∧ WyAt K H a w ∧ Gr ls ts n 0 (w.1, []) f ∧ f.1.length ≤ 2000 ∧ w.2.length ≤ 900 ∧
  ∀ (T A M : Addr) (H' : Hp), Same H H' → SqT K H' T [.ref A, .ref M] → WyAt K H' A (madeW w f) → Q (.ref T) H'
/-- the loop's heap -/
structure MwI (K : PySem.W.Frag) (ls : List Lt) (H : Hp) (w : Wy) (S0 M0 K0 : Addr) (s : Gs) (G : Hp) : Prop where
  eS : G S0 = some (.lst (s.1.map V.str))
  mks : ∃ ms : List Addr, G M0 = some (.lst (ms.map V.ref)) ∧ Rs (MkAt K) G ms (w.2 ++ smk w.1.length s.2)
  ks : ∃ ks : List V, G K0 = some (.lst ks) ∧ ks.length = s.2.length
  sm : Same H G
theorem tfs_snoc {ls : List Lt} {ts : List Tt} {z : Str} {j : Nat} {t : Tt} (e : ts[j]? = some t) : tfs ls (ts.take (j + 1)) z = tfs ls (ts.take j) z ++ if (stepOf (endOf ls t.1) t).1 = z then [t] else [] := by
  unfold tfs
  rw [List.take_add_one, e, List.filter_append]
  congr 1
  show List.filter _ [t] = _
  rw [List.filter_cons, List.filter_nil]
  by_cases q : (stepOf (endOf ls t.1) t).1 = z
  · rw [if_pos q, if_pos (decide_eq_true q)]
  · rw [if_neg q, if_neg (by rw [decide_eq_false q]; exact Bool.false_ne_true)]
def gpart (ls : List Lt) (ts : List Tt) (i j : Nat) (s : Gs) : Gs := (s.1 ++ (tfs ls (ts.take j) (s.1.getD i "")).map (led ls), s.2 ++ (tfs ls (ts.take j) (s.1.getD i "")).map fun t => (i, t))
section
variable {P : Program} {w : World} {K : PySem.W.Frag} {mg : Str → Option Value} {base : Heap} {f : Addr} {fd : FuncData}
theorem ok_mw (F : FnP K "_law_made_ways" sLawMadeWays f fd) (Y : Fx w K mg) : FnOk P w K mg base CX0 1 f fd PMW (spMW K) := by
  refine okD F scMW (fun vs H Q E h => ?_) (fun cdv A outer s H vs Q E hr h => ?_)
  · obtain ⟨e, a, b, w, n, f, xs, ls, ts, rfl, _⟩ := h
    rfl
  · have nd := scMW.nd
    have hu := hu_of hr
    refine ⟨_, pss_cons (ps_asg (pe_tup (pa_cons (pe_callTy call_list_of (by rfl) Y.bList boot_list (pa_cons (pe_ix ix_tup (pv 1) pe_int (fun _ _ => rfl)) pa_nil)) (pa_cons (pe_callTy call_list_of (by rfl) Y.bList boot_list (pa_cons (pe_ix ix_tup (pv 1) pe_int (fun _ _ => rfl)) pa_nil)) (pa_cons (pe_lst pa_nil) (pa_cons pe_int pa_nil)))))
        (pg_tup rfl (pgs_cons (pg_name (i := 2) nd rfl (Or.inl rfl)) (pgs_cons (pg_name (i := 3) nd rfl (Or.inl rfl)) (pgs_cons (pg_name (i := 4) nd rfl (Or.inl rfl)) (pgs_cons (pg_name (i := 5) nd rfl (Or.inl rfl)) pgs_nil))))))
      (pss_cons (ps_while PassesOwn.never (pt_cmpR op_lt (pv 5) (pe_callB call_len_seq (by rfl) Y.bLen PySem.boot_len (pa_cons (pv 2) pa_nil)) (nomark _))
        (pss_cons (ps_for PassesOwn.never rfl (pi_list (pe_dget hu (pv 0) pe_str nosl)) (pg_tup rfl (pgs_cons (pg_name (i := 6) nd rfl (Or.inl rfl)) (pgs_cons (pg_name (i := 7) nd rfl (Or.inl rfl)) pgs_nil)))
          (pss_cons (ps_set (i := 8) nd rfl (Or.inl rfl) (pe_dget hu (pe_dget hu (pv 0) pe_str nosl) (pv 6) nosl))
          (pss_cons (ps_if (pw_and (pt_cmpR op_eq (pv 7) pe_str (nomark _)) (pw_and1 (pt_cmpR op_eq (pe_ix ix_tup (pv 8) pe_int (fun _ _ => rfl)) (pe_ix ix_list (pv 2) (pv 5) (fun _ _ => rfl)) (nomark _)))).pt
            (pss_one (ps_expr (pe_bm PySem.F.plainAttrs_list PySem.F.slot_list_append PySem.F.type_list_append mt_append (pv 3) (pa_cons (pe_tup (pa_cons (pe_tup (pa_cons pe_str (pa_cons (pv 6) pa_nil))) (pa_cons (pv 5) (pa_cons (pe_callB call_len_seq (by rfl) Y.bLen PySem.boot_len (pa_cons (pv 2) pa_nil)) pa_nil)))) pa_nil))))
            (pss_one (ps_if (pw_and (pt_cmpR op_eq (pv 7) pe_str (nomark _)) (pw_and1 (pt_cmpR op_eq (pe_ix ix_tup (pv 8) pe_int (fun _ _ => rfl)) (pe_ix ix_list (pv 2) (pv 5) (fun _ _ => rfl)) (nomark _)))).pt
              (pss_one (ps_expr (pe_bm PySem.F.plainAttrs_list PySem.F.slot_list_append PySem.F.type_list_append mt_append (pv 3) (pa_cons (pe_tup (pa_cons (pe_tup (pa_cons pe_str (pa_cons (pv 6) pa_nil))) (pa_cons (pe_callB call_len_seq (by rfl) Y.bLen PySem.boot_len (pa_cons (pv 2) pa_nil)) (pa_cons (pv 5) pa_nil)))) pa_nil))))
              (pss_one ps_continue))))
          (pss_cons (ps_expr (pe_bm PySem.F.plainAttrs_list PySem.F.slot_list_append PySem.F.type_list_append mt_append (pv 4) (pa_cons (pe_tup (pa_cons (pv 6) (pa_cons (pv 7) (pa_cons (pv 5) pa_nil)))) pa_nil)))
          (pss_one (ps_expr (pe_bm PySem.F.plainAttrs_list PySem.F.slot_list_append PySem.F.type_list_append mt_append (pv 2) (pa_cons (pe_ix ix_tup (pv 8) (pe_callTy call_int1 (by rfl) Y.bInt boot_int (pa_cons (pe_cmpR op_eq (pv 7) pe_str (nomark _)) pa_nil)) (fun _ _ => rfl)) pa_nil))))))))
        (pss_one (ps_set (i := 5) nd rfl (Or.inl rfl) (pe_op op_add (pv 5) pe_int)))))
      (pss_one (ps_ret (pe_tup (pa_cons (pe_tup (pa_cons (pe_callTy call_tupA (by rfl) Y.bTuple (by decide +kernel) (pa_cons (pv 2) pa_nil)) (pa_cons (pe_callTy call_tupA (by rfl) Y.bTuple (by decide +kernel) (pa_cons (pv 3) pa_nil)) pa_nil))) (pa_cons (pv 4) pa_nil)))))), ?_⟩
    obtain ⟨e, a, b, w, n, f, xs, ls, ts, rfl, fr, ⟨⟨_, _, _, t0, he, hT⟩, hF, gd⟩, wdo, ⟨s0, m0, ha, hs, ⟨rs0, hm, hR0⟩⟩, hG, lf, lm, k⟩ := h
    obtain ⟨_, m, _, _, gm, _, _, lmm, _⟩ := fr.fr
    have ok := fr.ok
    obtain ⟨bs, eB, hB⟩ := hT
    have lb : bs.length = ts.length := by rw [hB.1, List.length_map]
    have lw := hR0.len
    refine ⟨_, rfl, a, _, 0, _, rfl, rfl, ha, rfl, s0, _, rfl, .inr hs, fun S0 hS0 => ?_⟩
    have s1 := same_upd (o := .lst (w.1.map V.str)) hS0
    refine ⟨_, rfl, a, _, 1, _, rfl, rfl, sqt_same s1 ha, rfl, m0, _, rfl, .inr (sqt_same s1 hm), fun M0 hM0 => ⟨szl (by show 0 ≤ 1000; decide), fun K0 hK0 => ⟨szl (by show 4 ≤ 1000; decide), fun T0 hT0 => ⟨T0, _, rfl, SqT.of upd_same, rfl, _, _, rfl, _, _, rfl, _, _, rfl, _, _, rfl, rfl, ?_⟩⟩⟩⟩
    have s2 := same_upd (o := .lst (rs0.map V.ref)) hM0
    have s3 := same_upd (o := .lst []) hK0
    have s4 := same_upd (o := .tup [V.ref S0, V.ref M0, V.ref K0, V.int 0]) hT0
    have nMS : M0 ≠ S0 := fun z => by rw [z, upd_same] at hM0; cases hM0
    have eS2 := s2 _ _ (upd_same : upd H S0 (.lst (w.1.map V.str)) S0 = _)
    have nKS : K0 ≠ S0 := fun z => by rw [z, eS2] at hK0; cases hK0
    have nKM : K0 ≠ M0 := fun z => by rw [z, upd_same] at hK0; cases hK0
    have nS : H S0 = none := hS0
    have nM : H M0 = none := none_of s1 hM0
    have nK : H K0 = none := none_of (s1.trans s2) hK0
    have I0 : MwI K ls H w S0 M0 K0 (w.1, []) (upd (upd (upd (upd H S0 (.lst (w.1.map V.str))) M0 (.lst (rs0.map V.ref))) K0 (.lst [])) T0 (.tup [V.ref S0, V.ref M0, V.ref K0, V.int 0])) :=
      ⟨s4 _ _ (s3 _ _ eS2), ⟨rs0, s4 _ _ (s3 _ _ upd_same), by show Rs _ _ _ (w.2 ++ []); rw [List.append_nil]; exact hR0.xt mkAt_xp (.of (s1.trans (s2.trans (s3.trans s4))))⟩, ⟨[], s4 _ _ upd_same, rfl⟩, s1.trans (s2.trans (s3.trans s4))⟩
    refine ⟨fun mm σ G => ∃ (i : Nat) (s : Gs) (v6 v7 v8 : Option V), σ = [some (.ref e), some (.ref a), some (.ref S0), some (.ref M0), some (.ref K0), some (.int (i : Int)), v6, v7, v8] ∧ Gr ls ts mm i s f ∧ s.1.length = w.1.length + s.2.length ∧ MwI K ls H w S0 M0 K0 s G, ⟨n, 0, (w.1, []), none, none, none, rfl, hG, rfl, I0⟩, ?_⟩
    clear I0 s4 s3 eS2 s2 s1 hT0 hK0 hM0 hG
    rintro mm σ G ⟨i, s, v6, v7, v8, rfl, hG, l12, I⟩
    refine ⟨_, rfl, _, rfl, S0, _, rfl, .inl (SqL.of I.eS), ?_⟩
    rw [List.length_map]
    refine ⟨_, _, rfl, rfl, _, rfl, ite2 (fun hc => ?_) (fun hc => ?_)⟩
    · have li : i < s.1.length := by
        have z : (i : Int) < (s.1.length : Int) := of_decide_eq_true hc
        omega
      cases hG with
      | stop q => omega
      | @next n' _ _ _ _ hG =>
      have gd2 : s.1[i]? = some (s.1.getD i "") := by simp [List.getD, li]
      have lgs := hG.len
      refine ⟨fun σ G => ∃ (i : Nat) (s : Gs) (v6 v7 v8 : Option V), σ = [some (.ref e), some (.ref a), some (.ref S0), some (.ref M0), some (.ref K0), some (.int (i : Int)), v6, v7, v8] ∧ Gr ls ts n' i s f ∧ s.1.length = w.1.length + s.2.length ∧ MwI K ls H w S0 M0 K0 s G, fun σ' G' h => ⟨n', Nat.lt_succ_self _, h⟩, ?_⟩
      have gp0 : gpart ls ts i 0 s = s := by unfold gpart tfs; simp
      have gpl : ∀ j, j ≤ ts.length → (gpart ls ts i j s).1.length ≤ (gstep ls ts i s).1.length ∧ (gpart ls ts i j s).1.length = s.1.length + ((tfs ls (ts.take j) (s.1.getD i "")).length) ∧ (gpart ls ts i j s).2.length = s.2.length + ((tfs ls (ts.take j) (s.1.getD i "")).length) := fun j _ => by
        unfold gpart gstep
        simp only [List.length_append, List.length_map]
        refine ⟨?_, trivial, trivial⟩
        have : (tfs ls (ts.take j) (s.1.getD i "")).length ≤ (tfs ls ts (s.1.getD i "")).length := ((List.take_sublist j ts).filter _).length_le
        omega
      refine ⟨_, rfl, e, .ref t0, rfl, fr_totals (I.sm _ _ he), t0, rfl, ⟨_, SqL.of (I.sm _ _ eB)⟩, for_list (K := K) (a := t0) (xs := bs.map V.ref) (fun j σ G => ∃ (v6 v7 v8 : Option V), σ = [some (.ref e), some (.ref a), some (.ref S0), some (.ref M0), some (.ref K0), some (.int (i : Int)), v6, v7, v8] ∧ MwI K ls H w S0 M0 K0 (gpart ls ts i j s) G)
        ⟨_, _, _, rfl, by rw [gp0]; exact I⟩ (fun j σ G _ q => by obtain ⟨_, _, _, _, q⟩ := q; exact q.sm.seq (SqL.of eB)) ?_ ?_⟩
      · rintro j v σ G hj ⟨v6, v7, v8, rfl, I⟩
        obtain ⟨bb, eb, rfl⟩ := ref_at hj
        obtain ⟨vs, e1, hBB⟩ := hB.2 j bb eb
        obtain ⟨tt, e2, rfl⟩ := tt_at e1
        have lj := (List.getElem?_eq_some_iff.mp e2).1
        have tm := List.mem_of_getElem? e2
        obtain ⟨mq, nq⟩ := endOf_ok (gd.mem tt tm)
        obtain ⟨q, eq⟩ : ∃ q, q = endOf ls tt.1 := ⟨_, rfl⟩
        rw [← eq] at mq nq
        obtain ⟨j2, lj2, ej2⟩ := List.getElem_of_mem mq
        obtain ⟨ea, dg0, st0⟩ := lmm.get ok.nl.nd (show ls[j2]? = some q by rw [List.getElem?_eq_getElem lj2, ej2])
        rw [nq] at dg0
        have dg := dget_mono I.sm dg0
        have st := sqt_same I.sm st0
        have sn := tfs_snoc (ls := ls) (z := s.1.getD i "") e2
        rw [← eq] at sn
        obtain ⟨gl1, gl2, gl3⟩ := gpl j (by omega)
        obtain ⟨gm1, gm2, gm3⟩ := gpl (j + 1) (by omega)
        have cur : (gpart ls ts i j s).1[i]? = some (s.1.getD i "") := by unfold gpart; exact getE_app0 gd2
        obtain ⟨cs, ecs⟩ : ∃ cs, cs = gpart ls ts i j s := ⟨_, rfl⟩
        rw [← ecs] at I gl1 gl2 gl3 cur
        have eS := I.eS
        refine ⟨bb, _, rfl, sqt_same I.sm hBB, rfl, _, _, rfl, _, _, rfl, rfl, ?_⟩
        refine ⟨_, rfl, e, .ref m, rfl, dget_mono I.sm gm, _, rfl, m, .ref ea, rfl, dg, ?_⟩
        dsimp only [gName]
        -- a mark, or no more of this turn
        refine seq_any (fun σ' G' => (stepOf q tt).1 = s.1.getD i "" ∧ σ' = [some (.ref e), some (.ref a), some (.ref S0), some (.ref M0), some (.ref K0), some (.int (i : Int)), some (.str tt.1), some (.str tt.2), some (.ref ea)] ∧ Same H G' ∧ G' S0 = some (.lst (cs.1.map V.str)) ∧
          (∃ ks : List V, G' K0 = some (.lst ks) ∧ ks.length = cs.2.length) ∧ ∃ ms : List Addr, G' M0 = some (.lst (ms.map V.ref)) ∧ Rs (MkAt K) G' ms (w.2 ++ smk w.1.length (cs.2 ++ [(i, tt)]))) ?_ ?_
        rotate_left
        · intro nx hnx
          obtain ⟨ms, eM, hM⟩ := I.mks
          obtain ⟨ks, eK, lk⟩ := I.ks
          have lms := hM.len
          rw [List.length_append, smk_len] at lms
          have lcs : cs.1.length = w.1.length + cs.2.length := by omega
          have put : ∀ (i2 j2 : Nat), mk1 (w.1.length + cs.2.length) (i, tt) = (.leaf "letter" [tt.1], i2, j2) → (stepOf q tt).1 = s.1.getD i "" → ∀ T1, G T1 = none → ∀ T2, upd G T1 (.tup [V.str "letter", V.str tt.1]) T2 = none →
              ∃ l xs, (.ref M0 : V) = .ref l ∧ (upd (upd G T1 (.tup [V.str "letter", V.str tt.1])) T2 (.tup [V.ref T1, V.int (i2 : Int), V.int (j2 : Int)])) l = some (.lst xs) ∧ xs.length < sizeLine ∧
              nx [some (.ref e), some (.ref a), some (.ref S0), some (.ref M0), some (.ref K0), some (.int (i : Int)), some (.str tt.1), some (.str tt.2), some (.ref ea)] (upd (upd (upd G T1 (.tup [V.str "letter", V.str tt.1])) T2 (.tup [V.ref T1, V.int (i2 : Int), V.int (j2 : Int)])) l (.lst (xs ++ [.ref T2]))) := fun i2 j2 emk hst T1 hT1 T2 hT2 => by
            have z1 := same_upd (o := .tup [V.str "letter", V.str tt.1]) hT1
            have z2 := same_upd (o := .tup [V.ref T1, V.int (i2 : Int), V.int (j2 : Int)]) hT2
            have z12 := z1.trans z2
            have eM2 := z12 _ _ eM
            refine ⟨M0, _, rfl, eM2, by rw [List.length_map]; exact big16 (by omega), hnx _ _ ⟨hst, rfl, same_put nM (I.sm.trans z12), (upd_ne (Ne.symm nMS)).trans (z12 _ _ eS), ⟨ks, (upd_ne nKM).trans (z12 _ _ eK), lk⟩, ms ++ [T2], by rw [upd_same, List.map_append]; rfl, ?_⟩⟩
            rw [smk_snoc, emk, ← List.append_assoc]
            exact ((hM.xt mkAt_xp (.of z12)).xt mkAt_xp (.put eM2)).app (.one (show MkAt K _ T2 (.leaf "letter" [tt.1], i2, j2) from ⟨T1, (XT.put eM2).sqt (SqT.of upd_same), (XT.put eM2).sqt (sqt_same z2 (SqT.of upd_same))⟩))
          have no : (stepOf q tt).1 ≠ s.1.getD i "" → ∃ (v6 v7 v8 : Option V), [some (.ref e), some (.ref a), some (.ref S0), some (.ref M0), some (.ref K0), some (.int (i : Int)), some (.str tt.1), some (.str tt.2), some (.ref ea)] = [some (.ref e), some (.ref a), some (.ref S0), some (.ref M0), some (.ref K0), some (.int (i : Int)), v6, v7, v8] ∧ MwI K ls H w S0 M0 K0 (gpart ls ts i (j + 1) s) G := fun hne => by
            refine ⟨_, _, _, rfl, ?_⟩
            have : gpart ls ts i (j + 1) s = cs := by
              rw [ecs]
              unfold gpart
              rw [sn, if_neg hne, List.append_nil]
            rw [this]
            exact I
          refine ⟨_, rfl, rfl, _, rfl, ite2 (fun hon => ?_) (fun hon => ?_)⟩
          · have on : tt.2 = ("on" : Str) := V.str.inj (of_decide_eq_true hon)
            have st1 : (stepOf q tt).1 = q.2.1 := by unfold stepOf; rw [if_pos on]
            refine ⟨_, rfl, ea, _, 0, _, rfl, rfl, st, rfl, _, rfl, _, rfl, S0, _, _, _, rfl, rfl, SqL.of eS, str_atI cur, rfl, _, rfl, ite2 (fun he => ?_) (fun hne => ?_)⟩
            · have hst : (stepOf q tt).1 = s.1.getD i "" := st1.trans (V.str.inj (of_decide_eq_true he))
              refine ⟨_, rfl, .inl ⟨rfl, _, SqL.of eM⟩, _, rfl, szl (by show 2 ≤ 1000; decide), fun T1 hT1 => ⟨_, rfl, _, rfl, S0, _, rfl, .inl (SqL.of ((same_upd hT1) _ _ eS)), ?_⟩⟩
              rw [List.length_map, lcs]
              refine ⟨szl (by show 3 ≤ 1000; decide), fun T2 hT2 => ?_⟩
              obtain ⟨l, xs', h1, h2, h3, h4⟩ := put i (w.1.length + cs.2.length) (by unfold mk1; rw [if_pos on]) hst T1 hT1 T2 hT2
              exact ⟨l, xs', _, h1, rfl, h2, h3, h4⟩
            · have hst : (stepOf q tt).1 ≠ s.1.getD i "" := fun z => hne (by rw [← st1, z]; exact decide_eq_true rfl)
              refine ⟨_, rfl, rfl, _, rfl, ?_⟩
              rw [on, show decide (V.str ("on" : Str) = V.str "back") = false by decide +kernel]
              refine iteF (iteF ?_)
              have z := no hst
              rw [on] at z
              exact z
          · have bk : tt.2 = ("back" : Str) := (wdo tt tm).resolve_left fun z => hon (by rw [z]; exact decide_eq_true rfl)
            have st1 : (stepOf q tt).1 = q.2.2 := by unfold stepOf; rw [if_neg (by rw [bk]; decide +kernel)]
            refine iteF ⟨_, rfl, rfl, _, rfl, ?_⟩
            rw [show decide (V.str tt.2 = V.str "back") = true by rw [bk]; exact decide_eq_true rfl]
            refine iteT ⟨_, rfl, ea, _, 1, _, rfl, rfl, st, rfl, _, rfl, _, rfl, S0, _, _, _, rfl, rfl, SqL.of eS, str_atI cur, rfl, _, rfl, ite2 (fun he => ?_) (fun hne => ?_)⟩
            · have hst : (stepOf q tt).1 = s.1.getD i "" := st1.trans (V.str.inj (of_decide_eq_true he))
              refine ⟨_, rfl, .inl ⟨rfl, _, SqL.of eM⟩, _, rfl, szl (by show 2 ≤ 1000; decide), fun T1 hT1 => ⟨_, rfl, S0, _, rfl, .inl (SqL.of ((same_upd hT1) _ _ eS)), ?_⟩⟩
              rw [List.length_map, lcs]
              refine ⟨_, rfl, szl (by show 3 ≤ 1000; decide), fun T2 hT2 => ?_⟩
              obtain ⟨l, xs', h1, h2, h3, h4⟩ := put (w.1.length + cs.2.length) i (by unfold mk1; rw [if_neg (show (i, tt).2.2 ≠ ("on" : Str) by rw [bk]; decide +kernel)]) hst T1 hT1 T2 hT2
              exact ⟨l, xs', _, h1, rfl, h2, h3, h4⟩
            · exact no fun z => hne (by rw [← st1, z]; exact decide_eq_true rfl)
        clear I eS
        rintro σ G2 ⟨hst, rfl, sm2, eS2, ⟨ks, eK2, lk⟩, ms, eM2, hM2⟩
        rw [if_pos hst] at sn
        refine ⟨_, rfl, .inl ⟨rfl, _, SqL.of eK2⟩, _, rfl, _, rfl, _, rfl, szl (by show 3 ≤ 1000; decide), fun T hT => ?_⟩
        have z1 := same_upd (o := .tup [V.str tt.1, V.str tt.2, V.int (i : Int)]) hT
        have eK3 := z1 _ _ eK2
        refine ⟨K0, _, _, rfl, rfl, eK3, by rw [lk]; exact big16 (by omega), ?_⟩
        have xt := (XT.of z1).trans (.put (o := .lst (ks ++ [.ref T])) eK3)
        have eS4 := (upd_ne (Ne.symm nKS) (o := .lst (ks ++ [.ref T]))).trans (z1 _ _ eS2)
        have eM4 := (upd_ne (Ne.symm nKM) (o := .lst (ks ++ [.ref T]))).trans (z1 _ _ eM2)
        have hM4 := hM2.xt mkAt_xp xt
        have sm4 := same_put nK (o := .lst (ks ++ [.ref T])) (sm2.trans z1)
        have eK4 : upd (upd G2 T (.tup [V.str tt.1, V.str tt.2, V.int (i : Int)])) K0 (.lst (ks ++ [.ref T])) K0 = some (.lst (ks ++ [.ref T])) := upd_same
        have st4 := sqt_same sm4 st0
        obtain ⟨G5, e5⟩ : ∃ Z, Z = upd (upd G2 T (.tup [V.str tt.1, V.str tt.2, V.int (i : Int)])) K0 (.lst (ks ++ [.ref T])) := ⟨_, rfl⟩
        dsimp only
        rw [← e5] at eS4 eM4 hM4 sm4 eK4 st4 ⊢
        clear e5 xt eK3 z1 hT eM2 hM2 eK2 eS2 sm2
        refine ⟨_, rfl, .inl ⟨rfl, _, SqL.of eS4⟩, _, rfl, _, rfl, rfl, .inr ⟨_, rfl, ea, _, _, .str (stepOf q tt).2, rfl, rfl, st4, ?_, S0, _, _, rfl, rfl, eS4, by rw [List.length_map]; exact big16 (by omega), _, _, _, rfl, ?_⟩⟩
        · unfold stepOf endV
          by_cases z : tt.2 = ("on" : Str)
          · rw [decide_eq_true (congrArg V.str z), if_pos z]
            rfl
          · rw [decide_eq_false (fun y => z (V.str.inj y)), if_neg z]
            rfl
        · have gp : gpart ls ts i (j + 1) s = (cs.1 ++ [led ls tt], cs.2 ++ [(i, tt)]) := by
            rw [ecs]
            unfold gpart
            rw [sn, List.map_append, List.map_append, ← List.append_assoc, ← List.append_assoc]
            rfl
          rw [gp]
          have el : (stepOf q tt).2 = led ls tt := by rw [eq]; rfl
          exact ⟨by rw [upd_same, List.map_append, el]; rfl, ⟨ms, (upd_ne nMS).trans eM4, hM4.xt mkAt_xp (.put eS4)⟩, ⟨_, (upd_ne nKS).trans eK4, by rw [List.length_append, List.length_append, lk]; rfl⟩, same_put nS sm4⟩
      · rintro σ G ⟨v6, v7, v8, rfl, I⟩
        have gp : gpart ls ts i ts.length s = gstep ls ts i s := by unfold gpart gstep; rw [List.take_length]
        rw [List.length_map, lb, gp] at I
        refine ⟨_, rfl, _, _, rfl, rfl, i + 1, gstep ls ts i s, _, _, _, rfl, hG, ?_, I⟩
        unfold gstep
        simp only [List.length_append, List.length_map]
        omega
    · cases hG with
      | next q _ => exact absurd (decide_eq_true (show (i : Int) < (s.1.length : Int) by omega)) hc
      | stop q =>
        obtain ⟨ms, eM, hM⟩ := I.mks
        refine ⟨_, rfl, S0, _, rfl, .inl (SqL.of I.eS), fun A G1 z1 hA => ⟨_, rfl, M0, _, rfl, .inl (SqL.of (z1 _ _ eM)), fun M G2 z2 hM2 => ⟨szl (by show 2 ≤ 1000; decide), fun W hW => ⟨_, rfl, szl (by show 2 ≤ 1000; decide), fun T hT => ?_⟩⟩⟩⟩
        have z3 := same_upd (o := .tup [V.ref A, V.ref M]) hW
        have z4 := same_upd (o := .tup [V.ref W, V.ref K0]) hT
        have z := z1.trans (z2.trans (z3.trans z4))
        exact k T W K0 _ (I.sm.trans z) (SqT.of upd_same) ⟨A, M, sqt_same z4 (SqT.of upd_same), sqt_same (z2.trans (z3.trans z4)) hA, ms, sqt_same (z3.trans z4) hM2, hM.xt mkAt_xp (.of z)⟩
end
end K43

namespace K43
open PySem PySem.Spec PyProof.Rows L2 Ow Xv
structure FnG (P : Program) (w : World) (K : PySem.W.Frag) (mg : Str → Option Value) (base : Heap) (k : Nat) (f : Addr) (fd : FuncData) (ps : List Str) (sp : Sp) : Prop where
  len : ∀ vs H Q E, sp vs H Q E → vs.length = ps.length
  run : ∀ (A : Around) (outer : List Env) (s : Shared) (H : Hp) (args : Args) (us : List Value) (vs : List V) (Q : VK) (E : XK), A.guards = some [] → Room k A → Env0 P w K mg base A outer s H → BindsTo s fd args (ps.zip us) → Vals vs us → sp vs H Q E →
    codeAny (model P w) A (.call (.ref f) args) (CR CX0 outer P w H s Q E) s
section
variable {P : Program} {w : World} {K : PySem.W.Frag} {mg : Str → Option Value} {base : Heap}
theorem okG {x qual : Str} {params : Arguments} {body : List Stmt} {scope : Scope} {dvs : List V} {kws : List (Str × V)} {f : Addr} {fd : FuncData} {N ps : List Str} {k : Nat} {sp : Sp} (F : FunD K x qual params body scope dvs kws f fd) (S : FnScope N ps scope) (len : ∀ vs H Q E, sp vs H Q E → vs.length = ps.length)
    (hb : ∀ (cdv : Value) (A : Around) (outer : List Env) (s : Shared) (H : Hp) (vs : List V) (Q : VK) (E : XK), A.guards = some [] → Room k (A.deeper (envOfC qual scope s.heap.objs.size f cdv)) → sp vs H Q E →
      ∃ t, PSs (cxOf CX0 P w K mg base N qual scope f cdv A outer s H E).nox body t ∧ t { nx := fun _ H' => Q .non H', rt := Q } (start N vs) H) : FnG P w K mg base (k + 1) f fd ps sp := by
  obtain ⟨oc, od, dV, kV, doc, pm, an, cdv, ct, osl, rfl, lk, hcd, _, _⟩ := F.ex
  refine ⟨len, fun A outer s H args us vs Q E hg hr e0 bt r hsp => ?_⟩
  have KX : K.In s.heap := e0.mod.kin.keeps fun b o e => (e0.bs b o e).1
  have kinds : ∀ y ∈ ps.zip us, scope.names.lookup y.1 = some .local ∨ (scope.names.lookup y.1 = some .cell ∧ ((cellsFrom (s.heap.objs.size + 1) scope.names []).lookup y.1).isSome = true) := fun y hy =>
    (S.par y.1 (List.of_mem_zip (show (y.1, y.2) ∈ ps.zip us from hy)).1).elim .inl fun q => .inr ⟨q, PySem.W.cellsFrom_some _ _ _ (.inl q)⟩
  refine codeAny_call_function hr.depth (KX _ _ lk) rfl S.co S.gen rfl (PySem.W.codeRec_of KX hcd) (bt _ _ _ _ (wpAny_newFunctionEnv_cells S.kind kinds fun env he s1 z => ?_))
  subst he
  refine ⟨(e0.mod.nolimit.keeps fun b o e => (e0.bs b o e).1).keeps z.toInCall.keep, codeAny_func ?_⟩
  obtain ⟨t, ht, hq⟩ := hb cdv A outer s H vs Q E hg (hr.deeper _) hsp
  refine wpAny_mono (ht.nox.run [] s1 (start N vs) H _ (inv_start S hr.hd e0 (len _ _ _ _ hsp) r z) hq) (fun fl s' hs => ?_) fun _ _ hs => hs
  cases fl with
  | ret u => exact let ⟨v, _, H', J, rv, q⟩ := hs; ⟨v, H', J.os, J.bare, J.base, J.hok, rv, q⟩
  | next => exact let ⟨_, H', J, q⟩ := hs; ⟨V.non, H', J.os, J.bare, J.base, J.hok, rfl, q⟩
  | brk => exact let ⟨_, _, _, q⟩ := hs; False.elim q
  | cont => exact let ⟨_, _, _, q⟩ := hs; False.elim q
end

theorem pe_callG {X : Cx} {k : Nat} {f : Addr} {fd : FuncData} {ps : List Str} {sp : Sp} {x : Str} {p pos : Pos} {e : Expr} {es : List Expr} {t : TA} (F : FnG X.prog X.w X.K X.mg X.base k f fd ps sp) (hgd : X.A.guards = some []) (hr : Room k X.A) (hg : Gl X x) (hm : X.mg x = some (.ref f)) (hk : PySem.W.keepIn X.K (.ref f) = true)
    (hb : Binds X.K fd ps []) (ha : PA X (e :: es) t) (hdb : (x == ("__debug__" : Str)) = false := by decide) (he : starEach (e :: es) X.env = (false, eval e X.env) :: starEach es X.env := by rfl) (hpl : (backTo pos (starEach es X.env)).any (·.1) = false := by rfl) :
    PE X (.Call (.Name x p) (e :: es) [] pos) (fun σ H Q => t σ H fun vs H1 => sp vs H1 Q E0) := by
  refine ⟨fun pins s σ H Q I h => wpAny_Call_Name_kw (ld_glob I hg hm ?_ hdb)⟩
  refine PySem.W.callWith_K (h₀ := X.base) I.ok.mod.kin hk (thn (ha.run pos pins s σ H _ I h) fun us s1 ⟨vs, H1, I1, r, q⟩ => ⟨I1.kIn, ?_⟩) he hpl
  have ln : us.length = ps.length := by rw [← r.length]; exact F.len _ _ _ _ q
  have bt := hb s1 us I1.kIn (by rw [List.append_nil]; exact ln)
  rw [List.append_nil] at bt
  refine wpAny_call (codeAny_mono (F.run X.A X.stack s1 H1 ⟨us, []⟩ us vs Q E0 hgd hr I1.env0 bt r q) fun res s' z => ?_)
  cases res with
  | error er => exact False.elim z
  | ok fl =>
    cases fl with
    | ret u => exact I1.after z
    | next => exact False.elim z
    | brk => exact False.elim z
    | cont => exact False.elim z

end K43

namespace K43
open PySem PySem.Spec PyProof.Rows L2 Ow Xv
/-! ### the most places, the same text, a short term -/
theorem wts_le {ρ : Str → Nat} (l : List Str) : wtS ρ l ≤ l.length * 73 := sum_le fun z _ => by
  show ndN (ρ z) ≤ 73
  unfold ndN
  split <;> decide
abbrev NMP : List Str := ["_law_frame_here", "_law_term_here", "_law_found", "_law_way", "_law_many"]
theorem scMP : FnScope NMP PLW (defScope sLawMostPlaces) := ⟨rfl, rfl, rfl, by decide +kernel, rfl, by decide +kernel, by decide +kernel⟩
def spMP (K : PySem.W.Frag) : Sp := fun vs H Q _ => ∃ (e a b : Addr) (xs : List Str) (ls : List Lt) (ts : List Tt) (t : Tm) (ex ey : Str) (ρ : Str → Nat), vs = [.ref e, .ref a] ∧ FrAt K H e xs ls ∧ MdAt K H e xs ls ts b ∧ WdOk ts ∧ Rkd ls ts ρ ∧ (∀ z ∈ xs, ρ z ≤ 2) ∧ TmAt K H a t ∧ Ty xs ls t ex ey ∧ Short t ∧ t.sz ≤ 26 ∧ cnt t ≤ 100 ∧ ∀ (r : Int) (H' : Hp), Same H H' → Q (.int r) H'
theorem scSm : FnScope ["_law_told", "_law_due"] ["_law_told", "_law_due"] (defScope sLawSame) := ⟨rfl, rfl, rfl, by decide +kernel, rfl, by decide +kernel, by decide +kernel⟩
def spSm (K : PySem.W.Frag) : Sp := fun vs H Q _ => ∃ (x y : V) (d : PyData), vs = [x, y] ∧ Va K H x d ∧ Va K H y d ∧ d.showable = true ∧ d.depth ≤ 60 ∧ d.shown.length ≤ sizeLine ∧ Q (.bl true) H
abbrev NSt : List Str := ["_law_source_here", "_law_frame_here", "_law_room", "_law_kind", "_law_wanted", "_law_turn", "_law_term_here", "_law_many", "_law_most"]
abbrev PSt : List Str := ["_law_source_here", "_law_frame_here", "_law_room", "_law_kind"]
theorem scSt : FnScope NSt PSt (defScope sLawShortTerm) := ⟨rfl, rfl, rfl, by decide +kernel, rfl, by decide +kernel, by decide +kernel⟩
def spSt (K : PySem.W.Frag) : Sp := fun vs H Q _ => ∃ (d c e b : Addr) (n : Nat) (xs : List Str) (ls : List Lt) (ts : List Tt) (ρ : Str → Nat), vs = [.ref d, .ref e, .int (n : Int), .str "short"] ∧ 1 ≤ n ∧ n ≤ 8 ∧ SrcAt H d c ∧ FrAt K (hid d c H) e xs ls ∧ MdAt K (hid d c H) e xs ls ts b ∧ WdOk ts ∧ Rkd ls ts ρ ∧ (∀ z ∈ xs, ρ z ≤ 2) ∧ 1 ≤ ls.length ∧
  ∀ (u : Addr) (t : Tm) (ex ey : Str) (H' : Hp), SrcAt H' d c → Same (hid d c H) (hid d c H') → TmAt K (hid d c H') u t → Ty xs ls t ex ey → Short t → t.sz ≤ 26 → cnt t ≤ 100 → Q (.ref u) H'
section
variable {P : Program} {w : World} {K : PySem.W.Frag} {mg : Str → Option Value} {base : Heap} {f : Addr} {fd : FuncData}
theorem ok_mp (F : FnP K "_law_most_places" sLawMostPlaces f fd) (Y : Fx w K mg) : FnOk P w K mg base CX0 88 f fd PLW (spMP K) := by
  obtain ⟨d1, F1⟩ := Y.dLawWays
  obtain ⟨d2, F2⟩ := Y.dLawMadeWays
  have b1 := FunD.bindsN (ps := PLW) F1 fun _ _ _ _ _ _ us hl => match us, hl with | [_, _], _ => rfl
  have b2 := FunD.bindsN (ps := PMW) F2 fun _ _ _ _ _ _ us hl => match us, hl with | [_, _], _ => rfl
  have G1 : FnOk P w K mg base CX0 87 _ d1 PLW (spLW K 26) := ok_lw F1 Y 26
  have G2 : FnOk P w K mg base CX0 1 _ d2 PMW (spMW K) := ok_mw F2 Y
  refine okD F scMP (fun vs H Q E h => ?_) (fun cdv A outer s H vs Q E hr h => ?_)
  · obtain ⟨e, a, b, xs, ls, ts, t, ex, ey, ρ, rfl, _⟩ := h
    rfl
  · have nd := scMP.nd
    have hr1 : Room 1 _ := hr.mono (by decide)
    refine ⟨_, pss_cons (ps_set (i := 2) nd rfl (Or.inl rfl) pe_int)
      (pss_cons (ps_for PassesOwn.never rfl (pi_list (pe_call G1 hr (by rfl) Y.gLawWays F1.kp b1 .nil pass0 (pa_cons (pv 0) (pa_cons (pv 1) pa_nil)))) (pg_name (i := 3) nd rfl (Or.inl rfl))
        (pss_cons (ps_set (i := 4) nd rfl (Or.inl rfl) (pe_callB call_len_seq (by rfl) Y.bLen PySem.boot_len (pa_cons (pe_ix ix_tup (pe_ix ix_tup (pe_call G2 hr1 (by rfl) Y.gLawMadeWays F2.kp b2 .nil pass0 (pa_cons (pv 0) (pa_cons (pv 3) pa_nil))) pe_int (fun _ _ => rfl)) pe_int (fun _ _ => rfl)) pa_nil)))
        (pss_one (ps_set (i := 2) nd rfl (Or.inl rfl) (pe_ifExp (pt_cmpR op_gt (pv 4) (pv 2) (nomark _)) (pv 4) (pv 2))))))
      (pss_one (ps_ret (pv 2)))), ?_⟩
    obtain ⟨e, a, b, xs, ls, ts, t, ex, ey, ρ, rfl, fr, md, wdo, R, hρ, ha, hty, hsh, z26, c1, k⟩ := h
    have ok := fr.ok
    refine ⟨_, rfl, _, rfl, e, a, xs, ls, t, ex, ey, rfl, fr, ha, hty, hsh, z26, by omega, c1, fun L H1 s1 hW => ?_⟩
    obtain ⟨as, eL, hR⟩ := hW
    have la := hR.len
    refine ⟨L, rfl, ⟨_, SqL.of eL⟩, for_list (K := K) (a := L) (xs := as.map V.ref) (fun i σ G => ∃ (r : Int) (v3 v4 : Option V), σ = [some (.ref e), some (.ref a), some (.int r), v3, v4] ∧ Same H1 G) ⟨0, none, none, rfl, Same.refl _⟩ (fun i σ G _ q => by obtain ⟨_, _, _, _, q⟩ := q; exact q.seq (SqL.of eL)) ?_ ?_⟩
    · rintro i v σ G hi ⟨r, v3, v4, rfl, sm⟩
      obtain ⟨x, er, rfl⟩ := ref_at hi
      obtain ⟨wy, ew, hw⟩ := hR.get er
      have wo := wys_ok ok hsh hty (by omega) wy (List.mem_of_getElem? ew)
      have ln := wo.ln
      have mn := wo.mn
      have wl := wts_le (ρ := ρ) wy.1
      obtain ⟨f, hG, lf⟩ := gr_ex R (wy.1.length * 73) 0 (wy.1, []) (fun z hz => hρ z (wo.inx z hz)) (Nat.zero_le _) (by rw [List.drop_zero]; exact wl)
      have sA := s1.trans sm
      refine ⟨_, rfl, _, rfl, e, x, b, wy, _, f, xs, ls, ts, rfl, fr.same sA, md.same sA, wdo, wyAt_xp _ _ _ _ (.of sm) hw, hG, by omega, by omega, fun T A M G2 s2 hT hA => ?_⟩
      obtain ⟨s0, m0, h1, h2, _⟩ := hA
      refine ⟨T, _, 0, _, rfl, rfl, hT, rfl, A, _, 0, _, rfl, rfl, h1, rfl, s0, _, rfl, .inr h2, ?_⟩
      refine ⟨_, rfl, _, rfl, _, _, rfl, rfl, _, rfl, ite2 (fun _ => ⟨_, rfl, ?_⟩) (fun _ => ⟨_, rfl, ?_⟩)⟩
      · exact ⟨_, _, _, rfl, sm.trans s2⟩
      · exact ⟨_, _, _, rfl, sm.trans s2⟩
    · rintro σ G ⟨r, v3, v4, rfl, sm⟩
      exact ⟨_, rfl, k r G (s1.trans sm)⟩
theorem ok_sm (F : FnP K "_law_same" sLawSame f fd) (Y : Fx w K mg) : FnG P w K mg base 6 f fd ["_law_told", "_law_due"] (spSm K) := by
  refine okG F scSm (fun vs H Q E h => ?_) (fun cdv A outer s H vs Q E hgd hr h => ?_)
  · obtain ⟨x, y, d, rfl, _⟩ := h
    rfl
  · have hu66 : (A.deeper (envOfC "_law_same" (defScope sLawSame) s.heap.objs.size f cdv)).units + 66 < cLine := by have := hr.un; omega
    refine ⟨_, pss_one (ps_ret (pe_cmpR op_eq (pe_callB (call_reprV hgd hu66) (by rfl) Y.bRepr (by decide +kernel) (pa_cons (pv 0) pa_nil)) (pe_callB (call_reprV hgd hu66) (by rfl) Y.bRepr (by decide +kernel) (pa_cons (pv 1) pa_nil)) (nomark _))), ?_⟩
    obtain ⟨x, y, d, rfl, h1, h2, h3, h4, h5, k⟩ := h
    refine ⟨_, rfl, x, d, rfl, h1, h3, h4, h5, _, rfl, y, d, rfl, h2, h3, h4, h5, rfl, ?_⟩
    rw [decide_eq_true rfl]
    exact k
theorem ok_stm (F : FnP K "_law_short_term" sLawShortTerm f fd) (Y : Fx w K mg) : FnOk P w K mg base CX0 89 f fd PSt (spSt K) := by
  obtain ⟨dP, FP⟩ := Y.dLawPick
  obtain ⟨dT, FT⟩ := Y.dLawTerm
  obtain ⟨dE, FE⟩ := Y.dLawSomeEnds
  obtain ⟨dW, FW⟩ := Y.dLawWays
  obtain ⟨dM, FM⟩ := Y.dLawMostPlaces
  have bP := FunD.bindsN (ps := ["_law_source_here", "_law_many"]) FP fun _ _ _ _ _ _ us hl => match us, hl with | [_, _], _ => rfl
  have bT := FunD.bindsN (ps := PTm) FT fun _ _ _ _ _ _ us hl => match us, hl with | [_, _, _, _, _], _ => rfl
  have bE := FunD.bindsN (ps := ["_law_source_here", "_law_frame_here"]) FE fun _ _ _ _ _ _ us hl => match us, hl with | [_, _], _ => rfl
  have bW := FunD.bindsN (ps := PLW) FW fun _ _ _ _ _ _ us hl => match us, hl with | [_, _], _ => rfl
  have bM := FunD.bindsN (ps := PLW) FM fun _ _ _ _ _ _ us hl => match us, hl with | [_, _], _ => rfl
  have GP : FnOk P w K mg base CX0 1 _ dP ["_law_source_here", "_law_many"] spPick := ok_pick FP Y.bl
  have GT : FnOk P w K mg base CX0 32 _ dT PTm (spTm K 10) := ok_tm FT Y 10
  have GE : FnOk P w K mg base CX0 2 _ dE ["_law_source_here", "_law_frame_here"] (spSe K) := ok_se FE Y
  have GW : FnOk P w K mg base CX0 87 _ dW PLW (spLW K 26) := ok_lw FW Y 26
  have GM : FnOk P w K mg base CX0 88 _ dM PLW (spMP K) := ok_mp FM Y
  refine okD F scSt (fun vs H Q E h => ?_) (fun cdv A outer s H vs Q E hr h => ?_)
  · obtain ⟨d, c, e, b, n, xs, ls, ts, ρ, rfl, _⟩ := h
    rfl
  · have nd := scSt.nd
    have hu := hu_of hr
    have hr1 : Room 1 _ := hr.mono (by decide)
    have hr2 : Room 2 _ := hr.mono (by decide)
    have hr32 : Room 32 _ := hr.mono (by decide)
    have hr87 : Room 87 _ := hr.mono (by decide)
    refine ⟨_, pss_cons (ps_set (i := 4) nd rfl (Or.inl rfl) (pe_call GP hr1 (by rfl) Y.gLawPick FP.kp bP .nil pass0 (pa_cons (pv 0) (pa_cons pe_int pa_nil))))
      (pss_cons (ps_for PassesOwn.never rfl (pi_range1 (by rfl) Y.bRange (pa_cons pe_int pa_nil)) (pg_name (i := 5) nd rfl (Or.inl rfl))
        (pss_cons (ps_set (i := 6) nd rfl (Or.inl rfl) (pe_call GT hr32 (by rfl) Y.gLawTerm FT.kp bT .nil pass0 (pa_cons (pv 0) (pa_cons (pv 1) (pa_cons (pe_call GE hr2 (by rfl) Y.gLawSomeEnds FE.kp bE .nil pass0 (pa_cons (pv 0) (pa_cons (pv 1) pa_nil))) (pa_cons (pv 2) (pa_cons (pv 3) pa_nil)))))))
        (pss_cons (ps_par (i := 7) (j := 8) (by rfl) nd rfl rfl (by decide) rfl rfl (pa_cons (pe_callB call_len_seq (by rfl) Y.bLen PySem.boot_len (pa_cons (pe_call GW hr87 (by rfl) Y.gLawWays FW.kp bW .nil pass0 (pa_cons (pv 1) (pa_cons (pv 6) pa_nil))) pa_nil)) (pa_cons (pe_call GM hr (by rfl) Y.gLawMostPlaces FM.kp bM .nil pass0 (pa_cons (pv 1) (pa_cons (pv 6) pa_nil))) pa_nil)) (by rfl))
        (pss_one (ps_if (pw_and (pt_cmpR op_lt (pv 7) pe_int (nomark _)) (pw_and (pt_cmpR op_lt (pv 8) pe_int (nomark _)) (pw_and1 (pw_or (pt_cmpR op_eq (pv 4) pe_int (nomark _)) (pw_or (pt_cmpR op_gt (pv 7) pe_int (nomark _)) (pw_or1 (pw_and (pt_cmpR op_gt (pv 8) pe_int (nomark _)) (pw_and1 (pt_cmpR op_lt (pv 4) pe_int (nomark _)))).pt))).pt))).pt
          (pss_one (ps_ret (pv 6))) pss_nil)))))
      (pss_one (ps_ret (pe_tup (pa_cons pe_str (pa_cons (pe_ix ix_list (pe_dget hu (pv 1) pe_str nosl) pe_int (fun _ _ => rfl)) pa_nil)))))), ?_⟩
    obtain ⟨d, c, e, b, n, xs, ls, ts, ρ, rfl, n1, n8, src, fr, md, wdo, R, hρ, l1, k⟩ := h
    refine ⟨_, rfl, d, c, 4, rfl, src, by decide, by decide, fun r0 H1 q0 q1 src1 keep1 => ?_⟩
    have eh := hid_pick keep1
    rw [← eh] at fr md
    have k' : ∀ (u : Addr) (t : Tm) (ex ey : Str) (H' : Hp), SrcAt H' d c → Same (hid d c H1) (hid d c H') → TmAt K (hid d c H') u t → Ty xs ls t ex ey → Short t → t.sz ≤ 26 → cnt t ≤ 100 → Q (.ref u) H' := by rw [eh]; exact k
    clear k eh keep1 src
    refine ⟨16, rfl, by decide, by decide, for_range (lo := 0) (n := 16) (fun i σ G => (∃ v5 v6 v7 v8 : Option V, σ = [some (.ref d), some (.ref e), some (.int (n : Int)), some (.str "short"), some (.int r0), v5, v6, v7, v8]) ∧ SrcAt G d c ∧ Same (hid d c H1) (hid d c G)) ⟨⟨none, none, none, none, rfl⟩, src1, Same.refl _⟩ ?_ ?_⟩
    · rintro i σ G hi ⟨⟨v5, v6, v7, v8, rfl⟩, srcG, sm⟩
      dsimp only [gName]
      refine ⟨_, rfl, _, rfl, _, rfl, _, rfl, d, c, e, xs, ls, rfl, srcG, fr.same sm, l1, fun q x y G1 s1 sm1 hq hx hy => ?_⟩
      have smA := sm.trans sm1
      refine ⟨_, rfl, _, rfl, d, c, e, q, n, "short", xs, ls, x, y, rfl, n1, by omega, by omega, s1, fr.same smA, hq, hx, hy, fun u G2 s2 sm2 ⟨t, h1, h2, h3, h4⟩ => ?_⟩
      obtain ⟨hsh, hc⟩ := h4 rfl
      have smB := smA.trans sm2
      have z26 : t.sz ≤ 26 := by unfold szR at h3; omega
      have c100 : cnt t ≤ 100 := by
        have : 2 ^ (n / 2) ≤ 2 ^ 4 := Nat.pow_le_pow_right (by decide) (by omega)
        have e16 : 2 ^ 4 = 16 := by decide
        omega
      refine ⟨_, rfl, _, rfl, e, u, xs, ls, t, x, y, rfl, (fr.same smB).same hid_sub, h1.same hid_sub, h2, hsh, z26, by omega, c100, fun L G3 s3 ⟨as, eL, hR⟩ => ⟨L, _, rfl, .inl (SqL.of eL), ?_⟩⟩
      have smC := smB.trans (hid_same (d := d) (c := c) s3)
      have h1C := h1.same (hid_same (d := d) (c := c) s3)
      refine ⟨_, rfl, _, rfl, e, u, b, xs, ls, ts, t, x, y, ρ, rfl, (fr.same smC).same hid_sub, (md.same smC).same hid_sub, wdo, R, hρ, h1C.same hid_sub, h2, hsh, z26, c100, fun most G4 s4 => ⟨_, _, rfl, ?_⟩⟩
      have smD := smC.trans (hid_same (d := d) (c := c) s4)
      have h1D := h1C.same (hid_same (d := d) (c := c) s4)
      have srcD := src_same (s3.trans s4) s2
      dsimp only
      have ret : Q (.ref u) G4 := k' u t x y G4 srcD smD h1D h2 hsh z26 c100
      have con : ∀ w7 w8 : Option V, (∃ v5 v6 v7 v8 : Option V, [some (.ref d), some (.ref e), some (.int (n : Int)), some (.str "short"), some (.int r0), some (.int (0 + (i : Int))), some (.ref u), w7, w8] = [some (.ref d), some (.ref e), some (.int (n : Int)), some (.str "short"), some (.int r0), v5, v6, v7, v8]) ∧ SrcAt G4 d c ∧ Same (hid d c H1) (hid d c G4) := fun w7 w8 => ⟨⟨_, _, _, _, rfl⟩, srcD, smD⟩
      refine ⟨_, rfl, _, _, rfl, rfl, _, rfl, ite2 (fun _ => ?_) (fun _ => iteF (con _ _))⟩
      refine ⟨_, rfl, _, _, rfl, rfl, _, rfl, ite2 (fun _ => ?_) (fun _ => iteF (con _ _))⟩
      refine ⟨_, rfl, rfl, _, rfl, ite2 (fun _ => iteT ⟨_, rfl, ret⟩) (fun _ => ?_)⟩
      refine ⟨_, rfl, _, _, rfl, rfl, _, rfl, ite2 (fun _ => iteT ⟨_, rfl, ret⟩) (fun _ => ?_)⟩
      refine ⟨_, rfl, _, _, rfl, rfl, _, rfl, ite2 (fun _ => ?_) (fun _ => iteF (con _ _))⟩
      exact ⟨_, rfl, _, _, rfl, rfl, _, rfl, ite2 (fun _ => ⟨_, rfl, ret⟩) (fun _ => con _ _)⟩
    · rintro σ G ⟨⟨v5, v6, v7, v8, rfl⟩, srcG, sm⟩
      obtain ⟨s0, m0, o0, _, gm, go, _, lm, ho⟩ := (fr.same sm).fr
      obtain ⟨q, eq⟩ : ∃ q, ls[0]? = some q := ⟨_, List.getElem?_eq_getElem (by omega)⟩
      refine ⟨_, rfl, e, .ref o0, rfl, dget_mono hid_sub go, o0, _, 0, .str q.1, rfl, rfl, Same.seq hid_sub ho, str_atI (i := 0) (z := q.1) (by rw [List.getElem?_map, eq]; rfl), szl (by show 2 ≤ 1000; decide), fun T hT => ?_⟩
      have nT := new_h (.tup [V.str "letter", V.str q.1]) srcG hT
      exact k' T (.leaf "letter" [q.1]) q.2.1 q.2.2 _ nT.src (sm.trans nT.sm) (SqT.of nT.at_) (.letter (List.mem_of_getElem? eq)) .leaf (by show 1 ≤ 26; decide) (by show 1 ≤ 100; decide)
end
end K43

namespace K43
open PySem PySem.Spec PyProof.Rows L2 Ow Xv
/-! ### ways as data -/
theorem dp_tm {K : PySem.W.Frag} {H : Hp} : ∀ {t : Tm} {a : Addr}, TmAt K H a t → Dp K H (.ref a) (dat t)
  | .leaf w ss, a, h => .tup h (.cons (.str w) (dpa_strs ss))
  | .one w t, a, ⟨b, h, g⟩ => .tup h (.cons (.str w) (.cons (dp_tm g) .nil))
  | .two w s t, a, ⟨b, c, h, g, g2⟩ => .tup h (.cons (.str w) (.cons (dp_tm g) (.cons (dp_tm g2) .nil)))
/-- what is asked of data that is compared or shown -/
structure Fine (d : PyData) (n : Nat) : Prop where
  lay : d.canLay0 = true
  dep : d.depth ≤ n
  sho : d.showable = true
  lv : d.leavesShort 13 = true
  wt : d.weight ≤ 40 * n
theorem str_lv {x : Str} (h : PyData.strOk x = true) : (PyData.str x).leavesShort 13 = true := by
  have e : ∀ c ∈ x.cps.toList, c < 0x110000 := fun c hc => by
    unfold PyData.strOk at h
    rw [Array.all_eq_true] at h
    obtain ⟨i, hi, e⟩ := List.getElem_of_mem hc
    have z := h i (by simpa using hi)
    rw [← e]
    simpa using z
  simp only [PyData.leavesShort, List.all_eq_true, decide_eq_true_eq]
  intro c hc
  have := e c hc
  omega
theorem Rt.hdWd : ∀ {t : Tm}, Rt t → Wd t.hd
  | .leaf w ss, h => by
    show Wd w
    rcases h with ⟨rfl, _⟩ | ⟨rfl, _⟩ | ⟨rfl, _⟩ | ⟨rfl, _⟩ | ⟨rfl, _⟩ <;> exact wd_of (by decide +kernel)
  | .one w t, h => by
    show Wd w
    rcases h.1 with rfl | rfl | rfl | rfl <;> exact wd_of (by decide +kernel)
  | .two w s t, h => by
    show Wd w
    rcases h.1 with rfl | rfl | rfl <;> exact wd_of (by decide +kernel)
theorem Rt.ssWd : ∀ {t : Tm}, Rt t → ∀ x ∈ t.ss, Wd x
  | .leaf w ss, h => by
    intro x hx
    rcases h with ⟨rfl, a, rfl, ha⟩ | ⟨rfl, a, rfl, ha⟩ | ⟨rfl, a, rfl, ha⟩ | ⟨rfl, a, b, rfl, ha, hb⟩ | ⟨rfl, a, b, rfl, ha, hb⟩
    · rw [List.mem_singleton.mp hx]; exact ha
    · rw [List.mem_singleton.mp hx]; exact ha
    · rw [List.mem_singleton.mp hx]; exact ha
    · rcases List.mem_cons.mp hx with z | z
      · rw [z]; exact ha
      · rw [List.mem_singleton.mp z]; exact hb
    · rcases List.mem_cons.mp hx with z | z
      · rw [z]; exact ha
      · rw [List.mem_singleton.mp z]; exact hb
  | .one w t, h => fun x hx => absurd hx List.not_mem_nil
  | .two w s t, h => fun x hx => absurd hx List.not_mem_nil
theorem fine_strs {xs : List Str} (h : ∀ x ∈ xs, Wd x) : PyData.canLayAll0 (xs.map PyData.str) = true ∧ PyData.depthAll (xs.map PyData.str) = 0 ∧ PyData.showableAll (xs.map PyData.str) = true ∧ PyData.leavesShortAll 13 (xs.map PyData.str) = true ∧ PyData.weightAll (xs.map PyData.str) ≤ 13 * xs.length := by
  induction xs with
  | nil => exact ⟨by simp [PyData.canLayAll0], by simp [PyData.depthAll], by simp [PyData.showableAll], by simp [PyData.leavesShortAll], by simp [PyData.weightAll]⟩
  | cons x xs ih =>
    obtain ⟨a, b, c, d, e⟩ := ih fun y hy => h y (List.mem_cons_of_mem _ hy)
    have hx := h x List.mem_cons_self
    have l := str_lv hx.lay
    have z : x.cps.size ≤ 12 := hx.hi
    refine ⟨?_, ?_, ?_, ?_, ?_⟩
    · simp [PyData.canLayAll0, PyData.canLay0, hx.lay, a]
    · simp [PyData.depthAll, PyData.depth, b]
    · simp [PyData.showableAll, PyData.showable, c]
    · rw [List.map_cons]
      simp only [PyData.leavesShortAll, Bool.and_eq_true]
      exact ⟨l, d⟩
    · rw [List.map_cons]
      simp only [PyData.weightAll, PyData.weight, List.length_cons]
      omega
theorem fine_tm : ∀ {t : Tm}, Rt t → Fine (dat t) t.sz
  | .leaf w ss, h => by
    have hw : Wd w := Rt.hdWd h
    have hs := Rt.ssWd h
    obtain ⟨a, b, c, d, e⟩ := fine_strs (xs := w :: ss) fun x hx => by
      rcases List.mem_cons.mp hx with z | z
      · rw [z]; exact hw
      · exact hs x z
    have l := (Rt.pos h).2.1
    have l2 : ss.length ≤ 2 := by
      have z : (Tm.leaf w ss).ss.length + (Tm.leaf w ss).kids.length ≤ 2 := l
      exact z
    rw [List.length_cons] at e
    refine ⟨?_, ?_, ?_, ?_, ?_⟩
    · simpa only [dat, PyData.canLay0, List.map_cons] using a
    · simp only [dat, PyData.depth]
      rw [show PyData.depthAll (PyData.str w :: List.map PyData.str ss) = 0 from b]
      exact Nat.le_refl _
    · simpa only [dat, PyData.showable, List.map_cons] using c
    · simpa only [dat, PyData.leavesShort, List.map_cons] using d
    · simp only [dat, PyData.weight]
      have z : PyData.weightAll (PyData.str w :: List.map PyData.str ss) ≤ 13 * (ss.length + 1) := e
      show _ ≤ 40 * 1
      omega
  | .one w t, h => by
    have hw : Wd w := Rt.hdWd h
    obtain ⟨a, b, c, d, e⟩ := fine_tm h.2
    have z : w.cps.size ≤ 12 := hw.hi
    refine ⟨?_, ?_, ?_, ?_, ?_⟩
    · simp [dat, PyData.canLay0, PyData.canLayAll0, hw.lay, a]
    · simp only [dat, PyData.depth, PyData.depthAll, Tm.sz]
      omega
    · simp [dat, PyData.showable, PyData.showableAll, c]
    · have l := str_lv hw.lay
      simp only [dat, PyData.leavesShort, PyData.leavesShortAll, Bool.and_eq_true] at l ⊢
      exact ⟨l, d, trivial⟩
    · simp only [dat, PyData.weight, PyData.weightAll, Tm.sz]
      omega
  | .two w s t, h => by
    have hw : Wd w := Rt.hdWd h
    obtain ⟨a, b, c, d, e⟩ := fine_tm h.2.1
    obtain ⟨a2, b2, c2, d2, e2⟩ := fine_tm h.2.2
    have z : w.cps.size ≤ 12 := hw.hi
    refine ⟨?_, ?_, ?_, ?_, ?_⟩
    · simp [dat, PyData.canLay0, PyData.canLayAll0, hw.lay, a, a2]
    · simp only [dat, PyData.depth, PyData.depthAll, Tm.sz]
      omega
    · simp [dat, PyData.showable, PyData.showableAll, c, c2]
    · have l := str_lv hw.lay
      simp only [dat, PyData.leavesShort, PyData.leavesShortAll, Bool.and_eq_true] at l ⊢
      exact ⟨l, d, d2, trivial⟩
    · simp only [dat, PyData.weight, PyData.weightAll, Tm.sz]
      omega
theorem Fine.shp {d : PyData} {n : Nat} (h : Fine d n) (l : n ≤ 64) : SeqAt.shaped d = true := shp_of h.lay (Nat.le_trans h.dep l)
theorem Fine.len {d : PyData} {n : Nat} (h : Fine d n) (l : n ≤ 400) : d.shown.length ≤ sizeLine := by
  have z := PyData.shown_le 13 (by decide) d h.lv
  have w := h.wt
  have e : sizeLine = 16777216 := by decide
  rw [e]
  omega
theorem int_short : ∀ n : Nat, n ≤ 400 → (PyData.shown (.int (n : Int))).length ≤ 13 := by decide +kernel
theorem int_shw : ∀ n : Nat, n ≤ 400 → n.log2 < 11 := by decide +kernel
def mkD (m : Mk2) : PyData := .tuple [dat m.1, .int (m.2.1 : Int), .int (m.2.2 : Int)]
def wyD (w : Wy) : PyData := .tuple [.tuple (w.1.map PyData.str), .tuple (w.2.map mkD)]
theorem va_mks {K : PySem.W.Frag} {H : Hp} : ∀ {rs : List Addr} {ms : List Mk2}, Rs (MkAt K) H rs ms → VaAll K H (rs.map V.ref) (ms.map mkD)
  | _, _, .nil => .nil
  | _, _, .cons ⟨u, h1, h2⟩ g => .cons (.tup h1 (.cons (tm_va h2) (.cons (.int _) (.cons (.int _) .nil)))) (va_mks g)
theorem va_wy {K : PySem.W.Frag} {H : Hp} {a : Addr} {w : Wy} (h : WyAt K H a w) : Va K H (.ref a) (wyD w) := by
  obtain ⟨s, m, h1, h2, rs, h3, h4⟩ := h
  exact .tup h1 (.cons (.tup h2 (VaAll.strs _)) (.cons (.tup h3 (va_mks h4)) .nil))
theorem dp_mks {K : PySem.W.Frag} {H : Hp} : ∀ {rs : List Addr} {ms : List Mk2}, Rs (MkAt K) H rs ms → DpAll K H (rs.map V.ref) (ms.map mkD)
  | _, _, .nil => .nil
  | _, _, .cons ⟨u, h1, h2⟩ g => .cons (.tup h1 (.cons (dp_tm h2) (.cons (.int _) (.cons (.int _) .nil)))) (dp_mks g)
theorem dp_wy {K : PySem.W.Frag} {H : Hp} {a : Addr} {w : Wy} (h : WyAt K H a w) : Dp K H (.ref a) (wyD w) := by
  obtain ⟨s, m, h1, h2, rs, h3, h4⟩ := h
  exact .tup h1 (.cons (.tup h2 (dpa_strs _)) (.cons (.tup h3 (dp_mks h4)) .nil))
/-- small enough to be shown and compared -/
structure SmW (w : Wy) : Prop where
  ws : ∀ z ∈ w.1, Wd z
  ms : ∀ m ∈ w.2, Rt m.1 ∧ m.1.sz ≤ 50 ∧ m.2.1 ≤ 400 ∧ m.2.2 ≤ 400
  l1 : w.1.length ≤ 400
  l2 : w.2.length ≤ 400
theorem fine_mks : ∀ {ms : List Mk2}, (∀ m ∈ ms, Rt m.1 ∧ m.1.sz ≤ 50 ∧ m.2.1 ≤ 400 ∧ m.2.2 ≤ 400) → PyData.canLayAll0 (ms.map mkD) = true ∧ PyData.depthAll (ms.map mkD) ≤ 51 ∧ PyData.showableAll (ms.map mkD) = true ∧ PyData.leavesShortAll 13 (ms.map mkD) = true ∧ PyData.weightAll (ms.map mkD) ≤ 2100 * ms.length
  | [], _ => ⟨by simp [PyData.canLayAll0], by simp [PyData.depthAll], by simp [PyData.showableAll], by simp [PyData.leavesShortAll], by simp [PyData.weightAll]⟩
  | ⟨t, i, j⟩ :: ms, h => by
    obtain ⟨a, b, c, d, e⟩ := fine_mks fun m hm => h m (List.mem_cons_of_mem _ hm)
    obtain ⟨rt, sz, hi, hj⟩ := h _ List.mem_cons_self
    replace rt : Rt t := rt
    replace sz : t.sz ≤ 50 := sz
    replace hi : i ≤ 400 := hi
    replace hj : j ≤ 400 := hj
    obtain ⟨a1, b1, c1, d1, e1⟩ := fine_tm rt
    have si := int_short i (by omega)
    have sj := int_short j (by omega)
    have wi := int_shw i hi
    have wj := int_shw j hj
    refine ⟨?_, ?_, ?_, ?_, ?_⟩
    · simp [mkD, PyData.canLayAll0, PyData.canLay0, a1, a]
    · simp only [List.map_cons, mkD, PyData.depthAll, PyData.depth]
      omega
    · simp [mkD, PyData.showableAll, PyData.showable, c1, c]
      omega
    · simp only [List.map_cons, mkD, PyData.leavesShortAll, PyData.leavesShort, Bool.and_eq_true, decide_eq_true_eq]
      exact ⟨⟨d1, si, sj, trivial⟩, d⟩
    · have w1 : PyData.weight (.int (i : Int)) ≤ 12 := by simp [PyData.weight]; split <;> omega
      have w2 : PyData.weight (.int (j : Int)) ≤ 12 := by simp [PyData.weight]; split <;> omega
      simp only [List.map_cons, mkD, PyData.weightAll, List.length_cons]
      rw [show PyData.weight (.tuple [dat t, .int (i : Int), .int (j : Int)]) = PyData.weightAll [dat t, .int (i : Int), .int (j : Int)] by simp only [PyData.weight]]
      simp only [PyData.weightAll]
      omega
theorem fine_wy {w : Wy} (h : SmW w) : (wyD w).canLay0 = true ∧ (wyD w).depth ≤ 53 ∧ (wyD w).showable = true ∧ (wyD w).shown.length ≤ sizeLine := by
  obtain ⟨a, b, c, d, e⟩ := fine_strs h.ws
  obtain ⟨a2, b2, c2, d2, e2⟩ := fine_mks h.ms
  have l1 := h.l1
  have l2 := h.l2
  refine ⟨by simp [wyD, PyData.canLay0, PyData.canLayAll0, a, a2], ?_, by simp [wyD, PyData.showable, PyData.showableAll, c, c2], ?_⟩
  · simp only [wyD, PyData.depth, PyData.depthAll]
    omega
  · refine PyData.shown_fits (by decide) (by decide) (B := 13) ?_ ?_
    · simp [wyD, PyData.leavesShort, PyData.leavesShortAll, d, d2]
    · simp only [wyD, PyData.weight, PyData.weightAll]
      omega
end K43

namespace K43
open PySem PySem.Spec PyProof.Rows L2 Ow Xv
/-! ### what the law's frames and ways keep -/
theorem rkd_of {xs : List Str} {ls us : List Lt} (dr : Drawn xs ls us) (hsub : us.Sublist ls) (l8 : ls.length ≤ 8) (l3 : xs.length ≤ 3) : Rkd ls (us.map totOf) rk ∧ (∀ z ∈ xs, rk z ≤ 2) ∧ WdOk (us.map totOf) ∧ ∀ t ∈ us.map totOf, led ls t ∈ xs := by
  have ok := dr.ok
  have hz : ∀ z ∈ xs, rk z ≤ 2 := fun z h => by have := (dr.ab z h).2; omega
  have at_ : ∀ t ∈ us.map totOf, ∃ q ∈ us, t = totOf q ∧ endOf ls t.1 = q := fun t ht => by
    obtain ⟨q, hq, rfl⟩ := List.mem_map.mp ht
    exact ⟨q, hq, rfl, find_nd ok.nl.nd (dr.el q hq).1⟩
  have inx : ∀ t ∈ us.map totOf, led ls t ∈ xs := fun t ht => by
    obtain ⟨q, hq, rfl, e⟩ := at_ t ht
    obtain ⟨a, b⟩ := ok.ends q (dr.el q hq).1
    unfold led
    rw [e]
    unfold stepOf
    split
    · exact b
    · exact a
  refine ⟨⟨fun t ht => ?_, fun t ht => hz _ (inx t ht), ?_⟩, hz, fun t ht => ?_, inx⟩
  · obtain ⟨q, hq, rfl, e⟩ := at_ t ht
    obtain ⟨a, b⟩ := ok.ends q (dr.el q hq).1
    unfold led
    rw [e]
    exact step_tot (dr.ab _ a).1 (dr.ab _ b).1 (dr.el q hq).2
  · rw [List.length_map]
    exact Nat.le_trans hsub.length_le l8
  · obtain ⟨q, hq, rfl, _⟩ := at_ t ht
    unfold totOf
    dsimp only
    split
    · exact .inr rfl
    · exact .inl rfl
theorem smW_of {xs : List Str} {ls : List Lt} {w : Wy} (ok : FrOk xs ls) (g : WyG xs ls w) (l1 : w.1.length ≤ 400) (l2 : w.2.length ≤ 400) : SmW w := by
  refine ⟨fun z hz => ok.nx.w z (g.inx z hz), fun m hm => ?_, l1, l2⟩
  obtain ⟨a, b, h1, h2, h3, _, h5⟩ := g.mks m hm
  have i := (List.getElem?_eq_some_iff.mp h1).1
  have j := (List.getElem?_eq_some_iff.mp h2).1
  exact ⟨Ty.rt ok h3, h5, by omega, by omega⟩
theorem made_nil {ls : List Lt} {w : Wy} {n : Nat} {f : Gs} (g : Gr ls [] n 0 (w.1, []) f) : madeW w f = w := by
  have I := g.inv (ss := w.1) ⟨by simp, fun q hq => absurd hq List.not_mem_nil⟩
  have e2 : f.2 = [] := by
    cases q : f.2 with
    | nil => rfl
    | cons x r =>
      have := (I.k x (by rw [q]; exact List.mem_cons_self)).1
      cases this
  have e1 : f.1 = w.1 := by rw [I.e, e2]; simp
  unfold madeW
  rw [e1, e2]
  show (w.1, w.2 ++ []) = w
  rw [List.append_nil]
theorem made_len {ls : List Lt} {ts : List Tt} {w : Wy} {n : Nat} {f : Gs} (g : Gr ls ts n 0 (w.1, []) f) : (madeW w f).2.length = w.2.length + f.2.length ∧ f.1.length = w.1.length + f.2.length := by
  have I := g.inv (ss := w.1) ⟨by simp, fun q hq => absurd hq List.not_mem_nil⟩
  refine ⟨?_, by rw [I.e, List.length_append, List.length_map]⟩
  show (w.2 ++ smk w.1.length f.2).length = _
  rw [List.length_append, smk_len]
/-! the frame and the way by hand -/
def hX : List Str := ["abcdefghijkl", "b"]
def hL : List Lt := [("abcdefghijk0", "abcdefghijkl", "b")]
def hT : List Tt := [("abcdefghijk0", "on")]
def hW : Wy := (hX, [(.leaf "letter" ["abcdefghijk0"], 0, 1)])
def hF : Gs := (["abcdefghijkl", "b", "b"], [(0, ("abcdefghijk0", "on"))])
def hD : Wy := (["abcdefghijkl", "b", "b"], [(.leaf "letter" ["abcdefghijk0"], 0, 1), (.leaf "letter" ["abcdefghijk0"], 0, 2)])
theorem h_gr : Gr hL hT 3 0 (hW.1, []) hF := by
  have e0 : gstep hL hT 0 (hW.1, []) = hF := by decide +kernel
  have e1 : gstep hL hT 1 hF = hF := by decide +kernel
  have e2 : gstep hL hT 2 hF = hF := by decide +kernel
  refine .next (by decide +kernel) ?_
  rw [e0]
  refine .next (by decide +kernel) ?_
  rw [e1]
  refine .next (by decide +kernel) ?_
  rw [e2]
  exact .stop (by decide +kernel)
theorem h_made : madeW hW hF = hD := by
  unfold madeW
  show (hF.1, [(Tm.leaf "letter" ["abcdefghijk0"], 0, 1)] ++ [mk1 2 (0, ("abcdefghijk0", "on"))]) = hD
  unfold mk1
  rw [if_pos rfl]
  rfl
theorem h_fi : FrIn hX hL hT := by
  have o1 : Okx "abcdefghijkl" := okx_wd (wd_of (by decide +kernel))
  have o2 : Okx "b" := okx_wd (wd_of (by decide +kernel))
  have o3 : Okx "abcdefghijk0" := okx_wd (wd_of (by decide +kernel))
  have o4 : Okx "on" := okx_wd (wd_of (by decide +kernel))
  refine ⟨fun x hx => ?_, fun q hq => ?_, fun q hq => ?_, by decide, by decide, by decide⟩
  · rcases List.mem_cons.mp hx with rfl | hx
    · exact o1
    · rw [List.mem_singleton.mp hx]; exact o2
  · rw [List.mem_singleton.mp hq]; exact ⟨o3, o1, o2⟩
  · rw [List.mem_singleton.mp hq]; exact ⟨o3, o4⟩
theorem h_no : dueF hX hL hT = none := by decide +kernel
theorem h_gd : GdF hX hL hT := ⟨h_fi, h_no⟩
theorem h_led : ∀ t ∈ hT, led hL t ∈ hX := by decide +kernel
theorem h_in : ∀ z ∈ hW.1, z ∈ hX := fun z h => h
theorem h_sm : SmW hD := by
  have w1 : Wd "abcdefghijkl" := wd_of (by decide +kernel)
  have w2 : Wd "b" := wd_of (by decide +kernel)
  have w3 : Wd "abcdefghijk0" := wd_of (by decide +kernel)
  have rt : Rt (.leaf "letter" ["abcdefghijk0"]) := .inl ⟨rfl, _, rfl, w3⟩
  refine ⟨fun z hz => ?_, fun m hm => ?_, by decide, by decide⟩
  · rcases List.mem_cons.mp hz with rfl | hz
    · exact w1
    · rcases List.mem_cons.mp hz with rfl | hz
      · exact w2
      · rw [List.mem_singleton.mp hz]; exact w2
  · rcases List.mem_cons.mp hm with rfl | hm
    · exact ⟨rt, by show 1 ≤ 50; decide, by show 0 ≤ 400; decide, by show 1 ≤ 400; decide⟩
    · rw [List.mem_singleton.mp hm]
      exact ⟨rt, by show 1 ≤ 50; decide, by show 0 ≤ 400; decide, by show 2 ≤ 400; decide⟩
end K43

namespace K43
open PySem PySem.Spec PyProof.Rows L2 Ow Xv
/-! ### the law -/
abbrev NLw : List Str := ["_law_script", "_law_source_here", "_law_turn", "_law_frame_here", "_law_book", "_law_way", "_law_due", "_law_told", "_law_again", "_law_house"]
theorem scLw : FnScope NLw ["_law_script"] (defScope sLaw) := ⟨rfl, rfl, rfl, by decide +kernel, rfl, by decide +kernel, by decide +kernel⟩
def spLaw (K : PySem.W.Frag) : Sp := fun vs H Q _ => ∃ (a : Addr) (ns : List Int), vs = [.ref a] ∧ SqL K H a (ns.map V.int) ∧ ns.length ≤ 63 ∧ ∀ H', Q (.bl true) H'
abbrev lst10 (a d : Addr) (v2 v3 v4 v5 v6 v7 v8 v9 : Option V) : L2.St := [some (.ref a), some (.ref d), v2, v3, v4, v5, v6, v7, v8, v9]
section
variable {P : Program} {w : World} {K : PySem.W.Frag} {mg : Str → Option Value} {base : Heap} {f : Addr} {fd : FuncData}
theorem ok_law (F : FnP K "law" sLaw f fd) (Y : Fx w K mg) : FnG P w K mg base 92 f fd ["_law_script"] (spLaw K) := by
  obtain ⟨dS, FS⟩ := Y.dLawSource
  obtain ⟨dP, FP⟩ := Y.dLawPick
  obtain ⟨dFr, FFr⟩ := Y.dLawFrame
  obtain ⟨dWt, FWt⟩ := Y.dLawWithTotals
  obtain ⟨dBI, FBI⟩ := Y.dBook_Init
  obtain ⟨dFI, FFI⟩ := Y.dFrame_Init
  obtain ⟨dWy, FWy⟩ := Y.dWays
  obtain ⟨dSt, FSt⟩ := Y.dLawShortTerm
  obtain ⟨dMW, FMW⟩ := Y.dLawMadeWays
  obtain ⟨dMd, FMd⟩ := Y.dMade
  obtain ⟨dSm, FSm⟩ := Y.dLawSame
  obtain ⟨dIW, FIW⟩ := Y.dIsWay
  have bS := FunD.bindsN (ps := ["_law_script"]) FS fun _ _ _ _ _ _ us hl => match us, hl with | [_], _ => rfl
  have bP := FunD.bindsN (ps := ["_law_source_here", "_law_many"]) FP fun _ _ _ _ _ _ us hl => match us, hl with | [_, _], _ => rfl
  have bFr := FunD.bindsN (ps := ["_law_source_here", "_law_sorts", "_law_letters"]) FFr fun _ _ _ _ _ _ us hl => match us, hl with | [_, _, _], _ => rfl
  have bWt := FunD.bindsN (ps := ["_law_source_here", "_law_frame_here"]) FWt fun _ _ _ _ _ _ us hl => match us, hl with | [_, _], _ => rfl
  have bBI := FunD.bindsN (ps := ["self", "frame", "premises"]) FBI fun _ _ _ _ _ _ us hl => match us, hl with | [_, _, _], _ => rfl
  have bFI := FunD.bindsN (ps := ["self", "sorts", "letters", "totals"]) FFI fun _ _ _ _ _ _ us hl => match us, hl with | [_, _, _, _], _ => rfl
  have bWy := FunD.bindsN (ps := ["frame", "term"]) FWy fun _ _ _ _ _ _ us hl => match us, hl with | [_, _], _ => rfl
  have bSt := FunD.bindsN (ps := PSt) FSt fun _ _ _ _ _ _ us hl => match us, hl with | [_, _, _, _], _ => rfl
  have bMW := FunD.bindsN (ps := PMW) FMW fun _ _ _ _ _ _ us hl => match us, hl with | [_, _], _ => rfl
  have bMd := FunD.bindsN (ps := ["book", "way"]) FMd fun _ _ _ _ _ _ us hl => match us, hl with | [_, _], _ => rfl
  have bSm := FunD.bindsN (ps := ["_law_told", "_law_due"]) FSm fun _ _ _ _ _ _ us hl => match us, hl with | [_, _], _ => rfl
  have bIW := FunD.bindsN (ps := ["frame", "value"]) FIW fun _ _ _ _ _ _ us hl => match us, hl with | [_, _], _ => rfl
  have GS : FnOk P w K mg base CX0 1 _ dS ["_law_script"] (spSrc K) := ok_src FS Y.bl
  have GP : FnOk P w K mg base CX0 1 _ dP ["_law_source_here", "_law_many"] spPick := ok_pick FP Y.bl
  have GFr : FnOk P w K mg base CX0 7 _ dFr ["_law_source_here", "_law_sorts", "_law_letters"] (spFr3 K) := ok_fr3 FFr Y
  have GWt : FnOk P w K mg base CX0 7 _ dWt ["_law_source_here", "_law_frame_here"] (spWT K) := ok_wt FWt Y
  have GBI : FnOk P w K mg base CX0 2 _ dBI ["self", "frame", "premises"] (spBI K) := ok_bi FBI Y
  have GFI : FnOk P w K mg base (L2.CX P w) 4 _ dFI ["self", "sorts", "letters", "totals"] (spFI2 K) := ok_fi2 FFI Y
  have GWy : FnOk P w K mg base CX0 67 _ dWy ["frame", "term"] (spWays K) := ok_ways FWy Y
  have GSt : FnOk P w K mg base CX0 89 _ dSt PSt (spSt K) := ok_stm FSt Y
  have GMW : FnOk P w K mg base CX0 1 _ dMW PMW (spMW K) := ok_mw FMW Y
  have GMd : FnOk P w K mg base CX0 6 _ dMd ["book", "way"] (spMd K) := ok_md FMd Y
  have GSm : FnG P w K mg base 6 _ dSm ["_law_told", "_law_due"] (spSm K) := ok_sm FSm Y
  have GIW : FnOk P w K mg base CX0 9 _ dIW ["frame", "value"] (spIWy K) := ok_iwy FIW Y
  refine okG F scLw (fun vs H Q E h => ?_) (fun cdv A outer s H vs Q E hgd hr h => ?_)
  · obtain ⟨a, ns, rfl, _⟩ := h
    rfl
  · have nd := scLw.nd
    have hu := hu_of hr
    have hu64 := hu64_of hr
    have hr1 : Room 1 _ := hr.mono (by decide)
    have hr3 : Room 3 _ := hr.mono (by decide)
    have hr5 : Room 5 _ := hr.mono (by decide)
    have hr6 : Room 6 _ := hr.mono (by decide)
    have hr7 : Room 7 _ := hr.mono (by decide)
    have hr9 : Room 9 _ := hr.mono (by decide)
    have hr67 : Room 67 _ := hr.mono (by decide)
    have hr89 : Room 89 _ := hr.mono (by decide)
    refine ⟨_, (pss_cons (ps_set (i := 1) nd rfl (Or.inl rfl) (pe_call GS hr1 (by rfl) Y.gLawSource FS.kp bS .nil pass0 (pa_cons (pv 0) pa_nil)))
        (pss_cons (ps_for PassesOwn.never rfl (pi_range1 (by rfl) Y.bRange (pa_cons pe_int pa_nil)) (pg_name (i := 2) nd rfl (Or.inl rfl)) (pss_cons (ps_set (i := 3) nd rfl (Or.inl rfl) (pe_call GFr hr7 (by rfl) Y.gLawFrame FFr.kp bFr .nil pass0 (pa_cons (pv 1) (pa_cons (pe_op op_add pe_int (pe_call GP hr1 (by rfl) Y.gLawPick FP.kp bP .nil pass0 (pa_cons (pv 1) (pa_cons pe_int pa_nil)))) (pa_cons (pe_op op_add pe_int (pe_call GP hr1 (by rfl) Y.gLawPick FP.kp bP .nil pass0 (pa_cons (pv 1) (pa_cons pe_int pa_nil)))) pa_nil)))))
        (pss_cons (ps_if (pt_cmpR op_gt (pv 2) pe_int (nomark _)) (pss_one (ps_set (i := 3) nd rfl (Or.inl rfl) (pe_call GWt hr7 (by rfl) Y.gLawWithTotals FWt.kp bWt .nil pass0 (pa_cons (pv 1) (pa_cons (pv 3) pa_nil))))) pss_nil)
        (pss_cons (ps_set (i := 4) nd rfl (Or.inl rfl) (pe_make Y.mBook GBI hr3 (by rfl) Y.gBook bBI .nil pass0 (pa_cons (pe_dget hu (pv 3) pe_str nosl) (pa_cons (pe_lst pa_nil) pa_nil))))
        (pss_one (ps_for PassesOwn.never rfl (pi_list (pe_call GWy hr67 (by rfl) Y.gWays FWy.kp bWy .nil pass0 (pa_cons (pe_dget hu (pv 3) pe_str nosl) (pa_cons (pe_call GSt hr89 (by rfl) Y.gLawShortTerm FSt.kp bSt .nil pass0 (pa_cons (pv 1) (pa_cons (pv 3) (pa_cons pe_int (pa_cons pe_str pa_nil))))) pa_nil)))) (pg_name (i := 5) nd rfl (Or.inl rfl)) (pss_cons (ps_set (i := 6) nd rfl (Or.inl rfl) (pe_ix ix_tup (pe_call GMW hr1 (by rfl) Y.gLawMadeWays FMW.kp bMW .nil pass0 (pa_cons (pv 3) (pa_cons (pv 5) pa_nil))) pe_int (fun _ _ => rfl)))
        (pss_cons (ps_if (pt_cmpR op_gt (pe_callB call_len_seq (by rfl) Y.bLen PySem.boot_len (pa_cons (pe_ix ix_tup (pv 6) pe_int (fun _ _ => rfl)) pa_nil)) pe_int (nomark _)) (pss_one ps_continue) pss_nil)
        (pss_cons (ps_set (i := 7) nd rfl (Or.inl rfl) (pe_call GMd hr6 (by rfl) Y.gMade FMd.kp bMd .nil pass0 (pa_cons (pv 4) (pa_cons (pv 5) pa_nil))))
        (pss_cons (ps_if (pw_or (pt_not (pt_val (pe_callG GSm hgd hr6 (by rfl) Y.gLawSame FSm.kp bSm (pa_cons (pv 7) (pa_cons (pv 6) pa_nil))))) (pw_or1 (pt_cmpR op_notBl (pe_call GIW hr9 (by rfl) Y.gIsWay FIW.kp bIW .nil pass0 (pa_cons (pe_dget hu (pv 3) pe_str nosl) (pa_cons (pv 7) pa_nil))) pe_bl (nomark _)))).pt (pss_one (ps_ret pe_bl)) pss_nil)
        (pss_cons (ps_if (pw_and (pt_cmpR (op_eqNL (Nat.lt_of_succ_lt hu)) (pe_dget hu (pv 3) pe_str nosl) (pe_lst pa_nil) (nomark _)) (pw_and1 (pt_cmpR (op_neD hu64) (pv 7) (pv 5) (nomark _)))).pt (pss_one (ps_ret pe_bl)) pss_nil)
        (pss_cons (ps_set (i := 8) nd rfl (Or.inl rfl) (pe_ix ix_tup (pe_call GMW hr1 (by rfl) Y.gLawMadeWays FMW.kp bMW .nil pass0 (pa_cons (pv 3) (pa_cons (pv 6) pa_nil))) pe_int (fun _ _ => rfl)))
        (pss_one (ps_if (pw_and (pt_cmpR op_lt (pe_callB call_len_seq (by rfl) Y.bLen PySem.boot_len (pa_cons (pe_ix ix_tup (pv 8) pe_int (fun _ _ => rfl)) pa_nil)) pe_int (nomark _)) (pw_and1 (pt_not (pt_val (pe_callG GSm hgd hr6 (by rfl) Y.gLawSame FSm.kp bSm (pa_cons (pe_call GMd hr6 (by rfl) Y.gMade FMd.kp bMd .nil pass0 (pa_cons (pv 4) (pa_cons (pv 7) pa_nil))) (pa_cons (pv 8) pa_nil))))))).pt (pss_one (ps_ret pe_bl)) pss_nil))))))))))))))
        (pss_cons (ps_set (i := 9) nd rfl (Or.inl rfl) (pe_make Y.mFrame GFI hr5 (by rfl) Y.gFrame bFI .nil passX (pa_cons (pe_lst (pa_cons pe_str (pa_cons pe_str pa_nil))) (pa_cons (pe_lst (pa_cons (pe_tup (pa_cons pe_str (pa_cons pe_str (pa_cons pe_str pa_nil)))) pa_nil)) (pa_cons (pe_lst (pa_cons (pe_tup (pa_cons pe_str (pa_cons pe_str pa_nil))) pa_nil)) pa_nil)))))
        (pss_cons (ps_set (i := 5) nd rfl (Or.inl rfl) (pe_tup (pa_cons (pe_tup (pa_cons pe_str (pa_cons pe_str pa_nil))) (pa_cons (pe_tup (pa_cons (pe_tup (pa_cons (pe_tup (pa_cons pe_str (pa_cons pe_str pa_nil))) (pa_cons pe_int (pa_cons pe_int pa_nil)))) pa_nil)) pa_nil))))
        (pss_cons (ps_set (i := 6) nd rfl (Or.inl rfl) (pe_tup (pa_cons (pe_tup (pa_cons pe_str (pa_cons pe_str (pa_cons pe_str pa_nil)))) (pa_cons (pe_op op_catA (pe_ix ix_tup (pv 5) pe_int (fun _ _ => rfl)) (pe_tup (pa_cons (pe_tup (pa_cons (pe_tup (pa_cons pe_str (pa_cons pe_str pa_nil))) (pa_cons pe_int (pa_cons pe_int pa_nil)))) pa_nil))) pa_nil))))
        (pss_one (ps_ret (pe_callG GSm hgd hr6 (by rfl) Y.gLawSame FSm.kp bSm (pa_cons (pe_call GMd hr6 (by rfl) Y.gMade FMd.kp bMd .nil pass0 (pa_cons (pe_make Y.mBook GBI hr3 (by rfl) Y.gBook bBI .nil pass0 (pa_cons (pv 9) (pa_cons (pe_lst pa_nil) pa_nil))) (pa_cons (pv 5) pa_nil))) (pa_cons (pv 6) pa_nil)))))))))), ?_⟩
    obtain ⟨a, ns, rfl, hsq, ln, k⟩ := h
    refine ⟨_, rfl, a, ns, rfl, hsq, ln, fun d c H1 s1 hd hc src => ?_⟩
    dsimp only [gName]
    refine seq_any (fun σ G => ∃ v2 v3 v4 v5 v6 v7 v8 : Option V, σ = lst10 a d v2 v3 v4 v5 v6 v7 v8 none) ?_ ?_
    rotate_left
    · intro nx0 hnx0
      refine ⟨4, rfl, by decide, by decide, for_range (lo := 0) (n := 4) (fun i σ G => (∃ v2 v3 v4 v5 v6 v7 v8 : Option V, σ = lst10 a d v2 v3 v4 v5 v6 v7 v8 none) ∧ SrcAt G d c) ⟨⟨none, none, none, none, none, none, none, rfl⟩, src⟩ ?_ (fun σ G q => hnx0 _ _ q.1)⟩
      clear src s1 hd hc
      rintro i σ G hi ⟨⟨v2, v3, v4, v5, v6, v7, v8, rfl⟩, src⟩
      dsimp only [gName]
      -- the frame
      refine seq_any (fun σ' G' => ∃ (e b : Addr) (xs : List Str) (ls : List Lt) (n : Nat), σ' = lst10 a d (some (.int (0 + (i : Int)))) (some (.ref e)) v4 v5 v6 v7 v8 none ∧ SrcAt G' d c ∧ FrAt K (hid d c G') e xs ls ∧ MdAt K (hid d c G') e xs ls [] b ∧ xs = ABC.take n ∧ n ≤ 3 ∧ 1 ≤ ls.length ∧ ls.length ≤ 8) ?_ ?_
      rotate_left
      · intro nx hnx
        refine ⟨_, rfl, _, rfl, d, c, 3, rfl, src, by decide, by decide, fun r G1 r0 r1 src1 keep1 => ?_⟩
        refine ⟨_, _, rfl, rfl, _, rfl, d, c, 8, rfl, src1, by decide, by decide, fun r2 G2 r20 r21 src2 keep2 => ?_⟩
        obtain ⟨j, rfl⟩ : ∃ j : Nat, r = (j : Int) := ⟨r.toNat, by omega⟩
        obtain ⟨j2, rfl⟩ : ∃ j : Nat, r2 = (j : Int) := ⟨r2.toNat, by omega⟩
        refine ⟨_, _, rfl, rfl, d, c, 1 + j, 1 + j2, by rw [show ((1 + j : Nat) : Int) = 1 + (j : Int) by omega, show ((1 + j2 : Nat) : Int) = 1 + (j2 : Int) by omega]; rfl, src2, by omega, by omega, by omega, by omega, fun e b xs ls G3 src3 sm3 fr3 md3 ex lm => ?_⟩
        exact hnx _ _ ⟨e, b, xs, ls, 1 + j, rfl, src3, fr3, md3, ex, by omega, by omega, by omega⟩
      clear src G v2 v3
      rintro σ G ⟨e, b, xs, ls, n, rfl, src, fr, md, ex, n3, l1, l8⟩
      have l3 : xs.length ≤ 3 := by rw [ex, List.length_take]; omega
      -- its totals
      refine seq_any (fun σ' G' => ∃ (e b : Addr) (us : List Lt), σ' = lst10 a d (some (.int (0 + (i : Int)))) (some (.ref e)) v4 v5 v6 v7 v8 none ∧ SrcAt G' d c ∧ FrAt K (hid d c G') e xs ls ∧ MdAt K (hid d c G') e xs ls (us.map totOf) b ∧ Drawn xs ls us ∧ us.Sublist ls) ?_ ?_
      rotate_left
      · intro nx hnx
        refine ⟨_, rfl, _, _, rfl, rfl, _, rfl, ite2 (fun _ => ?_) (fun _ => ?_)⟩
        · exact ⟨_, rfl, _, rfl, d, c, e, xs, ls, n, rfl, src, fr, ex, n3, fun e' b' us G3 src3 sm3 fr3 md3 dr sub => hnx _ _ ⟨e', b', us, rfl, src3, fr3, md3, dr, sub⟩⟩
        · exact hnx _ _ ⟨e, b, [], rfl, src, fr, md, drawn_of (us := []) fr.ok ex n3 (List.nil_sublist _) (fun _ z => nomatch z), List.nil_sublist _⟩
      clear src fr md G e b
      rintro σ G ⟨e, b, us, rfl, src, fr, md, dr, sub⟩
      have ok := fr.ok
      obtain ⟨R, hρ, wdo, hled⟩ := rkd_of dr sub l8 l3
      obtain ⟨ts, ets⟩ : ∃ ts, ts = us.map totOf := ⟨_, rfl⟩
      rw [← ets] at md R wdo hled
      clear ets dr sub
      -- the book
      refine seq_any (fun σ' G' => ∃ bk : Addr, σ' = lst10 a d (some (.int (0 + (i : Int)))) (some (.ref e)) (some (.ref bk)) v5 v6 v7 v8 none ∧ SrcAt G' d c ∧ Same (hid d c G) (hid d c G') ∧ BkAt K (hid d c G') bk b) ?_ ?_
      rotate_left
      · intro nx hnx
        obtain ⟨⟨_, _, _, _, hd, _⟩, _, _⟩ := md
        refine ⟨_, rfl, e, .ref b, rfl, fr_made (hid_sub _ _ hd), szl (by show 0 ≤ 1000; decide), fun p hp => ?_⟩
        refine mk_bk (SqL.of upd_same) fun bk G2 s2 hbk ⟨dx, T, hB⟩ => ?_
        have sA := (same_upd (o := .lst []) hp).trans s2
        have srcA := src_same sA src
        obtain ⟨n1, n2⟩ := src_ne (src_same (same_upd (o := .lst []) hp) src) hbk
        exact hnx _ _ ⟨bk, rfl, srcA, hid_same sA, dx, T, (hid_at n1 n2).trans hB⟩
      rintro σ G2 ⟨bk, rfl, src2, sm2, hB⟩
      replace fr := fr.same sm2
      replace md := md.same sm2
      clear sm2 src G
      obtain ⟨⟨_, _, _, t0, hd, hTs⟩, hFr, gd⟩ := id md
      refine ⟨_, rfl, e, .ref b, rfl, fr_made (hid_sub _ _ hd), ?_⟩
      refine ⟨_, rfl, _, rfl, d, c, e, b, 8, xs, ls, ts, rk, rfl, by decide, by decide, src2, fr, md, wdo, R, hρ, l1, fun u t ex2 ey G3 src3 sm3 ht hty hsh z26 c100 => ?_⟩
      replace fr := (fr.same sm3).same (hid_sub (d := d) (c := c))
      replace md := (md.same sm3).same (hid_sub (d := d) (c := c))
      replace hB := (hB.same sm3).same (hid_sub (d := d) (c := c))
      replace hFr := (hFr.same sm3).same (hid_sub (d := d) (c := c))
      replace hd := hid_sub _ _ (sm3 _ _ hd)
      replace hTs := (hTs.same sm3).same (hid_sub (d := d) (c := c))
      refine ⟨b, u, xs, ls, t, ex2, ey, rfl, ⟨ts, hFr⟩, ok, ht.same hid_sub, hty, hsh, by omega, c100, fun L G4 s4 hL ⟨as, eL, hR⟩ => ?_⟩
      replace fr := fr.same s4
      replace md := md.same s4
      replace hB := hB.same s4
      replace hFr := hFr.same s4
      replace hd := s4 _ _ hd
      replace hTs := hTs.same s4
      have la := hR.len
      have src4 := src_same s4 src3
      clear sm3 s4 ht hL
      refine ⟨L, rfl, ⟨_, SqL.of eL⟩, for_list (K := K) (a := L) (xs := as.map V.ref) (fun j σ G => (∃ v5 v6 v7 v8 : Option V, σ = lst10 a d (some (.int (0 + (i : Int)))) (some (.ref e)) (some (.ref bk)) v5 v6 v7 v8 none) ∧ Same G4 G) ⟨⟨_, _, _, _, rfl⟩, Same.refl _⟩ (fun j σ G _ q => q.2.seq (SqL.of eL)) ?_ (fun σ G ⟨⟨v5, v6, v7, v8, hσ⟩, sm⟩ => ⟨⟨_, _, _, _, _, _, _, hσ⟩, src_same sm src4⟩)⟩
      rintro j v σ G hj ⟨⟨v5, v6, v7, v8, rfl⟩, sm⟩
      obtain ⟨r, er, rfl⟩ := ref_at hj
      obtain ⟨wy, ew, hw⟩ := hR.get er
      have wo := wys_ok ok hsh hty (by omega) wy (List.mem_of_getElem? ew)
      have wg := wo.g
      have lw1 := wo.ln
      have lw2 := wo.mn
      have wl := wts_le (ρ := rk) wy.1
      obtain ⟨f, hG, lf⟩ := gr_ex R (wy.1.length * 73) 0 (wy.1, []) (fun z hz => hρ z (wo.inx z hz)) (Nat.zero_le _) (by rw [List.drop_zero]; exact wl)
      have wg2 := made_g ok gd.mem wg hG
      obtain ⟨ml, fl⟩ := made_len hG
      dsimp only [gName]
      -- due
      refine ⟨_, rfl, _, rfl, e, r, b, wy, _, f, xs, ls, ts, rfl, fr.same sm, md.same sm, wdo, wyAt_xp _ _ _ _ (.of sm) hw, hG, by omega, by omega, fun T A M G5 s5 hT hA => ⟨T, _, 0, _, rfl, rfl, hT, rfl, ?_⟩⟩
      have sm5 := sm.trans s5
      obtain ⟨s0, m0, hA1, hA2, _⟩ := id hA
      refine ⟨_, rfl, A, _, 0, _, rfl, rfl, hA1, rfl, s0, _, rfl, .inr hA2, ?_⟩
      rw [List.length_map]
      refine ⟨_, _, rfl, rfl, _, rfl, ite2 (fun _ => ?_) (fun hc => ?_)⟩
      · exact ⟨⟨_, _, _, _, rfl⟩, sm5⟩
      have lf12 : f.1.length ≤ 12 := by
        have z : ¬ ((12 : Int) < (f.1.length : Int)) := fun z => hc (decide_eq_true z)
        omega
      have sw2 := smW_of ok wg2 (by show f.1.length ≤ 400; omega) (by omega)
      obtain ⟨fa, fb, fc, fe⟩ := fine_wy sw2
      -- told
      refine ⟨_, rfl, _, rfl, bk, r, b, wy, _, f, xs, ls, ts, rfl, hB.same sm5, hFr.same sm5, gd, wyAt_xp _ _ _ _ (.of sm5) hw, wo.inx, hled, hG, by omega, by omega, fun T2 G6 s6 hT2 => ?_⟩
      have sm6 := sm5.trans s6
      have hA6 := wyAt_xp _ _ _ _ (.of s6) hA
      refine ⟨_, rfl, _, rfl, .ref T2, .ref A, _, rfl, va_wy hT2, va_wy hA6, fc, by omega, fe, _, rfl, ?_⟩
      refine iteF ⟨_, rfl, e, .ref b, rfl, fr_made (sm6 _ _ hd), _, rfl, b, T2, xs, ls, _, rfl, ⟨ts, hFr.same sm6⟩, ok, hT2, wg2, by show f.1.length ≤ 4000; omega, by omega, fun G7 s7 => ⟨true, true, rfl, rfl, _, rfl, ?_⟩⟩
      rw [decide_eq_true rfl]
      refine iteF ?_
      have sm7 := sm6.trans s7
      have hA7 := wyAt_xp _ _ _ _ (.of s7) hA6
      have hT7 := wyAt_xp _ _ _ _ (.of s7) hT2
      obtain ⟨bs, eB, hBt⟩ := hTs.same sm7
      -- no totals, nothing made
      dsimp only [tNext]
      refine seq_any (fun σ' G' => σ' = lst10 a d (some (.int (0 + (i : Int)))) (some (.ref e)) (some (.ref bk)) (some (.ref r)) (some (.ref A)) (some (.ref T2)) v8 none ∧ Same G7 G') ?_ ?_
      rotate_left
      · intro nx hnx
        refine ⟨_, rfl, e, .ref t0, rfl, fr_totals (sm7 _ _ hd), szl (by show 0 ≤ 1000; decide), fun N hN => ?_⟩
        have sN := same_upd (o := .lst []) hN
        refine ⟨t0, N, _, rfl, rfl, SqL.of (sN _ _ eB), SqL.of upd_same, _, rfl, ite2 (fun hem => ?_) (fun _ => iteF (hnx _ _ ⟨rfl, sN⟩))⟩
        have ts0 : ts = [] := by
          have l0 : bs = [] := by
            cases bs with
            | nil => rfl
            | cons _ _ => cases hem
          have z := hBt.1
          rw [l0, List.length_map] at z
          exact List.length_eq_zero_iff.mp z.symm
        subst ts0
        have em := made_nil hG
        rw [em] at hT7 fa fb
        have sh : SeqAt.shaped (wyD wy) = true := shp_of fa (by omega)
        refine ⟨_, rfl, _, rfl, wyD wy, wyD wy, dp_wy (wyAt_xp _ _ _ _ (.of sN) hT7), dp_wy (wyAt_xp _ _ _ _ (.of (sm7.trans sN)) hw), sh, sh, _, rfl, ?_⟩
        rw [SeqAt.eqv_refl _ fa]
        exact iteF (hnx _ _ ⟨rfl, sN⟩)
      rintro σ G8 ⟨rfl, s8⟩
      have sm8 := sm7.trans s8
      have hA8 := wyAt_xp _ _ _ _ (.of s8) hA7
      have hT8 := wyAt_xp _ _ _ _ (.of s8) hT7
      have wl2 := wts_le (ρ := rk) f.1
      obtain ⟨f2, hG2, lf2⟩ := gr_ex R (f.1.length * 73) 0 (f.1, []) (fun z hz => hρ z (wg2.inx z hz)) (Nat.zero_le _) (by rw [List.drop_zero]; exact wl2)
      have wg3 := made_g (w := madeW wy f) ok gd.mem wg2 hG2
      obtain ⟨ml2, fl2⟩ := made_len (w := madeW wy f) hG2
      have e1 : (madeW wy f).1.length = f.1.length := rfl
      -- again
      refine ⟨_, rfl, _, rfl, e, A, b, madeW wy f, _, f2, xs, ls, ts, rfl, fr.same sm8, md.same sm8, wdo, hA8, hG2, by omega, by omega, fun T3 A3 M3 G9 s9 hT3 hA3 => ⟨T3, _, 0, _, rfl, rfl, hT3, rfl, ?_⟩⟩
      have sm9 := sm8.trans s9
      obtain ⟨s3, m3, hB1, hB2, _⟩ := id hA3
      refine ⟨_, rfl, A3, _, 0, _, rfl, rfl, hB1, rfl, s3, _, rfl, .inr hB2, ?_⟩
      rw [List.length_map]
      refine ⟨_, _, rfl, rfl, _, rfl, ite2 (fun hc2 => ?_) (fun _ => iteF ⟨⟨_, _, _, _, rfl⟩, sm9⟩)⟩
      have lf13 : f2.1.length < 13 := by
        have z : (f2.1.length : Int) < 13 := of_decide_eq_true hc2
        omega
      have sw3 := smW_of ok wg3 (by show f2.1.length ≤ 400; omega) (by omega)
      obtain ⟨ga, gb, gc, ge⟩ := fine_wy sw3
      refine ⟨_, rfl, _, rfl, bk, T2, b, madeW wy f, _, f2, xs, ls, ts, rfl, hB.same sm9, hFr.same sm9, gd, wyAt_xp _ _ _ _ (.of s9) hT8, wg2.inx, hled, hG2, by omega, by omega, fun T4 G10 s10 hT4 => ?_⟩
      exact ⟨_, rfl, .ref T4, .ref A3, _, rfl, va_wy hT4, va_wy (wyAt_xp _ _ _ _ (.of s10) hA3), gc, by omega, ge, _, rfl, iteF ⟨⟨_, _, _, _, rfl⟩, sm9.trans s10⟩⟩
    rintro σ G ⟨v2, v3, v4, v5, v6, v7, v8, rfl⟩
    clear src s1 hd hc
    -- by hand: the house
    refine seq_any (fun σ' G' => ∃ b : Addr, σ' = lst10 a d v2 v3 v4 v5 v6 v7 v8 (some (.ref b)) ∧ FrmAt K G' b hX hL hT) ?_ ?_
    rotate_left
    · intro nx hnx
      refine ⟨szl (by show 2 ≤ 1000; decide), fun p1 h1 => ?_⟩
      have q1 := same_upd (o := .lst [V.str "abcdefghijkl", V.str "b"]) h1
      refine ⟨szl (by show 3 ≤ 1000; decide), fun T1 hT1 => ⟨szl (by show 1 ≤ 1000; decide), fun p2 h2 => ?_⟩⟩
      have q2 := same_upd (o := .tup [V.str "abcdefghijk0", V.str "abcdefghijkl", V.str "b"]) hT1
      have q3 := same_upd (o := .lst [V.ref T1]) h2
      refine ⟨szl (by show 2 ≤ 1000; decide), fun T2 hT2 => ⟨szl (by show 1 ≤ 1000; decide), fun p3 h3 => ?_⟩⟩
      have q4 := same_upd (o := .tup [V.str "abcdefghijk0", V.str "on"]) hT2
      have q5 := same_upd (o := .lst [V.ref T2]) h3
      refine mk_fr2 (xs := hX) (ls := hL) (ts := hT) (.inl (SqL.of ((q2.trans (q3.trans (q4.trans q5))) _ _ upd_same))) (TupsT.tups' (us := [T1]) (.inl (SqL.of ((q4.trans q5) _ _ upd_same))) ?_) (TupsT.tups' (us := [T2]) (.inl (SqL.of upd_same)) ?_) h_fi (fun f e => by rw [h_no] at e; cases e) fun _ b G2 s2 _ hF2 => hnx _ _ ⟨b, rfl, hF2⟩
      · have z := (AllT.nil (K := K)).snoc (u := T1) (vs := ltV ("abcdefghijk0", "abcdefghijkl", "b")) (sqt_same (q3.trans (q4.trans q5)) (SqT.of upd_same))
        exact z
      · have z := (AllT.nil (K := K)).snoc (u := T2) (vs := ttV ("abcdefghijk0", "on")) (sqt_same q5 (SqT.of upd_same))
        exact z
    rintro σ G2 ⟨b, rfl, hFr⟩
    -- the way
    refine seq_any (fun σ' G' => ∃ w0 : Addr, σ' = lst10 a d v2 v3 v4 (some (.ref w0)) v6 v7 v8 (some (.ref b)) ∧ Same G2 G' ∧ WyAt K G' w0 hW) ?_ ?_
    rotate_left
    · intro nx hnx
      refine ⟨szl (by show 2 ≤ 1000; decide), fun t1 h1 => ⟨szl (by show 2 ≤ 1000; decide), fun t2 h2 => ⟨szl (by show 3 ≤ 1000; decide), fun t3 h3 => ⟨szl (by show 1 ≤ 1000; decide), fun t4 h4 => ⟨szl (by show 2 ≤ 1000; decide), fun t5 h5 => ?_⟩⟩⟩⟩⟩
      have q1 := same_upd (o := .tup [V.str "abcdefghijkl", V.str "b"]) h1
      have q2 := same_upd (o := .tup [V.str "letter", V.str "abcdefghijk0"]) h2
      have q3 := same_upd (o := .tup [V.ref t2, V.int 0, V.int 1]) h3
      have q4 := same_upd (o := .tup [V.ref t3]) h4
      have q5 := same_upd (o := .tup [V.ref t1, V.ref t4]) h5
      exact hnx _ _ ⟨t5, rfl, q1.trans (q2.trans (q3.trans (q4.trans q5))), t1, t4, SqT.of upd_same, SqT.of ((q2.trans (q3.trans (q4.trans q5))) _ _ upd_same), [t3], SqT.of (q5 _ _ upd_same), .one ⟨t2, SqT.of ((q4.trans q5) _ _ upd_same), SqT.of ((q3.trans (q4.trans q5)) _ _ upd_same)⟩⟩
    rintro σ G3 ⟨w0, rfl, s3, hw0⟩
    -- what is due
    refine seq_any (fun σ' G' => ∃ u0 : Addr, σ' = lst10 a d v2 v3 v4 (some (.ref w0)) (some (.ref u0)) v7 v8 (some (.ref b)) ∧ Same G3 G' ∧ WyAt K G' u0 hD) ?_ ?_
    rotate_left
    · intro nx hnx
      obtain ⟨ws, wm, hw1, hw2, hw3⟩ := hw0
      refine ⟨szl (by show 3 ≤ 1000; decide), fun t1 h1 => ?_⟩
      have q1 := same_upd (o := .tup [V.str "abcdefghijkl", V.str "b", V.str "b"]) h1
      refine ⟨_, rfl, w0, _, 1, _, rfl, rfl, sqt_same q1 hw1, rfl, szl (by show 2 ≤ 1000; decide), fun t2 h2 => ⟨szl (by show 3 ≤ 1000; decide), fun t3 h3 => ⟨szl (by show 1 ≤ 1000; decide), fun t4 h4 => ?_⟩⟩⟩
      have q2 := same_upd (o := .tup [V.str "letter", V.str "abcdefghijk0"]) h2
      have q3 := same_upd (o := .tup [V.ref t2, V.int 0, V.int 2]) h3
      have q4 := same_upd (o := .tup [V.ref t3]) h4
      refine mks_cat (ms := hW.2) (ns := [(.leaf "letter" ["abcdefghijk0"], 0, 2)]) (hw3.xt (.of (q1.trans (q2.trans (q3.trans q4))))) ⟨[t3], SqT.of upd_same, .one ⟨t2, SqT.of (q4 _ _ upd_same), SqT.of ((q3.trans q4) _ _ upd_same)⟩⟩ (by decide) fun t5 G5 s5 h5 => ⟨szl (by show 2 ≤ 1000; decide), fun t6 h6 => ?_⟩
      have q6 := same_upd (o := .tup [V.ref t1, V.ref t5]) h6
      exact hnx _ _ ⟨t6, rfl, q1.trans (q2.trans (q3.trans (q4.trans (s5.trans q6)))), t1, t5, SqT.of upd_same, sqt_same (q2.trans (q3.trans (q4.trans (s5.trans q6)))) (SqT.of upd_same), h5.xt (.of q6)⟩
    rintro σ G4 ⟨u0, rfl, s4, hu0⟩
    refine ⟨_, rfl, szl (by show 0 ≤ 1000; decide), fun p hp => ?_⟩
    refine mk_bk (SqL.of upd_same) fun bk G5 s5 _ hB => ?_
    have s6 := (same_upd (o := .lst []) hp).trans s5
    obtain ⟨_, _, fc, fe⟩ := fine_wy h_sm
    have fb := (fine_wy h_sm).2.1
    refine ⟨_, rfl, bk, w0, b, hW, 3, hF, hX, hL, hT, rfl, hB, hFr.same (s3.trans (s4.trans s6)), h_gd, wyAt_xp _ _ _ _ (.of (s4.trans s6)) hw0, h_in, h_led, h_gr, by decide, by decide, fun T G7 s7 hT7 => ?_⟩
    rw [h_made] at hT7
    exact ⟨_, rfl, .ref T, .ref u0, _, rfl, va_wy hT7, va_wy (wyAt_xp _ _ _ _ (.of (s6.trans s7)) hu0), fc, by omega, fe, k G7⟩
end
end K43

namespace K43
open PySem PySem.Spec PyProof.Rows L2 Ow
/-! ### the end: the law's def is called at the bottom, where nothing is being shown -/
section
variable {P : Program} {w : World} {K : PySem.W.Frag} {mg mb : Str → Option Value} {f a : Addr} {fd : FuncData} {s : Shared} {us : List Value} {ks : List Int}
/-- what the row asks of that call -/
def Done (P : Program) (w : World) (f a : Addr) (s : Shared) : Prop :=
  codeAny (model P w) callerA (.call (.ref f) ⟨[.ref a], []⟩) (fun r t => r = .ok (.ret (.bool true)) ∧ OldK s.heap t.heap ∧ t.os = s.os ∧ AllBare t.gens) s
/-- over a reading that tracks the script, or nothing -/
theorem done_at (kx : K.In s.heap) (gN : s.heap.Ns mainGlobals mg) (bN : s.heap.Ns builtinsNs mb) (bQ : ∀ y : Str, y ≠ "__name__" → mb y = bootBuiltins y) (nl : s.heap.NoLimit) (ge : s.gens = #[])
    (aO : s.heap.get? a = some { cls := .type "list", data := .seq us.toArray }) (law : ∀ B : Heap, K.In B → B.Ns mainGlobals mg → FnG P w K mg B 92 f fd ["_law_script"] (spLaw K))
    (bd : BindsTo s fd ⟨[.ref a], []⟩ [("_law_script", .ref a)]) (H : Hp) (tr : Only H) (rd : SqL K H a (ks.map V.int)) (ln : ks.length ≤ 63) (ok : HOk P w H s.heap) (one : ∀ b, b ≠ a → H b = none) (un : H a ≠ none → K.lookup a = none) : Done P w f a s := by
  have isA : ∀ {b : Addr}, H b ≠ none → b = a := fun {b} z => Classical.byContradiction fun n => z (one b n)
  have dNo : ∀ {b : Addr} {o : Obj} {es : Array DictEntry} {ep : Nat}, s.heap.get? b = some o → o.data = .dict es ep → H b = none := fun {b o es ep} g d => one b fun e => by
    rw [e, aO] at g
    cases g
    exact nomatch (show Data.seq us.toArray _ = Data.dict es ep from d)
  have nsB : ∀ {b : Addr} {m : Str → Option Value}, s.heap.Ns b m → (hidT s.heap H).Ns b m := fun {b m} z => by
    obtain ⟨o, es, ep, g, d, r⟩ := z
    exact ⟨o, es, ep, hidT_get g (dNo g d), d, r⟩
  have kB : K.In (hidT s.heap H) := fun b o g => hidT_get (kx b o g) (Classical.byContradiction fun z => by
    have e := isA z
    rw [e] at z g
    exact nomatch (un z).symm.trans g)
  have md : Mod K mg (hidT s.heap H) := ⟨kB, nsB gN, ⟨mb, nsB bN, bQ⟩, by obtain ⟨m, g1, g2⟩ := nl; exact ⟨m, nsB g1, g2⟩⟩
  have en : Env0 P w K mg (hidT s.heap H) callerA [] s H := ⟨rfl, md, fun b o g => of_hidT g, Nat.le_of_eq (hidT_size _ _), trivial, fun b z => (List.not_mem_nil z).elim, ok, .of_eq ge⟩
  have go := (law _ kB (nsB gN)).run callerA [] s H ⟨[.ref a], []⟩ [.ref a] [.ref a] (fun v _ => v = .bl true) (fun _ _ _ => False) rfl ⟨rfl, by decide, by decide⟩ en bd (.cons rfl .nil) ⟨a, ks, rfl, rd, ln, fun _ => rfl⟩
  refine codeAny_mono go fun res t z => ?_
  match res, z with
  | .error _, z => exact False.elim z
  | .ok .next, z => exact False.elim z
  | .ok .brk, z => exact False.elim z
  | .ok .cont, z => exact False.elim z
  | .ok (.ret u), ⟨v, G, os, bare, base, okG, rv, e⟩ =>
    cases (show v = V.bl true from e)
    cases (show u = Value.bool true from rv)
    refine ⟨rfl, .of_keep fun b o g => ?_, os, bare⟩
    by_cases n : H b = none
    · exact base.keep b o g n (fun z => (List.not_mem_nil z).elim) (by simp)
    · rcases tr b with z | ⟨p, xs, z⟩
      · exact (n z).elim
      · have g1 := (ok b _ z).1
        have g2 := (okG b _ (base.frzs b p _ z)).1
        rw [g] at g1
        cases g1
        exact g2
theorem done (kx : K.In s.heap) (gN : s.heap.Ns mainGlobals mg) (bN : s.heap.Ns builtinsNs mb) (bQ : ∀ y : Str, y ≠ "__name__" → mb y = bootBuiltins y) (nl : s.heap.NoLimit) (ge : s.gens = #[])
    (aO : s.heap.get? a = some { cls := .type "list", data := .seq us.toArray }) (ia : IntsAre us ks) (ln : ks.length ≤ 63) (law : ∀ B : Heap, K.In B → B.Ns mainGlobals mg → FnG P w K mg B 92 f fd ["_law_script"] (spLaw K))
    (bd : BindsTo s fd ⟨[.ref a], []⟩ [("_law_script", .ref a)]) : Done P w f a s := by
  have vi := vals_ints ia
  have l1 : us.length = ks.length := ia.length
  have sz : ks.length ≤ sizeLine := Nat.le_trans ln (by decide)
  have at_ := done_at (ks := ks) kx gN bN bQ nl ge aO law bd
  by_cases kn : K.lookup a = none
  · refine at_ (fun b => if b = a then some (.frz { cls := .type "list", data := .seq us.toArray } (.lst (ks.map V.int))) else none) (fun b => ?_) (.inl (.inr ⟨_, if_pos rfl⟩)) ln (fun b u z => ?_) (fun b n => if_neg n) fun _ => kn
    · by_cases e : b = a
      · exact .inr ⟨_, _, if_pos e⟩
      · exact .inl (if_neg e)
    · by_cases e : b = a
      · cases (if_pos e).symm.trans z
        cases e
        exact ⟨aO, by rw [List.length_map]; exact sz, us, _, vi, aO⟩
      · exact nomatch (if_neg e).symm.trans z
  · obtain ⟨o, lk⟩ := Option.ne_none_iff_exists'.mp kn
    have e := (kx a o lk).symm.trans aO
    cases e
    exact at_ (fun _ => none) (fun _ => .inl rfl) (.inr ⟨_, us.toArray, _, lk, rfl, rfl, rfl, by rw [List.size_toArray, l1]; exact sz, by simpa using vi⟩) ln (fun b u z => nomatch (show (none : Option HO) = some u from z)) (fun _ _ => rfl) fun z => (z rfl).elim
end
/-- what the head has told of the law's def -/
theorem told_law {P : Program} {w : World} {K : PySem.W.Frag} {h : Heap} {mg : Str → Option Value} {f : Addr} (X : K.In h) (G : h.Ns mainGlobals mg) (at_ : mg ("law" : Str) = some (.ref f)) (c : He.SaysT fa fn tabs w K) (e : exB K = true) :
    ∃ fd : FuncData, (∀ (s : Shared) (v : Value), BindsTo s fd ⟨[v], []⟩ [("_law_script", v)]) ∧ ∀ B : Heap, FnG P w K mg B 92 f fd ["_law_script"] (spLaw K) := by
  have Y := Fx.of X G c e
  obtain ⟨fd, F⟩ := Y.dLaw
  have z := at_.symm.trans Y.gLaw
  cases z
  have b := FunD.bindsA (ps := ["_law_script"]) F fun _ _ _ _ _ _ us hl => match us, hl with | [_], _ => rfl
  exact ⟨fd, fun s v => b s [v] rfl, fun B => ok_law F Y⟩
theorem walkG {q : Program} {loose : List Str} {XP : (Str → Option Value) → Heap → Prop} {d : DefRec} (df : d.params.defaults = []) (nme : d.name = ("law" : Str)) :
    PySem.W.WalkO q loose XP hk.says (PySem.Challenge.rw_pairlaws_k43_made_places).row.toRowW d [] (fun f vs => PySem.call f vs) := by
  refine Att.attach_call (n := 63) rfl df fun w s₀ s mg mb f o pm cd doc a us ks G Y ho hd hcd at_ aO ia ln ge => ?_
  obtain ⟨K, kx, c, e⟩ := Y
  rw [nme] at at_
  obtain ⟨fd, bd, law⟩ := told_law (P := (PySem.Challenge.rw_pairlaws_k43_made_places).prog) (w := w) kx G.T.g at_ c e
  exact done kx G.T.g G.T.b G.T.builtins G.T.nolimit ge aO ia ln (fun B _ _ => law B) (bd s (.ref a))
end K43

open PySem PySem.W PySem.Calls PyProof.Rows
set_option maxRecDepth 100000 in
set_option maxHeartbeats 0 in
theorem PySem.Challenge.cw_pairlaws_k43_made_places_holds : PySem.Challenge.rw_pairlaws_k43_made_places.Holds := by
  w_on; o_law
  refine HandSHeadRun.head_any (r := OpenLaw.row PySem.Challenge.rw_pairlaws_k43_made_places) (q := view (OpenLaw.row PySem.Challenge.rw_pairlaws_k43_made_places).prog [85]) (H := K43.hk) (ob := K43.ob) (M := 40000) (loose := K43.nm) (d := HandSHeadRun.topDef (OpenLaw.row PySem.Challenge.rw_pairlaws_k43_made_places).prog 85) (kwd := []) K43.ob_eq
    (by kernel_rfl) (fun s => by kernel_rfl) K43.run (by kernel_rfl) (by kernel_rfl) (by kernel_rfl) (by rfl) (by first | assumption | decide +kernel) (by decide +kernel) ⟨rfl, rfl, rfl, rfl, rfl, by decide +kernel⟩ ?hw ?hc
  case hw => w_witness2
  case hc => exact K43.walkG (by kernel_rfl) (by kernel_rfl)
