import PyProof.Rows.All
import Wide.All
import OpenK.AllK
import Wide.FinOn
import KE.KStateDown
import KE.KExcInit
import KE.KExcIs
import HandS.ForMost
import HandS.ForExc
import HandS.ExcInit
import HandS.ExcValue
import HandS.ExcField
import HandS.IsInst
import HandS.Conv
import HandS.Defaults
import HandS.Wide
import HandS.Head0
import HandS.Head1
import HandS.Head2
import HandS.HeadEnd
import HandS.HeadHook1
import HandS.HeadHook2
import PyProof.ReprRoads
import PySem.Challenge.RW_pairlaws_k00_errors
set_option Elab.async false
set_option linter.all false
set_option maxRecDepth 100000
set_option maxHeartbeats 0
namespace K00
open PySem PySem.Spec PyProof.Rows L2
/-! ### what the top has written: the classes by number, the defs -/
def CL0 : List PySem.Str := ["MixedNames", "NotSquare", "NotShort", "NotPlain", "MixedFrames", "MixedWorlds", "BadPaper", "BadSplit", "BadSteps", "HasRest"]
def CL1 : List PySem.Str := ["BadImages", "BadDeed", "TooMany", "NothingDone", "BadName", "TwiceTold", "BadFrame", "BadWorld", "NotFree", "NotOfKind"]
def CL2 : List PySem.Str := ["BadPlan", "ComesRound", "BadTerm", "BadText", "NotKept", "NotFlat", "MixedEnds", "NotTotal", "NotLed", "Broken"]
def CL3 : List PySem.Str := ["Clash", "UnknownName", "NotTold", "NoState"]
def CL : List PySem.Str := CL0 ++ (CL1 ++ (CL2 ++ (CL3)))
def ad (K : PySem.W.Frag) (i : Nat) : Addr := He.ga K (CL.getD i "")
abbrev veB : List Value := [.type "ValueError", .type "Exception", .type "BaseException", .type "object"]
abbrev leB : List Value := [.type "LookupError", .type "Exception", .type "BaseException", .type "object"]
/-- the fields of the class with number 14 + i -/
def FLD : List (List Str) := [["name"], ["name"], ["name"], ["name"], ["name"], ["word", "members"], ["number"], ["members"], ["path"], ["place"], ["number"], ["number"], ["number"], ["name", "word", "member"], ["name", "pair"], ["members"], ["spots"], ["name"], ["name"], ["number"]]
def ecB (K : PySem.W.Frag) (C : Addr) : Bool := (PySem.W.clsIn K C).isSome && (PySem.W.hasDictIn K C && (He.eqO (PySem.W.findIn K (.ref C) "__getattribute__") (some (some (.builtin "BaseException.__getattribute__"))) && (He.eqO (PySem.W.findIn K (.ref C) "__getattr__") (some none) &&
  (He.eqO (PySem.W.findIn K (.ref C) "__setattr__") (some (some (.builtin "object.__setattr__"))) && (He.eqO (PySem.W.findIn K (.ref C) "__class__") (some (some (.builtin "object.__class__"))) && (decide (PySem.W.subIn K (.ref C) (.type "BaseException") = some true) &&
  (decide (PySem.W.mroIn K C (.type "object") = some true) && PySem.W.keepIn K (.ref C))))))))
def ocB (K : PySem.W.Frag) : Bool := He.eqO (PySem.W.specialIn K (.builtin "object.__class__") "__get__") (some (some (.builtin "getset_descriptor.__get__"))) && decide (PySem.W.takesIn K (.builtin "object.__class__") = some true)
def kitB1 (K : PySem.W.Frag) (C : Addr) (u : Value) (b : Bool) : Bool := decide (PySem.W.kitOne K (.ref C) u = some b)
/-- the class with number i is of the class with number j just if i = j; of which bases it is -/
def kitsB (K : PySem.W.Frag) (i : Nat) : Bool := (List.range 34).all fun j => kitB1 K (ad K i) (.ref (ad K j)) (decide (j = i))
def basB (K : PySem.W.Frag) (i : Nat) : Bool := kitB1 K (ad K i) (.ref (He.ga K "PairError")) (decide (i < 31)) && (kitB1 K (ad K i) (.type "ValueError") (decide (i < 31)) && (kitB1 K (ad K i) (.ref (He.ga K "NameMissing")) (decide (31 ≤ i)) && kitB1 K (ad K i) (.type "LookupError") (decide (31 ≤ i))))
def plB (K : PySem.W.Frag) (i : Nat) : Bool := PySem.W.excIn K (ad K i) veB "ValueError.__new__"
def iniB (K : PySem.W.Frag) (i : Nat) : Bool := (if i < 31 then PySem.W.excInitIn K (ad K i) veB "ValueError.__new__" && PySem.W.excOver K (ad K i) veB else PySem.W.excInitIn K (ad K i) leB "LookupError.__new__" && PySem.W.excOver K (ad K i) leB) &&
  (He.eqO (PySem.W.findIn K (.ref (ad K i)) "__init__") (some (some (.ref (He.ma K (ad K i) "__init__")))) && (decide (PySem.W.typeIn K (.ref (He.ma K (ad K i) "__init__")) = some (.type "function")) &&
  (FLD.getD (i - 14) []).all fun f => He.eqO (PySem.W.takerIn K (ad K i) f) (some none) && He.eqO (PySem.W.findIn K (.ref (ad K i)) f) (some none)))
def exB (K : PySem.W.Frag) : Bool := ocB K && ((List.range 34).all (fun i => ecB K (ad K i)) && ((List.range 34).all (kitsB K) && ((List.range 34).all (basB K) && ((List.range 14).all (plB K) && (List.range 20).all fun i => iniB K (14 + i)))))
/-! ### the defs -/
def top (i : Nat) : Stmt := PySem.Challenge.pw_pairlaws_k00_errors.main.body.getD i (.Pass ⟨0, 0, 0, 0⟩)
def dSource : He.DefD := ⟨("_law_source", none), "_law_source", "_law_source", defArgs (top 38), defBody (top 38), defScope (top 38), [], []⟩
def dPick : He.DefD := ⟨("_law_pick", none), "_law_pick", "_law_pick", defArgs (top 39), defBody (top 39), defScope (top 39), [], []⟩
def dKinds : He.DefD := ⟨("_law_kinds", none), "_law_kinds", "_law_kinds", defArgs (top 40), defBody (top 40), defScope (top 40), [], []⟩
def dBases : He.DefD := ⟨("_law_bases", none), "_law_bases", "_law_bases", defArgs (top 41), defBody (top 41), defScope (top 41), [], []⟩
def dPlain : He.DefD := ⟨("_law_plain", none), "_law_plain", "_law_plain", defArgs (top 42), defBody (top 42), defScope (top 42), [], []⟩
def dTold : He.DefD := ⟨("_law_told", none), "_law_told", "_law_told", defArgs (top 43), defBody (top 43), defScope (top 43), [], []⟩
def dKept : He.DefD := ⟨("_law_kept", none), "_law_kept", "_law_kept", defArgs (top 44), defBody (top 44), defScope (top 44), [], []⟩
def dLaw : He.DefD := ⟨("law", none), "law", "law", defArgs (top 45), defBody (top 45), defScope (top 45), [], []⟩
def sIni (i : Nat) : Stmt := inClass (top i) 0
def dIBadName : He.DefD := ⟨("BadName", some "__init__"), "__init__", "BadName.__init__", defArgs (sIni 16), defBody (sIni 16), defScope (sIni 16), [], []⟩
def dITwiceTold : He.DefD := ⟨("TwiceTold", some "__init__"), "__init__", "TwiceTold.__init__", defArgs (sIni 17), defBody (sIni 17), defScope (sIni 17), [], []⟩
def dIBadFrame : He.DefD := ⟨("BadFrame", some "__init__"), "__init__", "BadFrame.__init__", defArgs (sIni 18), defBody (sIni 18), defScope (sIni 18), [], []⟩
def dIBadWorld : He.DefD := ⟨("BadWorld", some "__init__"), "__init__", "BadWorld.__init__", defArgs (sIni 19), defBody (sIni 19), defScope (sIni 19), [], []⟩
def dINotFree : He.DefD := ⟨("NotFree", some "__init__"), "__init__", "NotFree.__init__", defArgs (sIni 20), defBody (sIni 20), defScope (sIni 20), [], []⟩
def dINotOfKind : He.DefD := ⟨("NotOfKind", some "__init__"), "__init__", "NotOfKind.__init__", defArgs (sIni 21), defBody (sIni 21), defScope (sIni 21), [], []⟩
def dIBadPlan : He.DefD := ⟨("BadPlan", some "__init__"), "__init__", "BadPlan.__init__", defArgs (sIni 22), defBody (sIni 22), defScope (sIni 22), [], []⟩
def dIComesRound : He.DefD := ⟨("ComesRound", some "__init__"), "__init__", "ComesRound.__init__", defArgs (sIni 23), defBody (sIni 23), defScope (sIni 23), [], []⟩
def dIBadTerm : He.DefD := ⟨("BadTerm", some "__init__"), "__init__", "BadTerm.__init__", defArgs (sIni 24), defBody (sIni 24), defScope (sIni 24), [], []⟩
def dIBadText : He.DefD := ⟨("BadText", some "__init__"), "__init__", "BadText.__init__", defArgs (sIni 25), defBody (sIni 25), defScope (sIni 25), [], []⟩
def dINotKept : He.DefD := ⟨("NotKept", some "__init__"), "__init__", "NotKept.__init__", defArgs (sIni 26), defBody (sIni 26), defScope (sIni 26), [], []⟩
def dINotFlat : He.DefD := ⟨("NotFlat", some "__init__"), "__init__", "NotFlat.__init__", defArgs (sIni 27), defBody (sIni 27), defScope (sIni 27), [], []⟩
def dIMixedEnds : He.DefD := ⟨("MixedEnds", some "__init__"), "__init__", "MixedEnds.__init__", defArgs (sIni 28), defBody (sIni 28), defScope (sIni 28), [], []⟩
def dINotTotal : He.DefD := ⟨("NotTotal", some "__init__"), "__init__", "NotTotal.__init__", defArgs (sIni 29), defBody (sIni 29), defScope (sIni 29), [], []⟩
def dINotLed : He.DefD := ⟨("NotLed", some "__init__"), "__init__", "NotLed.__init__", defArgs (sIni 30), defBody (sIni 30), defScope (sIni 30), [], []⟩
def dIBroken : He.DefD := ⟨("Broken", some "__init__"), "__init__", "Broken.__init__", defArgs (sIni 31), defBody (sIni 31), defScope (sIni 31), [], []⟩
def dIClash : He.DefD := ⟨("Clash", some "__init__"), "__init__", "Clash.__init__", defArgs (sIni 32), defBody (sIni 32), defScope (sIni 32), [], []⟩
def dIUnknownName : He.DefD := ⟨("UnknownName", some "__init__"), "__init__", "UnknownName.__init__", defArgs (sIni 34), defBody (sIni 34), defScope (sIni 34), [], []⟩
def dINotTold : He.DefD := ⟨("NotTold", some "__init__"), "__init__", "NotTold.__init__", defArgs (sIni 35), defBody (sIni 35), defScope (sIni 35), [], []⟩
def dINoState : He.DefD := ⟨("NoState", some "__init__"), "__init__", "NoState.__init__", defArgs (sIni 36), defBody (sIni 36), defScope (sIni 36), [], []⟩
def fn0 : List He.DefD := [dSource, dPick, dKinds, dBases, dPlain, dTold, dKept, dLaw, dIBadName, dITwiceTold]
def fn1 : List He.DefD := [dIBadFrame, dIBadWorld, dINotFree, dINotOfKind, dIBadPlan, dIComesRound, dIBadTerm, dIBadText, dINotKept, dINotFlat]
def fn2 : List He.DefD := [dIMixedEnds, dINotTotal, dINotLed, dIBroken, dIClash, dIUnknownName, dINotTold, dINoState]
def fn : List He.DefD := fn0 ++ (fn1 ++ (fn2))
def fa0 : List He.Fa := [.glo "MixedNames", .glo "NotSquare", .glo "NotShort", .glo "NotPlain", .glo "MixedFrames", .glo "MixedWorlds", .glo "BadPaper", .glo "BadSplit", .glo "BadSteps", .glo "HasRest"]
def fa1 : List He.Fa := [.glo "BadImages", .glo "BadDeed", .glo "TooMany", .glo "NothingDone", .glo "BadName", .glo "TwiceTold", .glo "BadFrame", .glo "BadWorld", .glo "NotFree", .glo "NotOfKind"]
def fa2 : List He.Fa := [.glo "BadPlan", .glo "ComesRound", .glo "BadTerm", .glo "BadText", .glo "NotKept", .glo "NotFlat", .glo "MixedEnds", .glo "NotTotal", .glo "NotLed", .glo "Broken"]
def fa3 : List He.Fa := [.glo "Clash", .glo "UnknownName", .glo "NotTold", .glo "NoState", .glo "PairError", .glo "NameMissing", .glo "_law_source", .glo "_law_pick", .glo "_law_kinds", .glo "_law_bases"]
def fa4 : List He.Fa := [.glo "_law_plain", .glo "_law_told", .glo "_law_kept", .glo "law", .free "len", .free "int", .free "abs", .free "range", .free "isinstance", .free "tuple"]
def fa5 : List He.Fa := [.free "repr", .free "ValueError", .free "LookupError"]
def fa : List He.Fa := fa0 ++ (fa1 ++ (fa2 ++ (fa3 ++ (fa4 ++ (fa5)))))
def nm0 : List PySem.Str := ["PairError", "MixedNames", "NotSquare", "NotShort", "NotPlain", "MixedFrames", "MixedWorlds", "BadPaper", "BadSplit", "BadSteps"]
def nm1 : List PySem.Str := ["HasRest", "BadImages", "BadDeed", "TooMany", "NothingDone", "BadName", "TwiceTold", "BadFrame", "BadWorld", "NotFree"]
def nm2 : List PySem.Str := ["NotOfKind", "BadPlan", "ComesRound", "BadTerm", "BadText", "NotKept", "NotFlat", "MixedEnds", "NotTotal", "NotLed"]
def nm3 : List PySem.Str := ["Broken", "Clash", "NameMissing", "UnknownName", "NotTold", "NoState", "_law_source", "_law_pick", "_law_kinds", "_law_bases"]
def nm4 : List PySem.Str := ["_law_plain", "_law_told", "_law_kept"]
def nm : List PySem.Str := nm0 ++ (nm1 ++ (nm2 ++ (nm3 ++ (nm4))))
/-! ### the head's Hook: facts, and one Bool more -/
abbrev AlY : Type := He.AlD × Bool
def obY (n : Nat) (fa : List He.Fa) (fn : List He.DefD) (ex : PySem.W.Frag → Bool) (g : Addr → Option Obj) : AlY := (He.obsDG n fa fn g, ex (He.frG g (He.asD g n)))
def hookY (n : Nat) (fa : List He.Fa) (fn : List He.DefD) (ex : PySem.W.Frag → Bool) : PySem.W.Hook where
  α := AlY
  obs := fun s => obY n fa fn ex s.heap.get?
  val := fun _ => (He.valD fn, true)
  says := fun _ h => ∃ K : PySem.W.Frag, K.In h ∧ He.SaysD fa fn K ∧ ex K = true
  of := fun _ _ e => ⟨_, He.frG_in, congrArg (fun z : AlY => z.1) e, congrArg (fun z : AlY => z.2) e⟩
  keeps := fun _ _ _ ⟨K, hK, c⟩ k => ⟨K, PySem.W.Frag.In.keeps hK k, c⟩
theorem obY_eq {n : Nat} {fa : List He.Fa} {fn : List He.DefD} {ex : PySem.W.Frag → Bool} {g : Addr → Option Obj} {s : Shared} (h : ∀ a, g a = s.heap.get? a) : obY n fa fn ex g = (hookY n fa fn ex).obs s := by
  have e : g = s.heap.get? := funext h
  rw [e] <;> rfl
abbrev R : PySem.W.OpenRow := PySem.W.OpenLaw.row PySem.Challenge.rw_pairlaws_k00_errors
abbrev hk : PySem.W.Hook := hookY 5 fa fn exB
def ob (s : PySem.W.SharedT) : AlY := obY 5 fa fn exB (HandSHeadRun.getT s)
theorem ob_eq (s : PySem.W.SharedT) : ob s = hk.obs s.abs := obY_eq (HandSHeadRun.getT_eq s)
theorem run (w : World) : HandSHeadRun.RunEq R (PySem.W.view R.prog [45]) hk ob 40000 nm w := by
  intro os
  kernel_rfl
end K00

/-! Exceptions of the program as plain values: made, stored into, read, asked for their class; repr of data. -/
namespace Xv
open PySem PySem.Spec PyProof.Rows L2
/-- what the written part says of an exception class -/
structure EC (K : PySem.W.Frag) (C : Addr) : Prop where
  cl : (PySem.W.clsIn K C).isSome = true
  hd : PySem.W.hasDictIn K C = true
  ga : PySem.W.findIn K (.ref C) "__getattribute__" = some (some (.builtin "BaseException.__getattribute__"))
  gg : PySem.W.findIn K (.ref C) "__getattr__" = some none
  sa : PySem.W.findIn K (.ref C) "__setattr__" = some (some (.builtin "object.__setattr__"))
  ca : PySem.W.findIn K (.ref C) "__class__" = some (some (.builtin "object.__class__"))
  be : PySem.W.subIn K (.ref C) (.type "BaseException") = some true
  ob : PySem.W.mroIn K C (.type "object") = some true
  kp : PySem.W.keepIn K (.ref C) = true
/-- and of object.__class__ -/
structure OC (K : PySem.W.Frag) : Prop where
  g : PySem.W.specialIn K (.builtin "object.__class__") "__get__" = some (some (.builtin "getset_descriptor.__get__"))
  t : PySem.W.takesIn K (.builtin "object.__class__") = some true
/-- an exception of the class at C at a, with no dict as yet or with the fields fs -/
def IsX (H : Hp) (a C : Addr) (fs : List (Str × V)) : Prop := (H a = some (exo a C none) ∧ fs = []) ∨ ∃ dx, H a = some (exo a C (some dx)) ∧ H dx = some (exd dx fs)
section
variable {X : Cx} {pins : List (Addr × Obj)} {σ : L2.St} {H : Hp} {s : Shared} {a C : Addr} {fs : List (Str × V)}
theorem IsX.at (I : Inv X pins σ H s) (e : IsX H a C fs) : ∃ (ox : Obj) (od : Option Obj), PySem.W.InstAt s.heap a ox C od := by
  rcases e with ⟨e, _⟩ | ⟨dx, e, d⟩
  · obtain ⟨t, h⟩ := exo_at I.hok e
    exact ⟨_, none, h, rfl, rfl, trivial⟩
  · obtain ⟨t, h⟩ := exo_at I.hok e
    obtain ⟨mA, hn, _⟩ := exd_at I.hok d
    obtain ⟨o, _, _, ho, _⟩ := hn
    exact ⟨_, some o, h, rfl, rfl, ho⟩
/-- isinstance(e, c) of such an exception -/
def rIsX (K : PySem.W.Frag) : List V → Hp → VK → Prop := fun xs H Q => ∃ (a C : Addr) (fs : List (Str × V)) (c : V) (u : Value) (b : Bool), xs = [.ref a, c] ∧ IsX H a C fs ∧ EC K C ∧ ClsV c u ∧ PySem.W.kitOne K (.ref C) u = some b ∧ Q (.bl b) H
theorem call_isX (O : OC X.K) : CallR X (.builtin "isinstance") (rIsX X.K) := by
  intro pins s σ H xs us Q I r ⟨a, C, fs, c, u, b, e, hx, T, k, ek, q⟩
  subst e
  obtain ⟨u1, u2, rfl, r1, r2⟩ := vals2 r
  obtain rfl : u1 = Value.ref a := r1
  have e2 := k.eq r2
  subst e2
  obtain ⟨ox, od, J⟩ := hx.at I
  exact PySem.W.kia_one (PySem.W.kitx_exc T.cl T.ga T.gg T.be T.ca O.g O.t T.ob) I.kIn J ek (fun z => nomatch z) fun tk => ⟨.bl b, H, I.tok tk, rfl, q⟩
/-- C(), the class without an __init__ of its own -/
theorem pe_exc0 {bmB : List Value} {B newId initId : String} {x : Str} {p pos : Pos} (F : ExcBaseFacts B newId initId bmB) (q : PySem.W.excIn X.K C bmB newId = true) (gC : X.mg x = some (.ref C)) (kC : PySem.W.keepIn X.K (.ref C) = true) (hg : Gl X x)
    (hdb : (x == ("__debug__" : Str)) = false := by decide) : PE X (.Call (.Name x p) [] [] pos) (fun _ H Q => ∀ a, H a = none → Q (.ref a) (upd H a (exo a C none))) := by
  refine ⟨fun pins s σ H Q I h => wpAny_Call_Name_kw (ld_glob I hg gC ?_ hdb)⟩
  refine PySem.W.callWith_K0 I.kIn kC ?_
  obtain ⟨bm, N, nm, qn, bs, hdct, sn, sub, abt, col, dd, k0, k1, k2, k3, k5, mN, hC, hN, hni, T⟩ := exc_obj I.kIn q
  refine wpAny_call_exc_subT F T hC hN hni (fun h' e hm => ?_) (by show 0 ≤ sizeLine; rw [sizeLine_eq]; omega)
  have hn : H e = none := I.hok.gone hm.new
  obtain ⟨t, ht, _, _⟩ := hm.there
  exact ⟨.ref e, upd H e (exo e C none), I.laidN hm.keeps hm.new hn (exo_ok ht), rfl, h e hn⟩
/-- C(e, ..), the class's own __init__ keeping sp -/
theorem pe_excI {CX : CXT} {bmB : List Value} {B newId initId : String} {x : Str} {fI : Addr} {k : Nat} {fd : FuncData} {ps : List Str} {sp : Sp} {p pos : Pos} {e : Expr} {es : List Expr} {ta : TA} (F : ExcBaseFacts B newId initId bmB)
    (q : PySem.W.excInitIn X.K C bmB newId = true) (iC : PySem.W.findIn X.K (.ref C) "__init__" = some (some (.ref fI))) (tI : PySem.W.typeIn X.K (.ref fI) = some (.type "function")) (kC : PySem.W.keepIn X.K (.ref C) = true)
    (F1 : FnOk X.prog X.w X.K X.mg X.base CX k fI fd ps sp) (hr : Room (k + 1) X.A) (hb : Binds X.K fd ps []) (hx : Passes CX X (fun _ _ _ => False)) (hg : Gl X x) (hm : X.mg x = some (.ref C)) (ha : PA X (e :: es) ta)
    (hdb : (x == ("__debug__" : Str)) = false := by decide) (he : starEach (e :: es) X.env = (false, eval e X.env) :: starEach es X.env := by rfl) (hpl : (backTo pos (starEach es X.env)).any (·.1) = false := by rfl) :
    PE X (.Call (.Name x p) (e :: es) [] pos) (fun σ H Q => ta σ H fun vs H1 => vs.length ≤ 1000 ∧ ∀ a, H1 a = none → sp (.ref a :: vs) (upd H1 a (exo a C none)) (fun v H2 => v = .non ∧ Q (.ref a) H2) (fun _ _ _ => False)) := by
  refine ⟨fun pins s σ H Q I h => wpAny_Call_Name_kw (ld_glob I hg hm ?_ hdb)⟩
  refine PySem.W.callWith_K (h₀ := X.base) I.ok.mod.kin kC (thn (ha.run pos pins s σ H _ I h) fun us s1 ⟨vs, H1, I1, r1, hz, q1⟩ => ⟨I1.kIn, ?_⟩) he hpl
  show wpAny _ _ (call (.ref C) us) _ _ _
  obtain ⟨hp, g, dr, tk, os⟩ := s1
  have sz1 : hp.objs.size ≤ hp.objs.size + 1 := Nat.le_succ _
  have spq := q1 (hp.objs.size + 1) (I1.hok.fresh sz1)
  obtain ⟨nm, N', qn, bs, bm, hdct, sn, sub, abt, col, dd, k0, k1, k2, k3, k5, hC, hT⟩ := PySem.W.excInit_of I1.kIn q
  have kept : ∀ b o, hp.get? b = some o → ((hp.push (PySem.W.kdv_tup us)).push (PySem.HandSPX.excO C hp.objs.size)).get? b = some o := fun b o z => Heap.get?_push_of_some _ (Heap.get?_push_of_some _ z)
  have there : ((hp.push (PySem.W.kdv_tup us)).push (PySem.HandSPX.excO C hp.objs.size)).get? (hp.objs.size + 1) = some (PySem.HandSPX.excO C hp.objs.size) := by heap_get
  have I2 := I1.laid (t' := tk) (a := hp.objs.size + 1) (o := exo (hp.objs.size + 1) C none) kept sz1 (exo_ok there)
  have rl : Vals (V.ref (hp.objs.size + 1) :: vs) (Value.ref (hp.objs.size + 1) :: us) := .cons rfl r1
  have ln : (Value.ref (hp.objs.size + 1) :: us).length = ps.length := by rw [← rl.length]; exact F1.len _ _ _ _ spq
  have uz : us.length ≤ sizeLine := by rw [← Paired.length r1, sizeLine_eq]; omega
  have bd := hb _ (Value.ref (hp.objs.size + 1) :: us) I2.kIn (by rw [List.append_nil]; exact ln)
  rw [List.append_nil] at bd
  refine wpAny_call (PySem.HandSPX.call_own F hT hC (PySem.W.looks_findIn I1.kIn iC) (fun self => PySem.W.bind_fn I1.kIn self tI) uz
    (codeAny_mono (F1.run _ X.stack _ _ ⟨Value.ref (hp.objs.size + 1) :: us, []⟩ _ _ _ (fun _ _ _ => False) (hr.make C us []) (I2.env0.make C us []) bd rl spq) fun r s' z => ?_))
  cases r with
  | error er => exact hx pins σ _ _ er s' I2 z
  | ok fl =>
    cases fl with
    | ret u =>
      obtain ⟨v, H', J, rv, ev, q3⟩ := I2.after z
      subst ev
      exact ⟨rv, .ref (hp.objs.size + 1), H', J, rfl, q3⟩
    | next => exact False.elim z
    | brk => exact False.elim z
    | cont => exact False.elim z

/-- the object's dict is made: what the abstract heap says behind the first store -/
theorem stored {h' : Heap} {hp : Heap} {g : Array GenState} {dr : Drawn} {t t' : Nat} {os : OsState} {dx t1 : Addr} {mA : Str → Option Value} (I : Inv X pins σ H ⟨hp, g, dr, t, os⟩) (e : H a = some (exo a C none)) (hk : ∀ b o, b ≠ a → hp.get? b = some o → h'.get? b = some o)
    (dn : hp.objs.size ≤ dx) (hx : h'.get? a = some ({ cls := .ref C, dict := some dx, data := .fields #[.ref t1, .none, .none, .none, .bool false, .none] } : Obj)) (hn : h'.Ns1 dx mA) (rel : ∀ g, RelO (fs.lookup g) (mA g)) :
    Inv X pins σ (upd (upd H dx (exd dx fs)) a (exo a C (some dx))) ⟨h', g, dr, t', os⟩ := by
  have fr : H dx = none := I.hok.fresh dn
  have old : ∀ {b : Addr} {o : Obj}, hp.get? b = some o → b ≠ dx := fun z => Nat.ne_of_lt (Nat.lt_of_lt_of_le (Heap.lt_size z) dn)
  have na : ∀ {b : Addr}, H b = none → b ≠ a := fun n z => nomatch (show (none : Option HO) = some _ from n.symm.trans ((congrArg H z).trans e))
  have up : ∀ {b : Addr} {u : HO}, H b = some u → b ≠ a → upd (upd H dx (exd dx fs)) a (exo a C (some dx)) b = some u := fun z hb => (upd_ne hb).trans ((upd_ne (ne_of_none z fr)).trans z)
  have U : Un X.fs [] H (upd (upd H dx (exd dx fs)) a (exo a C (some dx))) hp h' :=
    ⟨fun b o q n _ _ => hk b o (na n) q, fun b o q n _ _ => ⟨o.slots, hk b o (na n) q⟩, fun b o q n _ => (upd_ne (na n)).trans ((upd_ne (old q)).trans n),
      fun b o q _ => if hb : b = a then ⟨_, hb ▸ hx⟩ else ⟨o, hk b o hb q⟩, fun b xs q => up q (at_ne e q exo_tup), fun b o v q => up q (at_ne e q exo_frz), fun b ps q => ⟨#[], (up q (at_ne e q exo_tbl)).trans (by simp)⟩⟩
  refine I.un U fun b o q => ?_
  by_cases hb : b = a
  · subst hb
    rw [upd_same] at q
    obtain rfl := Option.some.inj q
    exact exo_ok hx
  rw [upd_ne hb] at q
  by_cases hd : b = dx
  · subst hd
    rw [upd_same] at q
    obtain rfl := Option.some.inj q
    exact exd_ok hn rel
  rw [upd_ne hd] at q
  refine (I.hok b o q).stay (fun c v hc z => hk c v ?_ z) (fun c hc => up hc (at_ne e hc exo_own)) (fun c xs hc => up hc (at_ne e hc exo_tup))
  rcases hc with rfl | hc
  · exact hb
  · exact at_ne e hc exo_own
section
variable {B : String} {bmB : List Value} {f : Str} {y : V} {u : Value} {Q : Unit → Shared → Prop} {E : Value → Shared → Prop} {A : Around} {dx : Addr}
theorem st_new (SF : StoreFacts B bmB "object.__setattr__" "object") (T : EC X.K C) (ov : PySem.W.excOver X.K C bmB = true) (tk : PySem.W.takerIn X.K C f = some none) (I : Inv X pins σ H s) (e : H a = some (exo a C none)) (ry : RelV y u)
    (h : ∀ dx s', H dx = none → dx ≠ a → Inv X pins σ (upd (upd H dx (exd dx [(f, y)])) a (exo a C (some dx))) s' → Q () s') : wpAny (model X.prog X.w) A (setAttr (.ref a) f u) Q E s := by
  obtain ⟨t1, ho⟩ := exo_at I.hok e
  obtain ⟨hp, g, d, t, os⟩ := s
  obtain ⟨cd, hc, hd'⟩ := PySem.W.any_some T.hd
  have az : a ≠ hp.objs.size := Nat.ne_of_lt (Heap.lt_size ho)
  refine PySem.W.set_plain I.kIn (od := none) ⟨ho, rfl, rfl, trivial⟩ T.sa (PySem.W.osa_openX (s := ⟨hp, g, d, t + 1, os⟩) (od := none) SF I.kIn ⟨ho, rfl, rfl, trivial⟩ ov tk fun b => ?_)
  refine wpAny_bind (wpAny_pure (wpAny_bind (PySem.W.instanceDict_exc (t := t1) (c2 := .none) ho ((PySem.W.looks_clsIn I.kIn hc)) hd' ?_)))
  show wpAny _ _ (Builtin.ObjectAttr.storeInDict hp.objs.size (.str f _) f u) _ _ _
  refine PySem.HandSPX.store_in_new ⟨_, #[], _, (Heap.get?_update_ne _ _ _ _ az.symm).trans (Heap.get?_push_at rfl rfl), rfl, fun e he => absurd he (by simp), fun _ => rfl⟩ fun h' tk' hn' hs => ?_
  have ha : (hp.push (PySem.W.dictOf [] 0)).get? a = some _ := Heap.get?_push_of_some _ ho
  refine h hp.objs.size _ (I.hok.fresh (Nat.le_refl _)) az.symm (stored (t1 := t1) I e (fun b o hb q => ?_) (Nat.le_refl _) ?_ hn' (relO_put (fs := []) ry fun _ => True.intro))
  · exact (hs.2 b (Nat.ne_of_lt (Heap.lt_size q))).trans ((Heap.get?_update_ne _ _ _ _ hb).trans (Heap.get?_push_of_some _ q))
  · exact (hs.2 a az).trans (Heap.get?_update_self _ ha rfl)

theorem st_old (SF : StoreFacts B bmB "object.__setattr__" "object") (T : EC X.K C) (ov : PySem.W.excOver X.K C bmB = true) (tk : PySem.W.takerIn X.K C f = some none) (I : Inv X pins σ H s) (e : H a = some (exo a C (some dx))) (ed : H dx = some (exd dx fs)) (hl : fs.length ≤ 900) (ry : RelV y u)
    (h : ∀ s', Inv X pins σ (upd H dx (exd dx ((f, y) :: fs))) s' → Q () s') : wpAny (model X.prog X.w) A (setAttr (.ref a) f u) Q E s := by
  obtain ⟨t1, ho⟩ := exo_at I.hok e
  obtain ⟨mA, hns, rel⟩ := exd_at I.hok ed
  have hw := within_of rel
  obtain ⟨hp, g, d, t, os⟩ := s
  obtain ⟨cd, hc, hd'⟩ := PySem.W.any_some T.hd
  obtain ⟨oD, _, _, hoD, _, _⟩ := hns.count hw
  have Lc : PySem.W.Looks (model X.prog X.w) hp (classData C) cd := PySem.W.looks_clsIn I.kIn hc
  refine PySem.W.set_plain I.kIn (od := some oD) ⟨ho, rfl, rfl, hoD⟩ T.sa (PySem.W.osa_openX (s := ⟨hp, g, d, t + 1, os⟩) (od := some oD) SF I.kIn ⟨ho, rfl, rfl, hoD⟩ ov tk fun b => ?_)
  refine wpAny_bind (wpAny_pure (wpAny_bind (wpAny_bind (wpAny_loadPart ho (wpAny_bind (Lc.at ?_))))))
  rw [hd']
  refine wpAny_pure (a := some dx) ?_
  refine PySem.OEX.store_in_old hns hw (by rw [List.length_map]; omega) fun h' tk' hn' hs => ?_
  have there : ∃ o, h'.get? dx = some o := let ⟨o, _, _, q, _⟩ := hn'; ⟨o, q⟩
  exact h _ (I.write (t' := tk') (x := dx) (e := dx) (o := exd dx ((f, y) :: fs)) (by rw [ed]; exact True.intro) (.inl rfl) (fun b o hb q => (hs.2 b hb).trans q) there (exd_ok hn' (relO_put ry rel)))
end
/-- o.f = e, o an exception of the class at C -/
def tSt (C : Addr) (f : Str) (to te : TE) : TS := fun D σ H => te σ H fun y H1 => to σ H1 fun x H2 => ∃ a : Addr, x = .ref a ∧
  ((H2 a = some (exo a C none) ∧ ∀ dx, H2 dx = none → dx ≠ a → D.nx σ (upd (upd H2 dx (exd dx [(f, y)])) a (exo a C (some dx)))) ∨
    ∃ (dx : Addr) (fs : List (Str × V)), H2 a = some (exo a C (some dx)) ∧ H2 dx = some (exd dx fs) ∧ fs.length ≤ 900 ∧ D.nx σ (upd H2 dx (exd dx ((f, y) :: fs))))
theorem ps_st {B : String} {bmB : List Value} {f : Str} {o e : Expr} {to te : TE} {p' pos : Pos} (SF : StoreFacts B bmB "object.__setattr__" "object") (T : EC X.K C) (ov : PySem.W.excOver X.K C bmB = true) (tk : PySem.W.takerIn X.K C f = some none)
    (ho : PE X o to) (he : PE X e te) (hs : swapsWith e (some (.Attribute o f p')) pos.line X.env = pure false := by rfl) : PS X (.Assign [.Attribute o f p'] e pos) (tSt C f to te) := by
  refine ⟨fun pins s σ H D I h => plainObj_wpAny_Assign_Attribute (thn (he.run pins s σ H _ I h) fun v s1 ⟨y, H1, I1, r1, q1⟩ => thn (ho.run pins s1 σ H1 _ I1 q1) fun u s2 ⟨x, H2, I2, r2, a, ex, q⟩ => ?_) hs⟩
  subst ex
  obtain rfl : u = Value.ref a := r2
  rcases q with ⟨ea, q⟩ | ⟨dx, fs, ea, ed, hl, q⟩
  · exact st_new SF T ov tk I2 ea r1 fun dx s' n ne J => ⟨σ, _, J, q dx n ne⟩
  · exact st_old SF T ov tk I2 ea ed hl r1 fun s' J => ⟨σ, _, J, q⟩
/-- e.n, e an exception with its field n -/
def tXa (K : PySem.W.Frag) (n : Str) (te : TE) : TE := fun σ H Q => te σ H fun x H1 => ∃ (a C : Addr) (fs : List (Str × V)) (v : V), x = .ref a ∧ IsX H1 a C fs ∧ EC K C ∧ PySem.W.findIn K (.ref C) n = some none ∧ fs.lookup n = some v ∧ Q v H1
theorem pe_xa {e : Expr} {te : TE} {pos : Pos} {n : Str} (he : PE X e te) (hb : attributeBase e n X.env (eval e X.env) = eval e X.env := by rfl) : PE X (.Attribute e n pos) (tXa X.K n te) := by
  refine ⟨fun pins s σ H Q I h => attr_of hb (thn (he.run pins s σ H _ I h) fun u s1 ⟨x, H1, I1, rx, a, C, fs, v, ex, hx, T, hno, l, q⟩ => ?_)⟩
  subst ex
  obtain rfl : u = Value.ref a := rx
  rcases hx with ⟨_, rfl⟩ | ⟨dx, ea, ed⟩
  · cases l
  · obtain ⟨t1, ho⟩ := exo_at I1.hok ea
    obtain ⟨mA, hns, hr⟩ := exd_at I1.hok ed
    obtain ⟨od, hod, hl⟩ := lookIn_ns hns
    obtain ⟨w1, hw, rw1⟩ := RelO.some_of (v := v) (o := mA n) (by rw [← l]; exact hr n)
    have J : PySem.W.InstAt s1.heap a _ C (some od) := ⟨ho, rfl, rfl, hod⟩
    exact HandSPX.exc_get I1.kIn J T.ga T.gg T.be (PySem.W.findObj_own T.hd hno rfl (by rw [hl, hw])) (handed_of rw1) ⟨v, H1, I1.tok _, rw1, q⟩
/-- repr of data (lists, tuples of any depth) where nothing is being shown -/
def rRepr (K : PySem.W.Frag) : List V → Hp → VK → Prop := fun xs H Q => ∃ (x : V) (d : PyData), xs = [x] ∧ Dp K H x d ∧ (∃ a, x = .ref a) ∧ d.showable = true ∧ d.hasDict = false ∧ d.depth ≤ 8 ∧ d.shown.length ≤ sizeLine ∧ Q (.str d.shown) H
theorem call_repr (hg : X.A.guards = some []) (hu : X.A.units + 9 < cLine) : CallR X (.builtin "repr") (rRepr X.K) := by
  intro pins s σ H xs us Q I r ⟨x, d, e, hd, ⟨a, ea⟩, h1, h2, h3, h4, q⟩
  subst e
  subst ea
  obtain ⟨u1, rfl, r1⟩ := vals1 r
  obtain ⟨as, rd⟩ := Dp.reads I d (.ref a) u1 hd r1
  obtain rfl : u1 = Value.ref a := r1
  exact repr_of_reads' rd h1 (fun z => absurd (h2.symm.trans z) (by simp)) hg (by omega) (fun _ _ z => z) (fun h' u tk hk => ⟨.str d.shown, H, I.kept (t' := tk) hk, ⟨u, rfl⟩, q⟩) h4
end
end Xv

namespace K00
open PySem PySem.Spec PyProof.Rows L2
abbrev sSrc : Stmt := top 38
abbrev sPick : Stmt := top 39
abbrev FnP (K : PySem.W.Frag) (x : Str) (st : Stmt) (f : Addr) (fd : FuncData) : Prop := FunD K x x (defArgs st) (defBody st) (defScope st) [] [] f fd
/-- the source's pairs -/
def skv (c : Addr) (l m t : Int) : List (Key × V) := [(.inr "cells", .ref c), (.inr "left", .int l), (.inr "mixed", .int m), (.inr "turn", .int t)]
theorem skv_cells (c : Addr) (l m t : Int) : valV (skv c l m t) (.inr "cells") = some (.ref c) := by rfl
theorem skv_left (c : Addr) (l m t : Int) : valV (skv c l m t) (.inr "left") = some (.int l) := by rfl
theorem skv_mixed (c : Addr) (l m t : Int) : valV (skv c l m t) (.inr "mixed") = some (.int m) := by rfl
theorem skv_turn (c : Addr) (l m t : Int) : valV (skv c l m t) (.inr "turn") = some (.int t) := by rfl
theorem put_left (c : Addr) (l m t y : Int) : putK (skv c l m t) (.inr "left") (.int y) = skv c y m t := by rfl
theorem put_turn (c : Addr) (l m t y : Int) : putK (skv c l m t) (.inr "turn") (.int y) = skv c l m y := by rfl
theorem skv_merge (c : Addr) (l m t : Int) : mergeK [] (skv c l m t) = skv c l m t := by rfl

theorem dg_cells {H : Hp} {d c : Addr} {l m t : Int} (h : H d = some (.dK (skv c l m t))) : DGet H d (.str "cells") (some (.ref c)) := by
  have z : DGet H d (kV (.inr "cells")) (valV (skv c l m t) (.inr "cells")) := DGet.k h
  rw [skv_cells] at z
  exact z
theorem dg_left {H : Hp} {d c : Addr} {l m t : Int} (h : H d = some (.dK (skv c l m t))) : DGet H d (.str "left") (some (.int l)) := by
  have z : DGet H d (kV (.inr "left")) (valV (skv c l m t) (.inr "left")) := DGet.k h
  rw [skv_left] at z
  exact z
theorem dg_mixed {H : Hp} {d c : Addr} {l m t : Int} (h : H d = some (.dK (skv c l m t))) : DGet H d (.str "mixed") (some (.int m)) := by
  have z : DGet H d (kV (.inr "mixed")) (valV (skv c l m t) (.inr "mixed")) := DGet.k h
  rw [skv_mixed] at z
  exact z
theorem dg_turn {H : Hp} {d c : Addr} {l m t : Int} (h : H d = some (.dK (skv c l m t))) : DGet H d (.str "turn") (some (.int t)) := by
  have z : DGet H d (kV (.inr "turn")) (valV (skv c l m t) (.inr "turn")) := DGet.k h
  rw [skv_turn] at z
  exact z
theorem dp_left {H : Hp} {d c : Addr} {l m t y : Int} (h : H d = some (.dK (skv c l m t))) : DPut H d (.str "left") (.int y) (upd H d (.dK (skv c y m t))) := by
  have z : DPut H d (kV (.inr "left")) (.int y) (upd H d (.dK (putK (skv c l m t) (.inr "left") (.int y)))) := DPut.k h (by show 4 < sizeLine; decide)
  rw [put_left] at z
  exact z
theorem dp_turn {H : Hp} {d c : Addr} {l m t y : Int} (h : H d = some (.dK (skv c l m t))) : DPut H d (.str "turn") (.int y) (upd H d (.dK (skv c l m y))) := by
  have z : DPut H d (kV (.inr "turn")) (.int y) (upd H d (.dK (putK (skv c l m t) (.inr "turn") (.int y)))) := DPut.k h (by show 4 < sizeLine; decide)
  rw [put_turn] at z
  exact z
theorem scS : FnScope ["_law_script", "_law_mixed", "_law_cell", "_law_cells", "_law_k"] ["_law_script"] (defScope sSrc) := ⟨rfl, rfl, rfl, by decide +kernel, rfl, by decide +kernel, by decide +kernel⟩
theorem scP : FnScope ["_law_source_here", "_law_many", "_law_cells", "_law_left", "_law_turn", "_law_mixed"] ["_law_source_here", "_law_many"] (defScope sPick) := ⟨rfl, rfl, rfl, by decide +kernel, rfl, by decide +kernel, by decide +kernel⟩
/-- the source at d, its cells at c -/
def SrcAt (H : Hp) (d c : Addr) : Prop := ∃ (xs : List Int) (l m t : Int), H c = some (.lst (xs.map V.int)) ∧ xs.length ≤ 63 ∧ H d = some (.dK (skv c l m t))
def spSrc (K : PySem.W.Frag) : Sp := fun vs H Q _ => ∃ (a : Addr) (ns : List Int), vs = [.ref a] ∧ SqL K H a (ns.map V.int) ∧ ns.length ≤ 63 ∧
  ∀ (d c : Addr) (H' : Hp), Same H H' → H d = none → H c = none → SrcAt H' d c → Q (.ref d) H'
def spPick : Sp := fun vs H Q _ => ∃ (d c : Addr) (n : Int), vs = [.ref d, .int n] ∧ SrcAt H d c ∧ 1 ≤ n ∧ n ≤ 1000 ∧
  ∀ (r : Int) (H' : Hp), 0 ≤ r → r < n → SrcAt H' d c → (∀ b, b ≠ d → b ≠ c → H' b = H b) → Q (.int r) H'
/-- the built-in names that the text reads -/
structure Bl (mg : Str → Option Value) : Prop where
  len : mg "len" = none
  int : mg "int" = none
  abs : mg "abs" = none
  range : mg "range" = none
  isi : mg "isinstance" = none
  tup : mg "tuple" = none
  rep : mg "repr" = none
section
variable {P : Program} {w : World} {K : PySem.W.Frag} {mg : Str → Option Value} {base : Heap}
theorem nosl {i : Expr} (h : ∀ ov iv, subscripted i false ov iv = operate [ov, iv] (getItem ov iv) := by intro _ _; rfl) : NoSl i := h
theorem okD {x qual : Str} {params : Arguments} {body : List Stmt} {scope : Scope} {dvs : List V} {kws : List (Str × V)} {f : Addr} {fd : FuncData} {N ps : List Str} {k : Nat} {sp : Sp} (F : FunD K x qual params body scope dvs kws f fd) (S : FnScope N ps scope) (len : ∀ vs H Q E, sp vs H Q E → vs.length = ps.length)
    (hb : ∀ (cdv : Value) (A : Around) (outer : List Env) (s : Shared) (H : Hp) (vs : List V) (Q : VK) (E : XK), Room k (A.deeper (envOfC qual scope s.heap.objs.size f cdv)) → sp vs H Q E →
      ∃ t, PSs (cxOf CX0 P w K mg base N qual scope f cdv A outer s H E).nox body t ∧ t { nx := fun _ H' => Q .non H', rt := Q } (start N vs) H) : FnOk P w K mg base CX0 (k + 1) f fd ps sp :=
  F.ok S len fun cdv A outer s H vs Q E hr h => let ⟨t, h1, h2⟩ := hb cdv A outer s H vs Q E hr h; ⟨t, h1.nox, h2⟩
theorem ok_pick {f : Addr} {fd : FuncData} (F : FnP K "_law_pick" sPick f fd) (B : Bl mg) : FnOk P w K mg base CX0 1 f fd ["_law_source_here", "_law_many"] spPick := by
  refine okD F scP (fun vs H Q E h => ?_) (fun cdv A outer s H vs Q E hr h => ?_)
  · obtain ⟨d, c, n, rfl, _⟩ := h
    rfl
  · have hu := hu_of hr
    have nd := scP.nd
    have TL : ∃ tl, PSs (cxOf CX0 P w K mg base ["_law_source_here", "_law_many", "_law_cells", "_law_left", "_law_turn", "_law_mixed"] "_law_pick" (defScope sPick) f cdv A outer s H E).nox ((defBody sPick).drop 3) tl ∧
        (∀ (Q : VK) (d c : Addr) (n l' m t : Int) (H' : Hp), 1 ≤ n → n ≤ 1000 → H' d = some (.dK (skv c l' m t)) →
          (∀ (r y t' : Int), 0 ≤ r → r < n → Q (.int r) (upd H' d (.dK (skv c y m t')))) → tl { nx := fun _ H' => Q .non H', rt := Q } [some (.ref d), some (.int n), some (.ref c), none, none, none] H') := by
      refine ⟨_, pss_cons (ps_set (i := 3) nd rfl (Or.inl rfl) (pe_dget hu (pv 0) pe_str nosl))
      (pss_cons (ps_if (pt_cmpR op_gt (pv 3) pe_int (nomark _))
        (pss_cons (ps_dput hu (pv 0) pe_str (pe_op op_fdiv (pv 3) (pv 1)) rfl)
          (pss_one (ps_ret (pe_op op_mod (pe_callTy call_int1 (by rfl) B.int boot_int (pa_cons (pv 3) pa_nil)) (pv 1))))) pss_nil)
      (pss_cons (ps_dput hu (pv 0) pe_str (pe_op op_add (pe_dget hu (pv 0) pe_str nosl) pe_int) rfl)
      (pss_cons (ps_set (i := 4) nd rfl (Or.inl rfl) (pe_dget hu (pv 0) pe_str nosl))
      (pss_cons (ps_set (i := 5) nd rfl (Or.inl rfl) (pe_op op_mod (pe_callTy call_int1 (by rfl) B.int boot_int (pa_cons (pe_op op_add (pe_dget hu (pv 0) pe_str nosl) (pe_op op_mul (pv 4) pe_int)) pa_nil)) pe_int))
      (pss_cons (ps_set (i := 5) nd rfl (Or.inl rfl) (pe_op op_mod (pe_callTy call_int1 (by rfl) B.int boot_int (pa_cons (pe_op op_add (pe_op op_mul (pv 5) (pv 5)) (pe_op op_mul (pv 4) pe_int)) pa_nil)) pe_int))
      (pss_one (ps_ret (pe_op op_mod (pe_callTy call_int1 (by rfl) B.int boot_int (pa_cons (pe_op op_fdiv (pv 5) pe_int) pa_nil)) (pv 1))))))))), ?_⟩
      intro Q d c n l' m t H' h1 h2 hd' k
      refine ⟨_, rfl, d, .int l', rfl, dg_left hd', ?_⟩
      refine ⟨_, rfl, _, _, rfl, rfl, _, rfl, ite2 (fun c2 => ?_) (fun _ => ?_)⟩
      · refine ⟨_, rfl, _, rfl, _, _, rfl, rfl, ⟨by omega, by omega⟩, _, rfl, d, _, rfl, dp_left hd', ?_⟩
        exact ⟨_, rfl, .inl ⟨_, rfl, _, rfl, _, _, rfl, rfl, (by omega), k _ _ _ (Int.emod_nonneg _ (by omega)) (Int.emod_lt_of_pos _ (by omega))⟩⟩
      · refine ⟨_, rfl, d, .int t, rfl, dg_turn hd', _, _, rfl, rfl, _, rfl, d, _, rfl, dp_turn hd', ?_⟩
        refine ⟨_, rfl, d, .int (t + 1), rfl, dg_turn upd_same, ?_⟩
        refine ⟨_, rfl, d, .int m, rfl, dg_mixed upd_same, _, rfl, _, _, rfl, rfl, .inr ⟨by decide, by decide⟩, _, _, rfl, rfl, .inl ⟨_, rfl, _, _, rfl, rfl, (show (0 : Int) < 998244353 by decide), ?_⟩⟩
        have b1 := Int.emod_nonneg (m + (t + 1) * 104729) (show (998244353 : Int) ≠ 0 by decide)
        have b2 := Int.emod_lt_of_pos (m + (t + 1) * 104729) (show (0 : Int) < 998244353 by decide)
        refine ⟨_, rfl, _, rfl, _, _, rfl, rfl, .inl ⟨by omega, by omega⟩, _, rfl, _, _, rfl, rfl, .inr ⟨by decide, by decide⟩, _, _, rfl, rfl, .inl ⟨_, rfl, _, _, rfl, rfl, (show (0 : Int) < 2147483647 by decide), ?_⟩⟩
        refine ⟨_, rfl, _, _, rfl, rfl, ⟨by decide, by decide⟩, .inl ⟨_, rfl, _, rfl, _, _, rfl, rfl, (by omega), ?_⟩⟩
        exact k _ _ _ (Int.emod_nonneg _ (by omega)) (Int.emod_lt_of_pos _ (by omega))
    obtain ⟨tl, htl, rtl⟩ := TL
    refine ⟨_, pss_cons (ps_if (pt_cmpR op_lt (pv 1) pe_int (nomark _)) (pss_one (ps_ret pe_int)) pss_nil)
      (pss_cons (ps_set (i := 2) nd rfl (Or.inl rfl) (pe_dget hu (pv 0) pe_str nosl))
      (pss_cons (ps_while PassesOwn.never (pw_and (pt_cmpR op_lt (pe_dget hu (pv 0) pe_str nosl) pe_int (nomark _)) (pw_and1 (pt_cmpR op_gt (pe_callB call_len_seq (by rfl) B.len PySem.boot_len (pa_cons (pv 2) pa_nil)) pe_int (nomark _)))).pt
        (pss_one (ps_dput hu (pv 0) pe_str (pe_bm0 PySem.F.plainAttrs_list PySem.F.slot_list_pop PySem.F.type_list_pop mt_pop (pv 2)) rfl))) htl)), ?_⟩
    obtain ⟨d, c, n, rfl, ⟨xs, l, m, t, hc, hx, hd⟩, h1, h2, k⟩ := h
    have ncd : c ≠ d := ne_of hc hd (by intro z; cases z)
    have tail : ∀ (ys : List Int) (l' : Int) (H' : Hp), H' c = some (.lst (ys.map V.int)) → ys.length ≤ 63 → H' d = some (.dK (skv c l' m t)) → (∀ b, b ≠ d → b ≠ c → H' b = H b) →
        tl { nx := fun _ H' => Q .non H', rt := Q } [some (.ref d), some (.int n), some (.ref c), none, none, none] H' := fun ys l' H' hc' hy hd' keep =>
      rtl Q d c n l' m t H' h1 h2 hd' fun r y t' r0 r1 => k r _ r0 r1 ⟨ys, _, m, _, (by rw [upd_ne ncd]; exact hc'), hy, upd_same⟩ (fun b hb hb2 => by rw [upd_ne hb]; exact keep b hb hb2)
    refine ⟨_, rfl, _, _, rfl, rfl, _, rfl, ite2 (fun _ => k 0 H (Int.le_refl 0) (by omega) ⟨xs, l, m, t, hc, hx, hd⟩ fun _ _ _ => rfl) (fun _ => ?_)⟩
    refine ⟨_, rfl, d, .ref c, rfl, dg_cells hd, ?_⟩
    refine while_by (fun σ H' => ∃ (ys : List Int) (l' : Int), σ = [some (.ref d), some (.int n), some (.ref c), none, none, none] ∧ H' c = some (.lst (ys.map V.int)) ∧ ys.length ≤ 63 ∧ H' d = some (.dK (skv c l' m t)) ∧ ∀ b, b ≠ d → b ≠ c → H' b = H b)
      (fun _ H' => match H' c with | some (.lst zs) => zs.length | _ => 0) ⟨xs, l, rfl, hc, hx, hd, fun _ _ _ => rfl⟩ ?_ ?_
    · rintro σ H' ⟨ys, l', rfl, hc', hy, hd', keep⟩
      refine ⟨_, rfl, d, .int l', rfl, dg_left hd', _, _, rfl, rfl, _, rfl, ite2 (fun _ => ⟨_, rfl, c, ys.map V.int, rfl, .inl (SqL.of hc'), _, _, rfl, rfl, _, rfl, ?w1⟩) (fun _ => iteF ?w2)⟩
      case w1 =>
        refine ite2 (fun c1 => ?_) (fun _ => ?w3)
        · have hl : 0 < ys.length := by
            have e := of_decide_eq_true c1
            rw [List.length_map] at e
            omega
          obtain ⟨y, ey⟩ : ∃ y, ys[ys.length - 1]? = some y := ⟨ys[ys.length - 1], by rw [List.getElem?_eq_getElem (by omega)]⟩
          refine ⟨_, rfl, .inl ⟨rfl, _, SqL.of hc'⟩, c, ys.map V.int, .int y, rfl, rfl, hc', (by rw [List.length_map, List.getElem?_map, ey]; rfl), ?_⟩
          have hd2 : upd H' c (.lst (ys.map V.int).dropLast) d = some (.dK (skv c l' m t)) := by rw [upd_ne ncd.symm]; exact hd'
          refine ⟨_, rfl, d, _, rfl, dp_left hd2, ⟨ys.dropLast, y, rfl, ?_, ?_, upd_same, ?_⟩, ?_⟩
          · rw [upd_ne ncd, upd_same, List.map_dropLast]
          · rw [List.length_dropLast]; omega
          · intro b hb hb2
            rw [upd_ne hb, upd_ne hb2]
            exact keep b hb hb2
          · show (match upd (upd H' c (.lst (ys.map V.int).dropLast)) d _ c with | some (.lst zs) => zs.length | _ => 0) < (match H' c with | some (.lst zs) => zs.length | _ => 0)
            rw [upd_ne ncd, upd_same, hc']
            show (ys.map V.int).dropLast.length < (ys.map V.int).length
            rw [List.length_dropLast, List.length_map]
            omega
        case w3 => exact tail ys l' H' hc' hy hd' keep
      case w2 => exact tail ys l' H' hc' hy hd' keep
    · rintro σ H' Q1 Q2 hq ⟨v, e1, a, u, e2, g, i, j, e3, e4, z⟩
      obtain ⟨b, e5, z⟩ := z
      refine ⟨v, e1, a, u, e2, g, i, j, e3, e4, b, e5, ?_⟩
      cases b with
      | false => exact hq _ _ z
      | true =>
        obtain ⟨v, e1, p, ys, e2, hs, i, j, e3, e4, b, e5, z⟩ := z
        exact ⟨v, e1, p, ys, e2, hs, i, j, e3, e4, b, e5, hq _ _ z⟩

/-- len of a list or a tuple, whatever the block -/
def rLn (K : PySem.W.Frag) : List V → Hp → VK → Prop := fun us G R => ∃ (q : Addr) (zs : List V), us = [.ref q] ∧ (SqL K G q zs ∨ SqT K G q zs) ∧ R (.int zs.length) G
abbrev NSrc : List Str := ["_law_script", "_law_mixed", "_law_cell", "_law_cells", "_law_k"]
/-- the cells, none below nought -/
def ab (ns : List Int) : List Int := ns.map fun i => if i < 0 then -i else i
theorem sq_keep {H H' : Hp} {D a : Addr} {xs : List V} (hD : H D = none) (q : ∀ b, b ≠ D → H' b = H b) (h : SqL K H a xs) : SqL K H' a xs :=
  Same.seq (fun b o e => (q b (ne_of_none e hD)).trans e) h
theorem map_abs (ns : List Int) : (ns.map fun i => V.int (if i < 0 then -i else i)) = (ns.map fun i => if i < 0 then -i else i).map V.int := by rw [List.map_map]; rfl
theorem int_at {ns : List Int} {i : Nat} {y : V} (hi : (ns.map V.int)[i]? = some y) : ∃ z, ns[i]? = some z ∧ y = V.int z := by
  rw [List.getElem?_map] at hi
  cases e : ns[i]? with
  | none => rw [e] at hi; cases hi
  | some z => rw [e] at hi; exact ⟨z, rfl, (Option.some.inj hi).symm⟩
theorem ok_src {f : Addr} {fd : FuncData} (F : FnP K "_law_source" sSrc f fd) (B : Bl mg) : FnOk P w K mg base CX0 1 f fd ["_law_script"] (spSrc K) := by
  refine okD F scS (fun vs H Q E h => ?_) (fun cdv A outer s H vs Q E hr h => ?_)
  · obtain ⟨a, ns, rfl, _⟩ := h
    rfl
  · have hu := hu_of hr
    have nd := scS.nd
    refine ⟨_, pss_cons (ps_set (i := 1) nd rfl (Or.inl rfl) pe_int)
      (pss_cons (ps_for PassesOwn.never rfl (pi_list (pv 0)) (pg_name (i := 2) nd rfl (Or.inl rfl))
        (pss_one (ps_set (i := 1) nd rfl (Or.inl rfl) (pe_op op_mod (pe_callTy call_int1 (by rfl) B.int boot_int (pa_cons (pe_op op_add (pe_op op_add (pe_op op_mul (pv 1) pe_int) (pe_op op_mul (pv 2) pe_int)) pe_int) pa_nil)) pe_int))))
      (pss_cons (ps_set (i := 3) nd rfl (Or.inr rfl) (pe_lc (own := [("_law_cell", 2)]) (g := gName 2) (tt := tYes) rfl nd (pi_list (pv 0)) (blkOk_by (N := NSrc) (sc := defScope sSrc) (by decide +kernel)) (fun _ _ _ _ _ => pg_name (i := 2) nd rfl (Or.inl rfl)) (fun _ _ _ _ _ => pts_nil)
        (fun _ _ _ _ _ => pe_callB call_abs (by rfl) B.abs (by decide +kernel) (pa_cons (pv 2) pa_nil))))
      (pss_one (ps_ret (pe_disp (pps_cons pe_str (pe_lc (own := [("_law_k", 4)]) (g := gName 4) (tt := tYes) rfl nd (pi_range1 (by rfl) B.range (pa_cons (pe_callB call_len_seq (by rfl) B.len PySem.boot_len (pa_cons (pv 3) pa_nil)) pa_nil)) (blkOk_by (N := NSrc) (sc := defScope sSrc) (by decide +kernel)) (fun _ _ _ _ _ => pg_name (i := 4) nd rfl (Or.inl rfl)) (fun _ _ _ _ _ => pts_nil)
          (fun _ _ _ _ _ => pe_ix (r := rIxL K) ix_list (pv 3) (pe_op op_sub (pe_op op_sub (pe_callB (r := rLn K) call_len_seq (by rfl) B.len PySem.boot_len (pa_cons (pv 3) pa_nil)) pe_int) (pv 4)) (fun _ _ => rfl)))
        (pps_cons pe_str pe_int (pps_cons pe_str (pv 1) (pps_cons pe_str pe_int pps_nil)))) rfl rfl (by simp) (by decide)))))), ?_⟩
    obtain ⟨a, ns, rfl, hS, hl, k⟩ := h
    refine ⟨_, rfl, a, rfl, ⟨_, hS⟩, for_list (K := K) (a := a) (xs := ns.map V.int) (fun i σ H2 => ∃ (z : Int) (v : Option V), σ = [some (.ref a), some (.int z), v, none, none] ∧ 0 ≤ z ∧ z < 2147483629 ∧ H2 = H)
      ⟨11, none, rfl, by decide, by decide, rfl⟩ (fun i σ H2 _ ⟨_, _, _, _, _, e⟩ => by rw [e]; exact hS) ?_ ?_⟩
    · rintro i y σ H2 hi ⟨z, v, rfl, z0, z1, rfl⟩
      obtain ⟨x, _, rfl⟩ := int_at hi
      refine ⟨_, rfl, _, _, rfl, rfl, .inr ⟨by decide, by decide⟩, _, rfl, _, _, rfl, rfl, .inr ⟨by decide, by decide⟩, _, _, rfl, rfl, _, _, rfl, rfl, .inl ⟨_, rfl, _, _, rfl, rfl, (show (0 : Int) < 2147483629 by decide), ?_⟩⟩
      exact ⟨_, _, rfl, Int.emod_nonneg _ (by decide), Int.emod_lt_of_pos _ (by decide), rfl⟩
    · rintro σ H2 ⟨z, v, rfl, z0, z1, rfl⟩
      refine ⟨_, rfl, a, rfl, ⟨_, hS⟩, fun D hD => ?_⟩
      refine lc_list (xs := ns.map V.int) (fun i H' => H' D = some (.lst ((ab (ns.take i)).map V.int)) ∧ ∀ b, b ≠ D → H' b = H2 b) ⟨upd_same, fun b hb => upd_ne hb⟩ (fun i H' _ ⟨e, q⟩ => sq_keep hD q hS) ?_ ?_
      · rintro i y H' hi ⟨e, q⟩
        obtain ⟨x, hx, rfl⟩ := int_at hi
        refine ⟨rfl, _, rfl, _, rfl, _, e, ?_, ?_, fun b hb => ?_⟩
        · unfold ab
          rw [List.length_map, List.length_map, List.length_take]
          exact small1000 (by omega)
        · rw [upd_same]
          unfold ab
          rw [List.take_add_one, hx]
          simp
        · rw [upd_ne hb]; exact q b hb
      · rintro H' ⟨e, q⟩
        rw [List.length_map, List.take_length] at e
        intro p hp
        have npD : p ≠ D := (ne_of_none e hp).symm
        have la : (ab ns).length = ns.length := by unfold ab; rw [List.length_map]
        have lm : ((ab ns).map V.int).length = ns.length := by rw [List.length_map, la]
        have eD : upd H' p (.dK []) D = some (.lst ((ab ns).map V.int)) := by rw [upd_ne npD.symm]; exact e
        refine ⟨_, rfl, D, _, rfl, .inl (SqL.of eD), _, rfl, (by rw [lm]; omega), (by rw [lm]; omega), fun C hC => ?_⟩
        rw [lm]
        have nCp : C ≠ p := (ne_of_none upd_same hC).symm
        have nCD : C ≠ D := (ne_of_none eD hC).symm
        refine lc_range (lo := 0) (n := ns.length) (fun i H3 => (∃ ys : List Int, H3 C = some (.lst (ys.map V.int)) ∧ ys.length = i) ∧ ∀ b, b ≠ C → H3 b = upd H' p (.dK []) b) ⟨⟨[], upd_same, rfl⟩, fun b hb => upd_ne hb⟩ ?_ ?_
        · rintro i H3 hi ⟨⟨ys, e3, ly⟩, q3⟩
          obtain ⟨y, ey⟩ : ∃ y, (ab ns)[ns.length - 1 - i]? = some y := ⟨(ab ns)[ns.length - 1 - i], by rw [List.getElem?_eq_getElem (by omega)]⟩
          have e3D : H3 D = some (.lst ((ab ns).map V.int)) := by rw [q3 D nCD.symm]; exact eD
          refine ⟨rfl, _, rfl, _, rfl, D, _, rfl, .inl (SqL.of e3D), _, _, rfl, rfl, _, rfl, _, _, rfl, rfl, D, _, _, .int y, rfl, rfl, SqL.of e3D, ?_, _, e3, ?_, ⟨ys ++ [y], ?_, ?_⟩, fun b hb => ?_⟩
          · exact at_of (j := ns.length - 1 - i) (by rw [lm]; omega) (by rw [List.getElem?_map, ey]; rfl)
          · rw [List.length_map]; exact small1000 (by omega)
          · rw [upd_same]; simp
          · rw [List.length_append, ly]; rfl
          · rw [upd_ne hb]; exact q3 b hb
        · rintro H3 ⟨⟨ys, e3, ly⟩, q3⟩
          refine ⟨_, rfl, ?_⟩
          refine ⟨by rw [q3 p nCp.symm, upd_same], skv C 1 z 0, rfl, (show 4 ≤ 15 by decide), ?_⟩
          rw [skv_merge]
          refine k p C _ (fun b o eb => ?_) ?_ ?_ ⟨ys, 1, z, 0, ?_, by omega, upd_same⟩
          · have hb : b ≠ D := ne_of_none eb hD
            have eb2 : H' b = some o := (q b hb).trans eb
            have hbp : b ≠ p := ne_of_none eb2 hp
            have hbC : b ≠ C := ne_of_none (show upd H' p (.dK []) b = some o by rw [upd_ne hbp]; exact eb2) hC
            rw [upd_ne hbp, q3 b hbC, upd_ne hbp]
            exact eb2
          · rw [← q p npD]; exact hp
          · rw [← q C nCD]
            rw [upd_ne nCp] at hC
            exact hC
          · rw [upd_ne nCp]; exact e3
end
end K00

namespace K00
open PySem PySem.Spec PyProof.Rows L2 Xv
/-! ### the classes' __init__ -/
/-- all but the object at a is as it was -/
def Same1 (H H' : Hp) (a : Addr) : Prop := ∀ b o, H b = some o → b ≠ a → H' b = some o
/-- a list or a tuple of these -/
def SeqV (K : PySem.W.Frag) (H : Hp) (x : V) (xs : List V) : Prop := xs.length ≤ sizeLine ∧ ∃ b, x = .ref b ∧ (SqL K H b xs ∨ SqT K H b xs)
def TupV (K : PySem.W.Frag) (H : Hp) (x : V) (xs : List V) : Prop := ∃ b, x = .ref b ∧ SqT K H b xs
def sI1 (C : Addr) (f : Str) : Sp := fun vs H Q _ => ∃ (a : Addr) (x : V), vs = [.ref a, x] ∧ H a = some (exo a C none) ∧ ∀ H', Same1 H H' a → IsX H' a C [(f, x)] → Q .non H'
def sT1 (K : PySem.W.Frag) (C : Addr) (f : Str) : Sp := fun vs H Q _ => ∃ (a : Addr) (x : V) (xs : List V), vs = [.ref a, x] ∧ H a = some (exo a C none) ∧ SeqV K H x xs ∧ ∀ H' w, Same1 H H' a → TupV K H' w xs → IsX H' a C [(f, w)] → Q .non H'
def sIT (K : PySem.W.Frag) (C : Addr) (f g : Str) : Sp := fun vs H Q _ => ∃ (a : Addr) (x y : V) (ys : List V), vs = [.ref a, x, y] ∧ H a = some (exo a C none) ∧ SeqV K H y ys ∧ ∀ H' w, Same1 H H' a → TupV K H' w ys → IsX H' a C [(g, w), (f, x)] → Q .non H'
def sI3 (C : Addr) (f g h : Str) : Sp := fun vs H Q _ => ∃ (a : Addr) (x y z : V), vs = [.ref a, x, y, z] ∧ H a = some (exo a C none) ∧ ∀ H', Same1 H H' a → IsX H' a C [(h, z), (g, y), (f, x)] → Q .non H'
theorem exo_ne_lst {e C : Addr} {d : Option Addr} {xs : List V} : exo e C d ≠ .lst xs := fun z => by
  have z' : HO.ext _ = HO.lst xs := z
  cases z'
theorem isx_new {H : Hp} {a C dx : Addr} {f : Str} {y : V} : IsX (upd (upd H dx (exd dx [(f, y)])) a (exo a C (some dx))) a C [(f, y)] ∨ a = dx := by
  by_cases h : a = dx
  · exact .inr h
  · exact .inl (.inr ⟨dx, upd_same, (upd_ne (Ne.symm h)).trans upd_same⟩)
theorem same1_new {H : Hp} {a dx : Addr} {o u : HO} (h : H dx = none) : Same1 H (upd (upd H dx o) a u) a := fun b v e hb => (upd_ne hb).trans ((upd_ne (ne_of_none e h)).trans e)
section
variable {P : Program} {w : World} {K : PySem.W.Frag} {mg : Str → Option Value} {base : Heap} {C f : Addr} {fd : FuncData} {B : String} {bmB : List Value}
theorem ok_i1 {q n : Str} {st : Stmt} {m : Str} {p1 p2 p3 p4 : Pos} (F : FunD K "__init__" q (defArgs st) (defBody st) (defScope st) [] [] f fd) (S : FnScope ["self", m] ["self", m] (defScope st)) (v1 : (defScope st).names.lookup ("self" : Str) = some .local) (v2 : (defScope st).names.lookup m = some .local)
    (hb : defBody st = [.Assign [.Attribute (.Name "self" p1) n p2] (.Name m p3) p4]) (hs : ∀ e, swapsWith (.Name m p3) (some (.Attribute (.Name "self" p1) n p2)) p4.line e = pure false) (hd : (m == ("__debug__" : Str)) = false) (hc : (m == ("__classdict__" : Str)) = false)
    (SF : StoreFacts B bmB "object.__setattr__" "object") (T : EC K C) (ov : PySem.W.excOver K C bmB = true) (tk : PySem.W.takerIn K C n = some none) : FnOk P w K mg base CX0 1 f fd ["self", m] (sI1 C n) := by
  refine okD F S (fun vs H Q E h => ?_) (fun cdv A outer s H vs Q E hr h => ?_)
  · obtain ⟨a, x, rfl, _⟩ := h
    rfl
  · obtain ⟨a, x, rfl, ha, k⟩ := h
    rw [hb]
    refine ⟨_, pss_one (ps_st (C := C) SF T ov tk (pv 0 (x := "self") (by rfl) (.inl v1)) (pv 1 (x := m) (by rfl) (.inl v2) hd hc) (hs _)), ?_⟩
    refine ⟨_, rfl, _, rfl, a, rfl, .inl ⟨ha, fun dx hdx hne => k _ (same1_new hdx) ?_⟩⟩
    exact .inr ⟨dx, upd_same, (upd_ne hne).trans upd_same⟩

/-- tuple(x): what was tracked stays, a tuple of the same -/
theorem seq_tup {H : Hp} {x : V} {xs : List V} {Q : VK} (h : SeqV K H x xs) (k : ∀ H' w, Same H H' → (∀ b, H' b = none → H b = none) → TupV K H' w xs → Q w H') : kTup K x H Q := by
  obtain ⟨_, b, rfl, h | h⟩ := h
  · exact .inl ⟨b, xs, rfl, h, fun q hq => k _ _ (fun c o e => (upd_ne (ne_of_none e hq)).trans e) (fun c hc => by
      by_cases e : c = q
      · rw [e, upd_same] at hc; cases hc
      · rw [upd_ne e] at hc; exact hc) ⟨q, rfl, SqT.of upd_same⟩⟩
  · exact .inr ⟨b, xs, rfl, h, k _ _ (Same.refl H) (fun _ z => z) ⟨b, rfl, h⟩⟩
theorem tup_same {H H' : Hp} {w : V} {xs : List V} (s : Same H H') (h : TupV K H w xs) : TupV K H' w xs := by
  obtain ⟨b, e, h⟩ := h
  refine ⟨b, e, ?_⟩
  rcases h with (h | ⟨o, h⟩) | h
  · exact .inl (.inl (s _ _ h))
  · exact .inl (.inr ⟨o, s _ _ h⟩)
  · exact .inr h
theorem tup_new {H : Hp} {a dx : Addr} {d : Option Addr} {fs : List (Str × V)} {w : V} {xs : List V} (ha : H a = some (exo a C none)) (hd : H dx = none) (h : TupV K H w xs) : TupV K (upd (upd H dx (exd dx fs)) a (exo a C d)) w xs := by
  obtain ⟨b, e, h⟩ := h
  refine ⟨b, e, ?_⟩
  rcases h with (h | ⟨o, h⟩) | h
  · exact .inl (.inl (same1_new hd b _ h (at_ne ha h exo_tup)))
  · exact .inl (.inr ⟨o, same1_new hd b _ h (at_ne ha h exo_frz)⟩)
  · exact .inr h
theorem ok_t1 {q n : Str} {st : Stmt} {m : Str} {p1 p2 p3 p4 p5 p6 : Pos} (F : FunD K "__init__" q (defArgs st) (defBody st) (defScope st) [] [] f fd) (S : FnScope ["self", m] ["self", m] (defScope st)) (v1 : (defScope st).names.lookup ("self" : Str) = some .local) (v2 : (defScope st).names.lookup m = some .local)
    (v3 : (defScope st).names.lookup ("tuple" : Str) = some .globalImplicit) (hm : mg "tuple" = none)
    (hb : defBody st = [.Assign [.Attribute (.Name "self" p1) n p2] (.Call (.Name "tuple" p5) [.Name m p3] [] p6) p4]) (hs : ∀ e, swapsWith (.Call (.Name "tuple" p5) [.Name m p3] [] p6) (some (.Attribute (.Name "self" p1) n p2)) p4.line e = pure false) (hd : (m == ("__debug__" : Str)) = false) (hc : (m == ("__classdict__" : Str)) = false)
    (SF : StoreFacts B bmB "object.__setattr__" "object") (T : EC K C) (ov : PySem.W.excOver K C bmB = true) (tk : PySem.W.takerIn K C n = some none) : FnOk P w K mg base CX0 1 f fd ["self", m] (sT1 K C n) := by
  refine okD F S (fun vs H Q E h => ?_) (fun cdv A outer s H vs Q E hr h => ?_)
  · obtain ⟨a, x, xs, rfl, _⟩ := h
    rfl
  · obtain ⟨a, x, xs, rfl, ha, hx, k⟩ := h
    rw [hb]
    refine ⟨_, pss_one (ps_st (C := C) SF T ov tk (pv 0 (x := "self") (by rfl) (.inl v1)) (pe_tupleOf v3 hm (pv 1 (x := m) (by rfl) (.inl v2) hd hc)) (hs _)), ?_⟩
    refine ⟨_, rfl, seq_tup hx fun H1 w s1 f1 t1 => ⟨_, rfl, a, rfl, .inl ⟨s1 _ _ ha, fun dx hdx hne => k _ w (fun b o e hb => same1_new hdx b o (s1 b o e) hb) (tup_new (s1 _ _ ha) hdx t1) ?_⟩⟩⟩
    exact .inr ⟨dx, upd_same, (upd_ne hne).trans upd_same⟩
theorem ok_it {q n1 n2 : Str} {st : Stmt} {m1 m2 : Str} {p1 p2 p3 p4 p5 p6 r1 r2 r3 r4 : Pos} (F : FunD K "__init__" q (defArgs st) (defBody st) (defScope st) [] [] f fd) (S : FnScope ["self", m1, m2] ["self", m1, m2] (defScope st)) (v1 : (defScope st).names.lookup ("self" : Str) = some .local) (v2 : (defScope st).names.lookup m1 = some .local) (v2' : (defScope st).names.lookup m2 = some .local)
    (v3 : (defScope st).names.lookup ("tuple" : Str) = some .globalImplicit) (hm : mg "tuple" = none)
    (hb : defBody st = [.Assign [.Attribute (.Name "self" r1) n1 r2] (.Name m1 r3) r4, .Assign [.Attribute (.Name "self" p1) n2 p2] (.Call (.Name "tuple" p5) [.Name m2 p3] [] p6) p4]) (hs1 : ∀ e, swapsWith (.Name m1 r3) (some (.Attribute (.Name "self" r1) n1 r2)) r4.line e = pure false)
    (hs : ∀ e, swapsWith (.Call (.Name "tuple" p5) [.Name m2 p3] [] p6) (some (.Attribute (.Name "self" p1) n2 p2)) p4.line e = pure false) (hd1 : (m1 == ("__debug__" : Str)) = false) (hc1 : (m1 == ("__classdict__" : Str)) = false) (hd : (m2 == ("__debug__" : Str)) = false) (hc : (m2 == ("__classdict__" : Str)) = false)
    (SF : StoreFacts B bmB "object.__setattr__" "object") (T : EC K C) (ov : PySem.W.excOver K C bmB = true) (tk1 : PySem.W.takerIn K C n1 = some none) (tk : PySem.W.takerIn K C n2 = some none) : FnOk P w K mg base CX0 1 f fd ["self", m1, m2] (sIT K C n1 n2) := by
  refine okD F S (fun vs H Q E h => ?_) (fun cdv A outer s H vs Q E hr h => ?_)
  · obtain ⟨a, x, y, ys, rfl, _⟩ := h
    rfl
  · obtain ⟨a, x, y, ys, rfl, ha, hy, k⟩ := h
    rw [hb]
    refine ⟨_, pss_cons (ps_st (C := C) SF T ov tk1 (pv 0 (x := "self") (by rfl) (.inl v1)) (pv 1 (x := m1) (by rfl) (.inl v2) hd1 hc1) (hs1 _)) (pss_one (ps_st (C := C) SF T ov tk (pv 0 (x := "self") (by rfl) (.inl v1)) (pe_tupleOf v3 hm (pv 2 (x := m2) (by rfl) (.inl v2') hd hc)) (hs _))), ?_⟩
    refine ⟨_, rfl, _, rfl, a, rfl, .inl ⟨ha, fun dx hdx hne => ?_⟩⟩
    have sm : Same1 H (upd (upd H dx (exd dx [(n1, x)])) a (exo a C (some dx))) a := same1_new hdx
    have hy2 : SeqV K (upd (upd H dx (exd dx [(n1, x)])) a (exo a C (some dx))) y ys := by
      obtain ⟨z, b, e, h | h⟩ := hy
      · refine ⟨z, b, e, .inl ?_⟩
        rcases h with (h | ⟨o, h⟩) | h
        · exact .inl (.inl (sm b _ h (at_ne ha h exo_ne_lst)))
        · exact .inl (.inr ⟨o, sm b _ h (at_ne ha h exo_frz)⟩)
        · exact .inr h
      · obtain ⟨b', e', h'⟩ := tup_new (d := some dx) (fs := [(n1, x)]) ha hdx ⟨b, e, h⟩
        rw [e] at e'
        cases e'
        exact ⟨z, b, e, .inr h'⟩
    refine ⟨_, rfl, seq_tup hy2 fun H1 w s1 f1 t1 => ⟨_, rfl, a, rfl, .inr ⟨dx, _, s1 _ _ upd_same, s1 _ _ ((upd_ne hne).trans upd_same), by simp, k _ w (fun b o e hb => ?_) ?_ ?_⟩⟩⟩
    · rw [upd_ne (ne_of_none e hdx)]
      exact s1 _ _ (sm b o e hb)
    · obtain ⟨b, e, h⟩ := t1
      refine ⟨b, e, ?_⟩
      have nt : H1 dx = some (exd dx [(n1, x)]) := s1 _ _ ((upd_ne hne).trans upd_same)
      rcases h with (h | ⟨o, h⟩) | h
      · exact .inl (.inl ((upd_ne (at_ne nt h exd_tup)).trans h))
      · exact .inl (.inr ⟨o, (upd_ne (at_ne nt h (fun z => by cases (show HO.ext _ = HO.frz _ _ from z)))).trans h⟩)
      · exact .inr h
    · exact .inr ⟨dx, (upd_ne hne.symm).trans (s1 _ _ upd_same), upd_same⟩
theorem ok_i3 {q n1 n2 n3 : Str} {st : Stmt} {m1 m2 m3 : Str} {p1 p2 p3 p4 q1 q2 q3 q4 r1 r2 r3 r4 : Pos} (F : FunD K "__init__" q (defArgs st) (defBody st) (defScope st) [] [] f fd) (S : FnScope ["self", m1, m2, m3] ["self", m1, m2, m3] (defScope st)) (v1 : (defScope st).names.lookup ("self" : Str) = some .local) (v2 : (defScope st).names.lookup m1 = some .local) (v3 : (defScope st).names.lookup m2 = some .local) (v4 : (defScope st).names.lookup m3 = some .local)
    (hb : defBody st = [.Assign [.Attribute (.Name "self" r1) n1 r2] (.Name m1 r3) r4, .Assign [.Attribute (.Name "self" q1) n2 q2] (.Name m2 q3) q4, .Assign [.Attribute (.Name "self" p1) n3 p2] (.Name m3 p3) p4]) (hs1 : ∀ e, swapsWith (.Name m1 r3) (some (.Attribute (.Name "self" r1) n1 r2)) r4.line e = pure false)
    (hs2 : ∀ e, swapsWith (.Name m2 q3) (some (.Attribute (.Name "self" q1) n2 q2)) q4.line e = pure false) (hs3 : ∀ e, swapsWith (.Name m3 p3) (some (.Attribute (.Name "self" p1) n3 p2)) p4.line e = pure false) (hd1 : (m1 == ("__debug__" : Str)) = false) (hc1 : (m1 == ("__classdict__" : Str)) = false)
    (hd2 : (m2 == ("__debug__" : Str)) = false) (hc2 : (m2 == ("__classdict__" : Str)) = false) (hd3 : (m3 == ("__debug__" : Str)) = false) (hc3 : (m3 == ("__classdict__" : Str)) = false)
    (SF : StoreFacts B bmB "object.__setattr__" "object") (T : EC K C) (ov : PySem.W.excOver K C bmB = true) (tk1 : PySem.W.takerIn K C n1 = some none) (tk2 : PySem.W.takerIn K C n2 = some none) (tk3 : PySem.W.takerIn K C n3 = some none) : FnOk P w K mg base CX0 1 f fd ["self", m1, m2, m3] (sI3 C n1 n2 n3) := by
  refine okD F S (fun vs H Q E h => ?_) (fun cdv A outer s H vs Q E hr h => ?_)
  · obtain ⟨a, x, y, z, rfl, _⟩ := h
    rfl
  · obtain ⟨a, x, y, z, rfl, ha, k⟩ := h
    rw [hb]
    refine ⟨_, pss_cons (ps_st (C := C) SF T ov tk1 (pv 0 (x := "self") (by rfl) (.inl v1)) (pv 1 (x := m1) (by rfl) (.inl v2) hd1 hc1) (hs1 _)) (pss_cons (ps_st (C := C) SF T ov tk2 (pv 0 (x := "self") (by rfl) (.inl v1)) (pv 2 (x := m2) (by rfl) (.inl v3) hd2 hc2) (hs2 _))
      (pss_one (ps_st (C := C) SF T ov tk3 (pv 0 (x := "self") (by rfl) (.inl v1)) (pv 3 (x := m3) (by rfl) (.inl v4) hd3 hc3) (hs3 _)))), ?_⟩
    refine ⟨_, rfl, _, rfl, a, rfl, .inl ⟨ha, fun dx hdx hne => ?_⟩⟩
    refine ⟨_, rfl, _, rfl, a, rfl, .inr ⟨dx, _, upd_same, (upd_ne hne).trans upd_same, by simp, ?_⟩⟩
    refine ⟨_, rfl, _, rfl, a, rfl, .inr ⟨dx, _, (upd_ne hne.symm).trans upd_same, upd_same, by simp, k _ (fun b o e hb => ?_) (.inr ⟨dx, (upd_ne hne.symm).trans ((upd_ne hne.symm).trans upd_same), upd_same⟩)⟩⟩
    have nb : b ≠ dx := ne_of_none e hdx
    exact (upd_ne nb).trans ((upd_ne nb).trans ((upd_ne hb).trans ((upd_ne nb).trans e)))
end
end K00

namespace K00
open PySem PySem.Spec PyProof.Rows L2 Xv
/-! ### what the head has told, in hand -/
structure Fx (K : PySem.W.Frag) (mg : Str → Option Value) : Prop where
  g : ∀ (i : Nat) (x : Str), fa[i]? = some (He.Fa.glo x) → mg x = some (.ref (He.ga K x))
  f : ∀ (i : Nat) (x : Str), fa[i]? = some (He.Fa.free x) → mg x = none
  d : He.SaysD fa fn K
  ex : exB K = true
theorem Fx.of {K : PySem.W.Frag} {mg : Str → Option Value} {h : Heap} (X : K.In h) (G : h.Ns mainGlobals mg) (c : He.SaysD fa fn K) (e : exB K = true) : Fx K mg :=
  ⟨fun i _ z => He.glo_ok X G (c.fact i z), fun i _ z => He.free_ok X G (c.fact i z), c, e⟩
theorem all_at {n : Nat} {p : Nat → Bool} (h : (List.range n).all p = true) {i : Nat} (hi : i < n) : p i = true := List.all_eq_true.mp h i (List.mem_range.mpr hi)
theorem an {a b : Bool} (h : (a && b) = true) : a = true ∧ b = true := Bool.and_eq_true_iff.mp h
theorem ec_of {K : PySem.W.Frag} {C : Addr} (h : ecB K C = true) : EC K C := by
  obtain ⟨h1, h⟩ := an h
  obtain ⟨h2, h⟩ := an h
  obtain ⟨h3, h⟩ := an h
  obtain ⟨h4, h⟩ := an h
  obtain ⟨h5, h⟩ := an h
  obtain ⟨h6, h⟩ := an h
  obtain ⟨h7, h⟩ := an h
  obtain ⟨h8, h9⟩ := an h
  exact ⟨h1, h2, He.eqO_ok h3, He.eqO_ok h4, He.eqO_ok h5, He.eqO_ok h6, of_decide_eq_true h7, of_decide_eq_true h8, h9⟩
section
variable {K : PySem.W.Frag} {mg : Str → Option Value}
theorem Fx.oc (Y : Fx K mg) : OC K := by
  obtain ⟨h1, h2⟩ := an (an Y.ex).1
  exact ⟨He.eqO_ok h1, of_decide_eq_true h2⟩
theorem Fx.ec (Y : Fx K mg) {i : Nat} (hi : i < 34) : EC K (ad K i) := ec_of (all_at (an (an Y.ex).2).1 hi)
theorem Fx.kit (Y : Fx K mg) {i j : Nat} (hi : i < 34) (hj : j < 34) : PySem.W.kitOne K (.ref (ad K i)) (.ref (ad K j)) = some (decide (j = i)) := of_decide_eq_true (all_at (all_at (an (an (an Y.ex).2).2).1 hi) hj)
theorem Fx.bas (Y : Fx K mg) {i : Nat} (hi : i < 34) : PySem.W.kitOne K (.ref (ad K i)) (.ref (He.ga K "PairError")) = some (decide (i < 31)) ∧ PySem.W.kitOne K (.ref (ad K i)) (.type "ValueError") = some (decide (i < 31)) ∧
    PySem.W.kitOne K (.ref (ad K i)) (.ref (He.ga K "NameMissing")) = some (decide (31 ≤ i)) ∧ PySem.W.kitOne K (.ref (ad K i)) (.type "LookupError") = some (decide (31 ≤ i)) := by
  obtain ⟨h1, h⟩ := an (all_at (an (an (an (an Y.ex).2).2).2).1 hi)
  obtain ⟨h2, h⟩ := an h
  obtain ⟨h3, h4⟩ := an h
  exact ⟨of_decide_eq_true h1, of_decide_eq_true h2, of_decide_eq_true h3, of_decide_eq_true h4⟩
theorem Fx.pl (Y : Fx K mg) {i : Nat} (hi : i < 14) : PySem.W.excIn K (ad K i) veB "ValueError.__new__" = true := all_at (an (an (an (an (an Y.ex).2).2).2).2).1 hi
theorem Fx.ini (Y : Fx K mg) {i : Nat} (hi : i < 20) : iniB K (14 + i) = true := all_at (an (an (an (an (an Y.ex).2).2).2).2).2 hi
theorem Fx.bl (Y : Fx K mg) : Bl mg := ⟨Y.f 44 _ rfl, Y.f 45 _ rfl, Y.f 46 _ rfl, Y.f 47 _ rfl, Y.f 48 _ rfl, Y.f 49 _ rfl, Y.f 50 _ rfl⟩
theorem ini_fld {i : Nat} {f : Str} (h : iniB K i = true) (hf : f ∈ FLD.getD (i - 14) []) : PySem.W.takerIn K (ad K i) f = some none ∧ PySem.W.findIn K (.ref (ad K i)) f = some none := by
  obtain ⟨h1, h2⟩ := an (List.all_eq_true.mp (an (an (an h).2).2).2 f hf)
  exact ⟨He.eqO_ok h1, He.eqO_ok h2⟩
theorem ini_at {i : Nat} (h : iniB K i = true) : PySem.W.findIn K (.ref (ad K i)) "__init__" = some (some (.ref (He.ma K (ad K i) "__init__"))) ∧ PySem.W.typeIn K (.ref (He.ma K (ad K i) "__init__")) = some (.type "function") :=
  ⟨He.eqO_ok (an (an h).2).1, of_decide_eq_true (an (an (an h).2).2).1⟩
theorem ini_ve {i : Nat} (h : iniB K i = true) (hi : i < 31) : PySem.W.excInitIn K (ad K i) veB "ValueError.__new__" = true ∧ PySem.W.excOver K (ad K i) veB = true := by
  have z := (an h).1
  rw [if_pos hi] at z
  exact an z
theorem ini_le {i : Nat} (h : iniB K i = true) (hi : ¬ i < 31) : PySem.W.excInitIn K (ad K i) leB "LookupError.__new__" = true ∧ PySem.W.excOver K (ad K i) leB = true := by
  have z := (an h).1
  rw [if_neg hi] at z
  exact an z
end
/-! ### an exception made by its class's own __init__ -/
/-- the class at C makes its exceptions by an __init__ that keeps sp -/
structure MkC (P : Program) (w : World) (K : PySem.W.Frag) (mg : Str → Option Value) (base : Heap) (C : Addr) (ps : List Str) (sp : Sp) : Prop where
  ex : ∃ (B n1 n2 : String) (bmB : List Value) (fI : Addr) (fd : FuncData), ExcBaseFacts B n1 n2 bmB ∧ PySem.W.excInitIn K C bmB n1 = true ∧ PySem.W.findIn K (.ref C) "__init__" = some (some (.ref fI)) ∧ PySem.W.typeIn K (.ref fI) = some (.type "function") ∧
    FnOk P w K mg base CX0 1 fI fd ps sp ∧ Binds K fd ps []
  kp : PySem.W.keepIn K (.ref C) = true
def tMk (C : Addr) (sp : Sp) (ta : TA) : TE := fun σ H Q => ta σ H fun vs H1 => vs.length ≤ 1000 ∧ ∀ a, H1 a = none → sp (.ref a :: vs) (upd H1 a (exo a C none)) (fun v H2 => v = .non ∧ Q (.ref a) H2) (fun _ _ _ => False)
theorem pe_mk {X : Cx} {C : Addr} {ps : List Str} {sp : Sp} {x : Str} {p pos : Pos} {e : Expr} {es : List Expr} {ta : TA} (M : MkC X.prog X.w X.K X.mg X.base C ps sp) (hr : Room 2 X.A) (hg : Gl X x) (hm : X.mg x = some (.ref C)) (ha : PA X (e :: es) ta)
    (hdb : (x == ("__debug__" : Str)) = false := by decide) (he : starEach (e :: es) X.env = (false, eval e X.env) :: starEach es X.env := by rfl) (hpl : (backTo pos (starEach es X.env)).any (·.1) = false := by rfl) : PE X (.Call (.Name x p) (e :: es) [] pos) (tMk C sp ta) := by
  obtain ⟨B, n1, n2, bmB, fI, fd, F, q, iC, tI, F1, hb⟩ := M.ex
  exact pe_excI F q iC tI M.kp F1 hr hb pass0 hg hm ha hdb he hpl
section
variable {P : Program} {w : World} {K : PySem.W.Frag} {mg : Str → Option Value} {base : Heap}
theorem mk_BadName (Y : Fx K mg) : MkC P w K mg base (ad K 14) ["self", "name"] (sI1 (ad K 14) "name") := by
  have h : iniB K 14 = true := Y.ini (i := 0) (by decide)
  obtain ⟨fd, F0⟩ := Y.d.def_ 8 (d := dIBadName) rfl
  have F : FunD K "__init__" "BadName.__init__" (defArgs (sIni 16)) (defBody (sIni 16)) (defScope (sIni 16)) [] [] (He.ma K (ad K 14) "__init__") fd := F0
  have S : FnScope ["self", "name"] ["self", "name"] (defScope (sIni 16)) := ⟨rfl, rfl, rfl, by decide +kernel, rfl, by decide +kernel, by decide +kernel⟩
  have b := FunD.bindsN (ps := ["self", "name"]) F fun _ _ _ _ _ _ us hl => match us, hl with | [_, _], _ => rfl
  exact ⟨⟨_, _, _, _, _, fd, PySem.F.excBase_ValueError, (ini_ve h (by decide)).1, (ini_at h).1, (ini_at h).2, ok_i1 (st := sIni 16) F S rfl rfl rfl (fun _ => rfl) (by decide) (by decide) PySem.F.store_ValueError (Y.ec (by decide)) (ini_ve h (by decide)).2 (ini_fld h (f := "name") List.mem_cons_self).1, b⟩, (Y.ec (by decide)).kp⟩
theorem mk_TwiceTold (Y : Fx K mg) : MkC P w K mg base (ad K 15) ["self", "name"] (sI1 (ad K 15) "name") := by
  have h : iniB K 15 = true := Y.ini (i := 1) (by decide)
  obtain ⟨fd, F0⟩ := Y.d.def_ 9 (d := dITwiceTold) rfl
  have F : FunD K "__init__" "TwiceTold.__init__" (defArgs (sIni 17)) (defBody (sIni 17)) (defScope (sIni 17)) [] [] (He.ma K (ad K 15) "__init__") fd := F0
  have S : FnScope ["self", "name"] ["self", "name"] (defScope (sIni 17)) := ⟨rfl, rfl, rfl, by decide +kernel, rfl, by decide +kernel, by decide +kernel⟩
  have b := FunD.bindsN (ps := ["self", "name"]) F fun _ _ _ _ _ _ us hl => match us, hl with | [_, _], _ => rfl
  exact ⟨⟨_, _, _, _, _, fd, PySem.F.excBase_ValueError, (ini_ve h (by decide)).1, (ini_at h).1, (ini_at h).2, ok_i1 (st := sIni 17) F S rfl rfl rfl (fun _ => rfl) (by decide) (by decide) PySem.F.store_ValueError (Y.ec (by decide)) (ini_ve h (by decide)).2 (ini_fld h (f := "name") List.mem_cons_self).1, b⟩, (Y.ec (by decide)).kp⟩
theorem mk_BadFrame (Y : Fx K mg) : MkC P w K mg base (ad K 16) ["self", "name"] (sI1 (ad K 16) "name") := by
  have h : iniB K 16 = true := Y.ini (i := 2) (by decide)
  obtain ⟨fd, F0⟩ := Y.d.def_ 10 (d := dIBadFrame) rfl
  have F : FunD K "__init__" "BadFrame.__init__" (defArgs (sIni 18)) (defBody (sIni 18)) (defScope (sIni 18)) [] [] (He.ma K (ad K 16) "__init__") fd := F0
  have S : FnScope ["self", "name"] ["self", "name"] (defScope (sIni 18)) := ⟨rfl, rfl, rfl, by decide +kernel, rfl, by decide +kernel, by decide +kernel⟩
  have b := FunD.bindsN (ps := ["self", "name"]) F fun _ _ _ _ _ _ us hl => match us, hl with | [_, _], _ => rfl
  exact ⟨⟨_, _, _, _, _, fd, PySem.F.excBase_ValueError, (ini_ve h (by decide)).1, (ini_at h).1, (ini_at h).2, ok_i1 (st := sIni 18) F S rfl rfl rfl (fun _ => rfl) (by decide) (by decide) PySem.F.store_ValueError (Y.ec (by decide)) (ini_ve h (by decide)).2 (ini_fld h (f := "name") List.mem_cons_self).1, b⟩, (Y.ec (by decide)).kp⟩
theorem mk_BadWorld (Y : Fx K mg) : MkC P w K mg base (ad K 17) ["self", "name"] (sI1 (ad K 17) "name") := by
  have h : iniB K 17 = true := Y.ini (i := 3) (by decide)
  obtain ⟨fd, F0⟩ := Y.d.def_ 11 (d := dIBadWorld) rfl
  have F : FunD K "__init__" "BadWorld.__init__" (defArgs (sIni 19)) (defBody (sIni 19)) (defScope (sIni 19)) [] [] (He.ma K (ad K 17) "__init__") fd := F0
  have S : FnScope ["self", "name"] ["self", "name"] (defScope (sIni 19)) := ⟨rfl, rfl, rfl, by decide +kernel, rfl, by decide +kernel, by decide +kernel⟩
  have b := FunD.bindsN (ps := ["self", "name"]) F fun _ _ _ _ _ _ us hl => match us, hl with | [_, _], _ => rfl
  exact ⟨⟨_, _, _, _, _, fd, PySem.F.excBase_ValueError, (ini_ve h (by decide)).1, (ini_at h).1, (ini_at h).2, ok_i1 (st := sIni 19) F S rfl rfl rfl (fun _ => rfl) (by decide) (by decide) PySem.F.store_ValueError (Y.ec (by decide)) (ini_ve h (by decide)).2 (ini_fld h (f := "name") List.mem_cons_self).1, b⟩, (Y.ec (by decide)).kp⟩
theorem mk_NotFree (Y : Fx K mg) : MkC P w K mg base (ad K 18) ["self", "name"] (sI1 (ad K 18) "name") := by
  have h : iniB K 18 = true := Y.ini (i := 4) (by decide)
  obtain ⟨fd, F0⟩ := Y.d.def_ 12 (d := dINotFree) rfl
  have F : FunD K "__init__" "NotFree.__init__" (defArgs (sIni 20)) (defBody (sIni 20)) (defScope (sIni 20)) [] [] (He.ma K (ad K 18) "__init__") fd := F0
  have S : FnScope ["self", "name"] ["self", "name"] (defScope (sIni 20)) := ⟨rfl, rfl, rfl, by decide +kernel, rfl, by decide +kernel, by decide +kernel⟩
  have b := FunD.bindsN (ps := ["self", "name"]) F fun _ _ _ _ _ _ us hl => match us, hl with | [_, _], _ => rfl
  exact ⟨⟨_, _, _, _, _, fd, PySem.F.excBase_ValueError, (ini_ve h (by decide)).1, (ini_at h).1, (ini_at h).2, ok_i1 (st := sIni 20) F S rfl rfl rfl (fun _ => rfl) (by decide) (by decide) PySem.F.store_ValueError (Y.ec (by decide)) (ini_ve h (by decide)).2 (ini_fld h (f := "name") List.mem_cons_self).1, b⟩, (Y.ec (by decide)).kp⟩
theorem mk_NotOfKind (Y : Fx K mg) : MkC P w K mg base (ad K 19) ["self", "word", "members"] (sIT K (ad K 19) "word" "members") := by
  have h : iniB K 19 = true := Y.ini (i := 5) (by decide)
  obtain ⟨fd, F0⟩ := Y.d.def_ 13 (d := dINotOfKind) rfl
  have F : FunD K "__init__" "NotOfKind.__init__" (defArgs (sIni 21)) (defBody (sIni 21)) (defScope (sIni 21)) [] [] (He.ma K (ad K 19) "__init__") fd := F0
  have S : FnScope ["self", "word", "members"] ["self", "word", "members"] (defScope (sIni 21)) := ⟨rfl, rfl, rfl, by decide +kernel, rfl, by decide +kernel, by decide +kernel⟩
  have b := FunD.bindsN (ps := ["self", "word", "members"]) F fun _ _ _ _ _ _ us hl => match us, hl with | [_, _, _], _ => rfl
  exact ⟨⟨_, _, _, _, _, fd, PySem.F.excBase_ValueError, (ini_ve h (by decide)).1, (ini_at h).1, (ini_at h).2, ok_it (st := sIni 21) F S rfl rfl rfl rfl Y.bl.tup rfl (fun _ => rfl) (fun _ => rfl) (by decide) (by decide) (by decide) (by decide) PySem.F.store_ValueError (Y.ec (by decide)) (ini_ve h (by decide)).2 (ini_fld h (f := "word") List.mem_cons_self).1 (ini_fld h (f := "members") (List.mem_cons_of_mem _ List.mem_cons_self)).1, b⟩, (Y.ec (by decide)).kp⟩
theorem mk_BadPlan (Y : Fx K mg) : MkC P w K mg base (ad K 20) ["self", "number"] (sI1 (ad K 20) "number") := by
  have h : iniB K 20 = true := Y.ini (i := 6) (by decide)
  obtain ⟨fd, F0⟩ := Y.d.def_ 14 (d := dIBadPlan) rfl
  have F : FunD K "__init__" "BadPlan.__init__" (defArgs (sIni 22)) (defBody (sIni 22)) (defScope (sIni 22)) [] [] (He.ma K (ad K 20) "__init__") fd := F0
  have S : FnScope ["self", "number"] ["self", "number"] (defScope (sIni 22)) := ⟨rfl, rfl, rfl, by decide +kernel, rfl, by decide +kernel, by decide +kernel⟩
  have b := FunD.bindsN (ps := ["self", "number"]) F fun _ _ _ _ _ _ us hl => match us, hl with | [_, _], _ => rfl
  exact ⟨⟨_, _, _, _, _, fd, PySem.F.excBase_ValueError, (ini_ve h (by decide)).1, (ini_at h).1, (ini_at h).2, ok_i1 (st := sIni 22) F S rfl rfl rfl (fun _ => rfl) (by decide) (by decide) PySem.F.store_ValueError (Y.ec (by decide)) (ini_ve h (by decide)).2 (ini_fld h (f := "number") List.mem_cons_self).1, b⟩, (Y.ec (by decide)).kp⟩
theorem mk_ComesRound (Y : Fx K mg) : MkC P w K mg base (ad K 21) ["self", "members"] (sT1 K (ad K 21) "members") := by
  have h : iniB K 21 = true := Y.ini (i := 7) (by decide)
  obtain ⟨fd, F0⟩ := Y.d.def_ 15 (d := dIComesRound) rfl
  have F : FunD K "__init__" "ComesRound.__init__" (defArgs (sIni 23)) (defBody (sIni 23)) (defScope (sIni 23)) [] [] (He.ma K (ad K 21) "__init__") fd := F0
  have S : FnScope ["self", "members"] ["self", "members"] (defScope (sIni 23)) := ⟨rfl, rfl, rfl, by decide +kernel, rfl, by decide +kernel, by decide +kernel⟩
  have b := FunD.bindsN (ps := ["self", "members"]) F fun _ _ _ _ _ _ us hl => match us, hl with | [_, _], _ => rfl
  exact ⟨⟨_, _, _, _, _, fd, PySem.F.excBase_ValueError, (ini_ve h (by decide)).1, (ini_at h).1, (ini_at h).2, ok_t1 (st := sIni 23) F S rfl rfl rfl Y.bl.tup rfl (fun _ => rfl) (by decide) (by decide) PySem.F.store_ValueError (Y.ec (by decide)) (ini_ve h (by decide)).2 (ini_fld h (f := "members") List.mem_cons_self).1, b⟩, (Y.ec (by decide)).kp⟩
theorem mk_BadTerm (Y : Fx K mg) : MkC P w K mg base (ad K 22) ["self", "path"] (sT1 K (ad K 22) "path") := by
  have h : iniB K 22 = true := Y.ini (i := 8) (by decide)
  obtain ⟨fd, F0⟩ := Y.d.def_ 16 (d := dIBadTerm) rfl
  have F : FunD K "__init__" "BadTerm.__init__" (defArgs (sIni 24)) (defBody (sIni 24)) (defScope (sIni 24)) [] [] (He.ma K (ad K 22) "__init__") fd := F0
  have S : FnScope ["self", "path"] ["self", "path"] (defScope (sIni 24)) := ⟨rfl, rfl, rfl, by decide +kernel, rfl, by decide +kernel, by decide +kernel⟩
  have b := FunD.bindsN (ps := ["self", "path"]) F fun _ _ _ _ _ _ us hl => match us, hl with | [_, _], _ => rfl
  exact ⟨⟨_, _, _, _, _, fd, PySem.F.excBase_ValueError, (ini_ve h (by decide)).1, (ini_at h).1, (ini_at h).2, ok_t1 (st := sIni 24) F S rfl rfl rfl Y.bl.tup rfl (fun _ => rfl) (by decide) (by decide) PySem.F.store_ValueError (Y.ec (by decide)) (ini_ve h (by decide)).2 (ini_fld h (f := "path") List.mem_cons_self).1, b⟩, (Y.ec (by decide)).kp⟩
theorem mk_BadText (Y : Fx K mg) : MkC P w K mg base (ad K 23) ["self", "place"] (sI1 (ad K 23) "place") := by
  have h : iniB K 23 = true := Y.ini (i := 9) (by decide)
  obtain ⟨fd, F0⟩ := Y.d.def_ 17 (d := dIBadText) rfl
  have F : FunD K "__init__" "BadText.__init__" (defArgs (sIni 25)) (defBody (sIni 25)) (defScope (sIni 25)) [] [] (He.ma K (ad K 23) "__init__") fd := F0
  have S : FnScope ["self", "place"] ["self", "place"] (defScope (sIni 25)) := ⟨rfl, rfl, rfl, by decide +kernel, rfl, by decide +kernel, by decide +kernel⟩
  have b := FunD.bindsN (ps := ["self", "place"]) F fun _ _ _ _ _ _ us hl => match us, hl with | [_, _], _ => rfl
  exact ⟨⟨_, _, _, _, _, fd, PySem.F.excBase_ValueError, (ini_ve h (by decide)).1, (ini_at h).1, (ini_at h).2, ok_i1 (st := sIni 25) F S rfl rfl rfl (fun _ => rfl) (by decide) (by decide) PySem.F.store_ValueError (Y.ec (by decide)) (ini_ve h (by decide)).2 (ini_fld h (f := "place") List.mem_cons_self).1, b⟩, (Y.ec (by decide)).kp⟩
theorem mk_NotKept (Y : Fx K mg) : MkC P w K mg base (ad K 24) ["self", "number"] (sI1 (ad K 24) "number") := by
  have h : iniB K 24 = true := Y.ini (i := 10) (by decide)
  obtain ⟨fd, F0⟩ := Y.d.def_ 18 (d := dINotKept) rfl
  have F : FunD K "__init__" "NotKept.__init__" (defArgs (sIni 26)) (defBody (sIni 26)) (defScope (sIni 26)) [] [] (He.ma K (ad K 24) "__init__") fd := F0
  have S : FnScope ["self", "number"] ["self", "number"] (defScope (sIni 26)) := ⟨rfl, rfl, rfl, by decide +kernel, rfl, by decide +kernel, by decide +kernel⟩
  have b := FunD.bindsN (ps := ["self", "number"]) F fun _ _ _ _ _ _ us hl => match us, hl with | [_, _], _ => rfl
  exact ⟨⟨_, _, _, _, _, fd, PySem.F.excBase_ValueError, (ini_ve h (by decide)).1, (ini_at h).1, (ini_at h).2, ok_i1 (st := sIni 26) F S rfl rfl rfl (fun _ => rfl) (by decide) (by decide) PySem.F.store_ValueError (Y.ec (by decide)) (ini_ve h (by decide)).2 (ini_fld h (f := "number") List.mem_cons_self).1, b⟩, (Y.ec (by decide)).kp⟩
theorem mk_NotFlat (Y : Fx K mg) : MkC P w K mg base (ad K 25) ["self", "number"] (sI1 (ad K 25) "number") := by
  have h : iniB K 25 = true := Y.ini (i := 11) (by decide)
  obtain ⟨fd, F0⟩ := Y.d.def_ 19 (d := dINotFlat) rfl
  have F : FunD K "__init__" "NotFlat.__init__" (defArgs (sIni 27)) (defBody (sIni 27)) (defScope (sIni 27)) [] [] (He.ma K (ad K 25) "__init__") fd := F0
  have S : FnScope ["self", "number"] ["self", "number"] (defScope (sIni 27)) := ⟨rfl, rfl, rfl, by decide +kernel, rfl, by decide +kernel, by decide +kernel⟩
  have b := FunD.bindsN (ps := ["self", "number"]) F fun _ _ _ _ _ _ us hl => match us, hl with | [_, _], _ => rfl
  exact ⟨⟨_, _, _, _, _, fd, PySem.F.excBase_ValueError, (ini_ve h (by decide)).1, (ini_at h).1, (ini_at h).2, ok_i1 (st := sIni 27) F S rfl rfl rfl (fun _ => rfl) (by decide) (by decide) PySem.F.store_ValueError (Y.ec (by decide)) (ini_ve h (by decide)).2 (ini_fld h (f := "number") List.mem_cons_self).1, b⟩, (Y.ec (by decide)).kp⟩
theorem mk_MixedEnds (Y : Fx K mg) : MkC P w K mg base (ad K 26) ["self", "number"] (sI1 (ad K 26) "number") := by
  have h : iniB K 26 = true := Y.ini (i := 12) (by decide)
  obtain ⟨fd, F0⟩ := Y.d.def_ 20 (d := dIMixedEnds) rfl
  have F : FunD K "__init__" "MixedEnds.__init__" (defArgs (sIni 28)) (defBody (sIni 28)) (defScope (sIni 28)) [] [] (He.ma K (ad K 26) "__init__") fd := F0
  have S : FnScope ["self", "number"] ["self", "number"] (defScope (sIni 28)) := ⟨rfl, rfl, rfl, by decide +kernel, rfl, by decide +kernel, by decide +kernel⟩
  have b := FunD.bindsN (ps := ["self", "number"]) F fun _ _ _ _ _ _ us hl => match us, hl with | [_, _], _ => rfl
  exact ⟨⟨_, _, _, _, _, fd, PySem.F.excBase_ValueError, (ini_ve h (by decide)).1, (ini_at h).1, (ini_at h).2, ok_i1 (st := sIni 28) F S rfl rfl rfl (fun _ => rfl) (by decide) (by decide) PySem.F.store_ValueError (Y.ec (by decide)) (ini_ve h (by decide)).2 (ini_fld h (f := "number") List.mem_cons_self).1, b⟩, (Y.ec (by decide)).kp⟩
theorem mk_NotTotal (Y : Fx K mg) : MkC P w K mg base (ad K 27) ["self", "name", "word", "member"] (sI3 (ad K 27) "name" "word" "member") := by
  have h : iniB K 27 = true := Y.ini (i := 13) (by decide)
  obtain ⟨fd, F0⟩ := Y.d.def_ 21 (d := dINotTotal) rfl
  have F : FunD K "__init__" "NotTotal.__init__" (defArgs (sIni 29)) (defBody (sIni 29)) (defScope (sIni 29)) [] [] (He.ma K (ad K 27) "__init__") fd := F0
  have S : FnScope ["self", "name", "word", "member"] ["self", "name", "word", "member"] (defScope (sIni 29)) := ⟨rfl, rfl, rfl, by decide +kernel, rfl, by decide +kernel, by decide +kernel⟩
  have b := FunD.bindsN (ps := ["self", "name", "word", "member"]) F fun _ _ _ _ _ _ us hl => match us, hl with | [_, _, _, _], _ => rfl
  exact ⟨⟨_, _, _, _, _, fd, PySem.F.excBase_ValueError, (ini_ve h (by decide)).1, (ini_at h).1, (ini_at h).2, ok_i3 (st := sIni 29) F S rfl rfl rfl rfl rfl (fun _ => rfl) (fun _ => rfl) (fun _ => rfl) (by decide) (by decide) (by decide) (by decide) (by decide) (by decide) PySem.F.store_ValueError (Y.ec (by decide)) (ini_ve h (by decide)).2 (ini_fld h (f := "name") List.mem_cons_self).1 (ini_fld h (f := "word") (List.mem_cons_of_mem _ List.mem_cons_self)).1 (ini_fld h (f := "member") (List.mem_cons_of_mem _ (List.mem_cons_of_mem _ List.mem_cons_self))).1, b⟩, (Y.ec (by decide)).kp⟩
theorem mk_NotLed (Y : Fx K mg) : MkC P w K mg base (ad K 28) ["self", "name", "pair"] (sIT K (ad K 28) "name" "pair") := by
  have h : iniB K 28 = true := Y.ini (i := 14) (by decide)
  obtain ⟨fd, F0⟩ := Y.d.def_ 22 (d := dINotLed) rfl
  have F : FunD K "__init__" "NotLed.__init__" (defArgs (sIni 30)) (defBody (sIni 30)) (defScope (sIni 30)) [] [] (He.ma K (ad K 28) "__init__") fd := F0
  have S : FnScope ["self", "name", "pair"] ["self", "name", "pair"] (defScope (sIni 30)) := ⟨rfl, rfl, rfl, by decide +kernel, rfl, by decide +kernel, by decide +kernel⟩
  have b := FunD.bindsN (ps := ["self", "name", "pair"]) F fun _ _ _ _ _ _ us hl => match us, hl with | [_, _, _], _ => rfl
  exact ⟨⟨_, _, _, _, _, fd, PySem.F.excBase_ValueError, (ini_ve h (by decide)).1, (ini_at h).1, (ini_at h).2, ok_it (st := sIni 30) F S rfl rfl rfl rfl Y.bl.tup rfl (fun _ => rfl) (fun _ => rfl) (by decide) (by decide) (by decide) (by decide) PySem.F.store_ValueError (Y.ec (by decide)) (ini_ve h (by decide)).2 (ini_fld h (f := "name") List.mem_cons_self).1 (ini_fld h (f := "pair") (List.mem_cons_of_mem _ List.mem_cons_self)).1, b⟩, (Y.ec (by decide)).kp⟩
theorem mk_Broken (Y : Fx K mg) : MkC P w K mg base (ad K 29) ["self", "members"] (sT1 K (ad K 29) "members") := by
  have h : iniB K 29 = true := Y.ini (i := 15) (by decide)
  obtain ⟨fd, F0⟩ := Y.d.def_ 23 (d := dIBroken) rfl
  have F : FunD K "__init__" "Broken.__init__" (defArgs (sIni 31)) (defBody (sIni 31)) (defScope (sIni 31)) [] [] (He.ma K (ad K 29) "__init__") fd := F0
  have S : FnScope ["self", "members"] ["self", "members"] (defScope (sIni 31)) := ⟨rfl, rfl, rfl, by decide +kernel, rfl, by decide +kernel, by decide +kernel⟩
  have b := FunD.bindsN (ps := ["self", "members"]) F fun _ _ _ _ _ _ us hl => match us, hl with | [_, _], _ => rfl
  exact ⟨⟨_, _, _, _, _, fd, PySem.F.excBase_ValueError, (ini_ve h (by decide)).1, (ini_at h).1, (ini_at h).2, ok_t1 (st := sIni 31) F S rfl rfl rfl Y.bl.tup rfl (fun _ => rfl) (by decide) (by decide) PySem.F.store_ValueError (Y.ec (by decide)) (ini_ve h (by decide)).2 (ini_fld h (f := "members") List.mem_cons_self).1, b⟩, (Y.ec (by decide)).kp⟩
theorem mk_Clash (Y : Fx K mg) : MkC P w K mg base (ad K 30) ["self", "spots"] (sT1 K (ad K 30) "spots") := by
  have h : iniB K 30 = true := Y.ini (i := 16) (by decide)
  obtain ⟨fd, F0⟩ := Y.d.def_ 24 (d := dIClash) rfl
  have F : FunD K "__init__" "Clash.__init__" (defArgs (sIni 32)) (defBody (sIni 32)) (defScope (sIni 32)) [] [] (He.ma K (ad K 30) "__init__") fd := F0
  have S : FnScope ["self", "spots"] ["self", "spots"] (defScope (sIni 32)) := ⟨rfl, rfl, rfl, by decide +kernel, rfl, by decide +kernel, by decide +kernel⟩
  have b := FunD.bindsN (ps := ["self", "spots"]) F fun _ _ _ _ _ _ us hl => match us, hl with | [_, _], _ => rfl
  exact ⟨⟨_, _, _, _, _, fd, PySem.F.excBase_ValueError, (ini_ve h (by decide)).1, (ini_at h).1, (ini_at h).2, ok_t1 (st := sIni 32) F S rfl rfl rfl Y.bl.tup rfl (fun _ => rfl) (by decide) (by decide) PySem.F.store_ValueError (Y.ec (by decide)) (ini_ve h (by decide)).2 (ini_fld h (f := "spots") List.mem_cons_self).1, b⟩, (Y.ec (by decide)).kp⟩
theorem mk_UnknownName (Y : Fx K mg) : MkC P w K mg base (ad K 31) ["self", "name"] (sI1 (ad K 31) "name") := by
  have h : iniB K 31 = true := Y.ini (i := 17) (by decide)
  obtain ⟨fd, F0⟩ := Y.d.def_ 25 (d := dIUnknownName) rfl
  have F : FunD K "__init__" "UnknownName.__init__" (defArgs (sIni 34)) (defBody (sIni 34)) (defScope (sIni 34)) [] [] (He.ma K (ad K 31) "__init__") fd := F0
  have S : FnScope ["self", "name"] ["self", "name"] (defScope (sIni 34)) := ⟨rfl, rfl, rfl, by decide +kernel, rfl, by decide +kernel, by decide +kernel⟩
  have b := FunD.bindsN (ps := ["self", "name"]) F fun _ _ _ _ _ _ us hl => match us, hl with | [_, _], _ => rfl
  exact ⟨⟨_, _, _, _, _, fd, PySem.F.excBase_LookupError, (ini_le h (by decide)).1, (ini_at h).1, (ini_at h).2, ok_i1 (st := sIni 34) F S rfl rfl rfl (fun _ => rfl) (by decide) (by decide) PySem.F.store_LookupError (Y.ec (by decide)) (ini_le h (by decide)).2 (ini_fld h (f := "name") List.mem_cons_self).1, b⟩, (Y.ec (by decide)).kp⟩
theorem mk_NotTold (Y : Fx K mg) : MkC P w K mg base (ad K 32) ["self", "name"] (sI1 (ad K 32) "name") := by
  have h : iniB K 32 = true := Y.ini (i := 18) (by decide)
  obtain ⟨fd, F0⟩ := Y.d.def_ 26 (d := dINotTold) rfl
  have F : FunD K "__init__" "NotTold.__init__" (defArgs (sIni 35)) (defBody (sIni 35)) (defScope (sIni 35)) [] [] (He.ma K (ad K 32) "__init__") fd := F0
  have S : FnScope ["self", "name"] ["self", "name"] (defScope (sIni 35)) := ⟨rfl, rfl, rfl, by decide +kernel, rfl, by decide +kernel, by decide +kernel⟩
  have b := FunD.bindsN (ps := ["self", "name"]) F fun _ _ _ _ _ _ us hl => match us, hl with | [_, _], _ => rfl
  exact ⟨⟨_, _, _, _, _, fd, PySem.F.excBase_LookupError, (ini_le h (by decide)).1, (ini_at h).1, (ini_at h).2, ok_i1 (st := sIni 35) F S rfl rfl rfl (fun _ => rfl) (by decide) (by decide) PySem.F.store_LookupError (Y.ec (by decide)) (ini_le h (by decide)).2 (ini_fld h (f := "name") List.mem_cons_self).1, b⟩, (Y.ec (by decide)).kp⟩
theorem mk_NoState (Y : Fx K mg) : MkC P w K mg base (ad K 33) ["self", "number"] (sI1 (ad K 33) "number") := by
  have h : iniB K 33 = true := Y.ini (i := 19) (by decide)
  obtain ⟨fd, F0⟩ := Y.d.def_ 27 (d := dINoState) rfl
  have F : FunD K "__init__" "NoState.__init__" (defArgs (sIni 36)) (defBody (sIni 36)) (defScope (sIni 36)) [] [] (He.ma K (ad K 33) "__init__") fd := F0
  have S : FnScope ["self", "number"] ["self", "number"] (defScope (sIni 36)) := ⟨rfl, rfl, rfl, by decide +kernel, rfl, by decide +kernel, by decide +kernel⟩
  have b := FunD.bindsN (ps := ["self", "number"]) F fun _ _ _ _ _ _ us hl => match us, hl with | [_, _], _ => rfl
  exact ⟨⟨_, _, _, _, _, fd, PySem.F.excBase_LookupError, (ini_le h (by decide)).1, (ini_at h).1, (ini_at h).2, ok_i1 (st := sIni 36) F S rfl rfl rfl (fun _ => rfl) (by decide) (by decide) PySem.F.store_LookupError (Y.ec (by decide)) (ini_le h (by decide)).2 (ini_fld h (f := "number") List.mem_cons_self).1, b⟩, (Y.ec (by decide)).kp⟩
end
end K00

namespace K00
open PySem PySem.Spec PyProof.Rows L2 Xv
/-! ### lists of exceptions -/
theorem same_upd {H : Hp} {a : Addr} {o : HO} (h : H a = none) : Same H (upd H a o) := fun _ _ e => (upd_ne (ne_of_none e h)).trans e
theorem same_of1 {H H' : Hp} {a : Addr} {o : HO} (h : H a = none) (s : Same1 (upd H a o) H' a) : Same H H' := fun b u e => s b u ((upd_ne (ne_of_none e h)).trans e) (ne_of_none e h)
theorem isx_same {H H' : Hp} {a C : Addr} {fs : List (Str × V)} (s : Same H H') (h : IsX H a C fs) : IsX H' a C fs := by
  rcases h with ⟨e, z⟩ | ⟨dx, e, d⟩
  · exact .inl ⟨s _ _ e, z⟩
  · exact .inr ⟨dx, s _ _ e, s _ _ d⟩
/-- exceptions of the classes k, k + 1, .. with these fields -/
inductive XS (K : PySem.W.Frag) (H : Hp) : Nat → List Addr → List (List (Str × V)) → Prop
  | nil (k : Nat) : XS K H k [] []
  | cons {k : Nat} {a : Addr} {as : List Addr} {fs : List (Str × V)} {fss : List (List (Str × V))} : IsX H a (ad K k) fs → XS K H (k + 1) as fss → XS K H k (a :: as) (fs :: fss)
section
variable {K : PySem.W.Frag} {H H' : Hp}
theorem XS.same (s : Same H H') : ∀ {k : Nat} {as : List Addr} {fss : List (List (Str × V))}, XS K H k as fss → XS K H' k as fss
  | _, _, _, .nil k => .nil k
  | _, _, _, .cons h t => .cons (isx_same s h) (XS.same s t)
theorem XS.app : ∀ {k m : Nat} {as bs : List Addr} {fss gss : List (List (Str × V))}, XS K H k as fss → XS K H m bs gss → m = k + as.length → XS K H k (as ++ bs) (fss ++ gss)
  | _, _, _, _, _, _, .nil k, t, e => by
    have e' : _ = k := e
    subst e'
    exact t
  | k, m, a :: as, _, _, _, .cons h u, t, e => .cons h (XS.app u t (by rw [e, List.length_cons]; omega))
theorem XS.snoc {k : Nat} {as : List Addr} {fss : List (List (Str × V))} {a : Addr} {fs : List (Str × V)} (h : XS K H k as fss) (x : IsX H a (ad K (k + as.length)) fs) : XS K H k (as ++ [a]) (fss ++ [fs]) := XS.app h (.cons x (.nil _)) rfl
/-- with their number -/
structure XN (K : PySem.W.Frag) (H : Hp) (k n : Nat) (as : List Addr) (fss : List (List (Str × V))) : Prop where
  x : XS K H k as fss
  n : as.length = n
theorem XN.nil {k : Nat} : XN K H k 0 [] [] := ⟨.nil k, rfl⟩
theorem XN.same {k n : Nat} {as : List Addr} {fss : List (List (Str × V))} (s : Same H H') (h : XN K H k n as fss) : XN K H' k n as fss := ⟨XS.same s h.x, h.n⟩
theorem XN.snoc {k n : Nat} {as : List Addr} {fss : List (List (Str × V))} {a : Addr} {fs : List (Str × V)} (h : XN K H k n as fss) (x : IsX H a (ad K (k + n)) fs) : XN K H k (n + 1) (as ++ [a]) (fss ++ [fs]) :=
  ⟨XS.snoc h.x (by rw [h.n]; exact x), by rw [List.length_append, h.n]; rfl⟩
theorem XS.get : ∀ {k : Nat} {as : List Addr} {fss : List (List (Str × V))}, XS K H k as fss → ∀ {i : Nat} {a : Addr}, as[i]? = some a → ∃ fs, fss[i]? = some fs ∧ IsX H a (ad K (k + i)) fs
  | _, _, _, .nil _, i, _, e => by simp at e
  | k, a :: as, fs :: _, .cons h _, 0, b, e => by
    have e' : a = b := by simpa using e
    subst e'
    exact ⟨fs, rfl, h⟩
  | k, _, _, .cons _ t, i + 1, b, e => by
    obtain ⟨fs, e1, e2⟩ := XS.get t (i := i) (a := b) (by simpa using e)
    refine ⟨fs, by simpa using e1, ?_⟩
    rw [show k + (i + 1) = k + 1 + i by omega]
    exact e2
theorem XS.len : ∀ {k : Nat} {as : List Addr} {fss : List (List (Str × V))}, XS K H k as fss → as.length = fss.length
  | _, _, _, .nil _ => rfl
  | _, _, _, .cons _ t => by rw [List.length_cons, List.length_cons, XS.len t]
theorem seqv_same {x : V} {xs : List V} (s : Same H H') (h : SeqV K H x xs) : SeqV K H' x xs := by
  obtain ⟨z, b, e, h | h⟩ := h
  · exact ⟨z, b, e, .inl (s.seq h)⟩
  · obtain ⟨b', e', h'⟩ := tup_same s ⟨b, e, h⟩
    rw [e] at e'
    cases e'
    exact ⟨z, b, e, .inr h'⟩
/-! ### what C(e, ..) gives, in short -/
variable {C : Addr} {f g h3 : Str} {x y z : V} {xs : List V} {Q : Addr → Hp → Prop}
theorem rd_i1 (k : ∀ a H', H a = none → Same H H' → IsX H' a C [(f, x)] → Q a H') : ([x] : List V).length ≤ 1000 ∧ ∀ a, H a = none → sI1 C f (.ref a :: [x]) (upd H a (exo a C none)) (fun v H2 => v = .non ∧ Q a H2) (fun _ _ _ => False) :=
  ⟨(by show 1 ≤ 1000; decide), fun a ha => ⟨a, x, rfl, upd_same, fun H' s ix => ⟨rfl, k a H' ha (same_of1 ha s) ix⟩⟩⟩
theorem rd_t1 (hx : SeqV K H x xs) (k : ∀ a H' w, H a = none → Same H H' → TupV K H' w xs → IsX H' a C [(f, w)] → Q a H') : ([x] : List V).length ≤ 1000 ∧ ∀ a, H a = none → sT1 K C f (.ref a :: [x]) (upd H a (exo a C none)) (fun v H2 => v = .non ∧ Q a H2) (fun _ _ _ => False) :=
  ⟨(by show 1 ≤ 1000; decide), fun a ha => ⟨a, x, xs, rfl, upd_same, seqv_same (same_upd ha) hx, fun H' w s t ix => ⟨rfl, k a H' w ha (same_of1 ha s) t ix⟩⟩⟩
theorem rd_it (hy : SeqV K H y xs) (k : ∀ a H' w, H a = none → Same H H' → TupV K H' w xs → IsX H' a C [(g, w), (f, x)] → Q a H') : ([x, y] : List V).length ≤ 1000 ∧ ∀ a, H a = none → sIT K C f g (.ref a :: [x, y]) (upd H a (exo a C none)) (fun v H2 => v = .non ∧ Q a H2) (fun _ _ _ => False) :=
  ⟨(by show 2 ≤ 1000; decide), fun a ha => ⟨a, x, y, xs, rfl, upd_same, seqv_same (same_upd ha) hy, fun H' w s t ix => ⟨rfl, k a H' w ha (same_of1 ha s) t ix⟩⟩⟩
theorem rd_i3 (k : ∀ a H', H a = none → Same H H' → IsX H' a C [(h3, z), (g, y), (f, x)] → Q a H') : ([x, y, z] : List V).length ≤ 1000 ∧ ∀ a, H a = none → sI3 C f g h3 (.ref a :: [x, y, z]) (upd H a (exo a C none)) (fun v H2 => v = .non ∧ Q a H2) (fun _ _ _ => False) :=
  ⟨(by show 3 ≤ 1000; decide), fun a ha => ⟨a, x, y, z, rfl, upd_same, fun H' s ix => ⟨rfl, k a H' ha (same_of1 ha s) ix⟩⟩⟩
end
/-! ### _law_kinds, _law_bases, _law_plain, _law_told -/
def bit (k j : Nat) : V := .bl (decide (j = k))
def spKinds (K : PySem.W.Frag) : Sp := fun vs H Q _ => ∃ (a : Addr) (k : Nat) (fs : List (Str × V)), vs = [.ref a] ∧ k < 34 ∧ IsX H a (ad K k) fs ∧ ∀ p H', Same H H' → H' p = some (.lst ((List.range 34).map (bit k))) → Q (.ref p) H'
def spBases (K : PySem.W.Frag) : Sp := fun vs H Q _ => ∃ (a : Addr) (k : Nat) (fs : List (Str × V)), vs = [.ref a] ∧ k < 34 ∧ IsX H a (ad K k) fs ∧ ∀ p H', Same H H' → H' p = some (.lst [.bl (decide (k < 31)), .bl (decide (k < 31)), .bl (decide (31 ≤ k)), .bl (decide (31 ≤ k))]) → Q (.ref p) H'
def spPlain (K : PySem.W.Frag) : Sp := fun vs H Q _ => vs = [] ∧ ∀ p as H', Same H H' → H' p = some (.lst (as.map V.ref)) → XS K H' 0 as (List.replicate 14 []) → Q (.ref p) H'
def fsL (w n sm t5 t7 t8 t14 t15 t16 : V) : List (List (Str × V)) := [[("name", w)], [("name", w)], [("name", w)], [("name", w)], [("name", w)], [("members", t5), ("word", w)], [("number", n)], [("members", t7)], [("path", t8)], [("place", n)], [("number", n)], [("number", n)], [("number", n)],
  [("member", sm), ("word", n), ("name", w)], [("pair", t14), ("name", w)], [("members", t15)], [("spots", t16)], [("name", w)], [("name", w)], [("number", n)]]
def spTold (K : PySem.W.Frag) : Sp := fun vs H Q _ => ∃ (w n sm : V) (xs : List V), vs = [w, n, sm] ∧ SeqV K H sm xs ∧ ∀ p as H' t5 t7 t8 t14 t15 t16, Same H H' → H' p = some (.lst (as.map V.ref)) → XS K H' 14 as (fsL w n sm t5 t7 t8 t14 t15 t16) →
  TupV K H' t5 xs → TupV K H' t7 xs → TupV K H' t8 xs → TupV K H' t14 xs → TupV K H' t15 xs → TupV K H' t16 xs → Q (.ref p) H'
theorem szl {n : Nat} (h : n ≤ 1000) : n ≤ sizeLine := Nat.le_of_lt (small1000 h)
section
variable {P : Program} {w : World} {K : PySem.W.Frag} {mg : Str → Option Value} {base : Heap} {f : Addr} {fd : FuncData}
theorem scK : FnScope ["_law_e", "_law_found"] ["_law_e"] (defScope (top 40)) := ⟨rfl, rfl, rfl, by decide +kernel, rfl, by decide +kernel, by decide +kernel⟩
theorem scB : FnScope ["_law_e", "_law_found"] ["_law_e"] (defScope (top 41)) := ⟨rfl, rfl, rfl, by decide +kernel, rfl, by decide +kernel, by decide +kernel⟩
theorem scPl : FnScope ["_law_found"] [] (defScope (top 42)) := ⟨rfl, rfl, rfl, by decide +kernel, rfl, by decide +kernel, by decide +kernel⟩
theorem scT : FnScope ["_law_word", "_law_number", "_law_some", "_law_found"] ["_law_word", "_law_number", "_law_some"] (defScope (top 43)) := ⟨rfl, rfl, rfl, by decide +kernel, rfl, by decide +kernel, by decide +kernel⟩
theorem bits_app {k m n : Nat} {zs : List V} (h : zs = (List.range n).map fun i => bit k (m + i)) : (List.range m).map (bit k) ++ zs = (List.range (m + n)).map (bit k) := by
  rw [h, List.range_add, List.map_append, List.map_map]
  rfl
theorem ok_kinds (F : FnP K "_law_kinds" (top 40) f fd) (Y : Fx K mg) : FnOk P w K mg base CX0 1 f fd ["_law_e"] (spKinds K) := by
  refine okD F scK (fun vs H Q E h => ?_) (fun cdv A outer s H vs Q E hr h => ?_)
  · obtain ⟨a, k, fs, rfl, _⟩ := h
    rfl
  · have nd := scK.nd
    obtain ⟨a, k, fs, rfl, hk, hx, ret⟩ := h
    refine ⟨_, (pss_cons (ps_set (i := 1) nd rfl (Or.inl rfl) (pe_lst (pa_cons (pe_callB (call_isX Y.oc) (by rfl) Y.bl.isi boot_isinstance (pa_cons (pv 0) (pa_cons (pe_glob (v := .ref (ad K 0)) (by rfl) (Y.g 0 _ rfl) rfl) pa_nil))) (pa_cons (pe_callB (call_isX Y.oc) (by rfl) Y.bl.isi boot_isinstance (pa_cons (pv 0) (pa_cons (pe_glob (v := .ref (ad K 1)) (by rfl) (Y.g 1 _ rfl) rfl) pa_nil))) (pa_cons (pe_callB (call_isX Y.oc) (by rfl) Y.bl.isi boot_isinstance (pa_cons (pv 0) (pa_cons (pe_glob (v := .ref (ad K 2)) (by rfl) (Y.g 2 _ rfl) rfl) pa_nil))) (pa_cons (pe_callB (call_isX Y.oc) (by rfl) Y.bl.isi boot_isinstance (pa_cons (pv 0) (pa_cons (pe_glob (v := .ref (ad K 3)) (by rfl) (Y.g 3 _ rfl) rfl) pa_nil))) pa_nil))))))
      (pss_cons (ps_set (i := 1) nd rfl (Or.inl rfl) (pe_op op_cat (pv 1) (pe_lst (pa_cons (pe_callB (call_isX Y.oc) (by rfl) Y.bl.isi boot_isinstance (pa_cons (pv 0) (pa_cons (pe_glob (v := .ref (ad K 4)) (by rfl) (Y.g 4 _ rfl) rfl) pa_nil))) (pa_cons (pe_callB (call_isX Y.oc) (by rfl) Y.bl.isi boot_isinstance (pa_cons (pv 0) (pa_cons (pe_glob (v := .ref (ad K 5)) (by rfl) (Y.g 5 _ rfl) rfl) pa_nil))) (pa_cons (pe_callB (call_isX Y.oc) (by rfl) Y.bl.isi boot_isinstance (pa_cons (pv 0) (pa_cons (pe_glob (v := .ref (ad K 6)) (by rfl) (Y.g 6 _ rfl) rfl) pa_nil))) pa_nil))))))
      (pss_cons (ps_set (i := 1) nd rfl (Or.inl rfl) (pe_op op_cat (pv 1) (pe_lst (pa_cons (pe_callB (call_isX Y.oc) (by rfl) Y.bl.isi boot_isinstance (pa_cons (pv 0) (pa_cons (pe_glob (v := .ref (ad K 7)) (by rfl) (Y.g 7 _ rfl) rfl) pa_nil))) (pa_cons (pe_callB (call_isX Y.oc) (by rfl) Y.bl.isi boot_isinstance (pa_cons (pv 0) (pa_cons (pe_glob (v := .ref (ad K 8)) (by rfl) (Y.g 8 _ rfl) rfl) pa_nil))) (pa_cons (pe_callB (call_isX Y.oc) (by rfl) Y.bl.isi boot_isinstance (pa_cons (pv 0) (pa_cons (pe_glob (v := .ref (ad K 9)) (by rfl) (Y.g 9 _ rfl) rfl) pa_nil))) pa_nil))))))
      (pss_cons (ps_set (i := 1) nd rfl (Or.inl rfl) (pe_op op_cat (pv 1) (pe_lst (pa_cons (pe_callB (call_isX Y.oc) (by rfl) Y.bl.isi boot_isinstance (pa_cons (pv 0) (pa_cons (pe_glob (v := .ref (ad K 10)) (by rfl) (Y.g 10 _ rfl) rfl) pa_nil))) (pa_cons (pe_callB (call_isX Y.oc) (by rfl) Y.bl.isi boot_isinstance (pa_cons (pv 0) (pa_cons (pe_glob (v := .ref (ad K 11)) (by rfl) (Y.g 11 _ rfl) rfl) pa_nil))) (pa_cons (pe_callB (call_isX Y.oc) (by rfl) Y.bl.isi boot_isinstance (pa_cons (pv 0) (pa_cons (pe_glob (v := .ref (ad K 12)) (by rfl) (Y.g 12 _ rfl) rfl) pa_nil))) pa_nil))))))
      (pss_cons (ps_set (i := 1) nd rfl (Or.inl rfl) (pe_op op_cat (pv 1) (pe_lst (pa_cons (pe_callB (call_isX Y.oc) (by rfl) Y.bl.isi boot_isinstance (pa_cons (pv 0) (pa_cons (pe_glob (v := .ref (ad K 13)) (by rfl) (Y.g 13 _ rfl) rfl) pa_nil))) pa_nil))))
      (pss_cons (ps_set (i := 1) nd rfl (Or.inl rfl) (pe_op op_cat (pv 1) (pe_lst (pa_cons (pe_callB (call_isX Y.oc) (by rfl) Y.bl.isi boot_isinstance (pa_cons (pv 0) (pa_cons (pe_glob (v := .ref (ad K 14)) (by rfl) (Y.g 14 _ rfl) rfl) pa_nil))) (pa_cons (pe_callB (call_isX Y.oc) (by rfl) Y.bl.isi boot_isinstance (pa_cons (pv 0) (pa_cons (pe_glob (v := .ref (ad K 15)) (by rfl) (Y.g 15 _ rfl) rfl) pa_nil))) (pa_cons (pe_callB (call_isX Y.oc) (by rfl) Y.bl.isi boot_isinstance (pa_cons (pv 0) (pa_cons (pe_glob (v := .ref (ad K 16)) (by rfl) (Y.g 16 _ rfl) rfl) pa_nil))) pa_nil))))))
      (pss_cons (ps_set (i := 1) nd rfl (Or.inl rfl) (pe_op op_cat (pv 1) (pe_lst (pa_cons (pe_callB (call_isX Y.oc) (by rfl) Y.bl.isi boot_isinstance (pa_cons (pv 0) (pa_cons (pe_glob (v := .ref (ad K 17)) (by rfl) (Y.g 17 _ rfl) rfl) pa_nil))) (pa_cons (pe_callB (call_isX Y.oc) (by rfl) Y.bl.isi boot_isinstance (pa_cons (pv 0) (pa_cons (pe_glob (v := .ref (ad K 18)) (by rfl) (Y.g 18 _ rfl) rfl) pa_nil))) (pa_cons (pe_callB (call_isX Y.oc) (by rfl) Y.bl.isi boot_isinstance (pa_cons (pv 0) (pa_cons (pe_glob (v := .ref (ad K 19)) (by rfl) (Y.g 19 _ rfl) rfl) pa_nil))) pa_nil))))))
      (pss_cons (ps_set (i := 1) nd rfl (Or.inl rfl) (pe_op op_cat (pv 1) (pe_lst (pa_cons (pe_callB (call_isX Y.oc) (by rfl) Y.bl.isi boot_isinstance (pa_cons (pv 0) (pa_cons (pe_glob (v := .ref (ad K 20)) (by rfl) (Y.g 20 _ rfl) rfl) pa_nil))) (pa_cons (pe_callB (call_isX Y.oc) (by rfl) Y.bl.isi boot_isinstance (pa_cons (pv 0) (pa_cons (pe_glob (v := .ref (ad K 21)) (by rfl) (Y.g 21 _ rfl) rfl) pa_nil))) (pa_cons (pe_callB (call_isX Y.oc) (by rfl) Y.bl.isi boot_isinstance (pa_cons (pv 0) (pa_cons (pe_glob (v := .ref (ad K 22)) (by rfl) (Y.g 22 _ rfl) rfl) pa_nil))) (pa_cons (pe_callB (call_isX Y.oc) (by rfl) Y.bl.isi boot_isinstance (pa_cons (pv 0) (pa_cons (pe_glob (v := .ref (ad K 23)) (by rfl) (Y.g 23 _ rfl) rfl) pa_nil))) pa_nil)))))))
      (pss_cons (ps_set (i := 1) nd rfl (Or.inl rfl) (pe_op op_cat (pv 1) (pe_lst (pa_cons (pe_callB (call_isX Y.oc) (by rfl) Y.bl.isi boot_isinstance (pa_cons (pv 0) (pa_cons (pe_glob (v := .ref (ad K 24)) (by rfl) (Y.g 24 _ rfl) rfl) pa_nil))) (pa_cons (pe_callB (call_isX Y.oc) (by rfl) Y.bl.isi boot_isinstance (pa_cons (pv 0) (pa_cons (pe_glob (v := .ref (ad K 25)) (by rfl) (Y.g 25 _ rfl) rfl) pa_nil))) (pa_cons (pe_callB (call_isX Y.oc) (by rfl) Y.bl.isi boot_isinstance (pa_cons (pv 0) (pa_cons (pe_glob (v := .ref (ad K 26)) (by rfl) (Y.g 26 _ rfl) rfl) pa_nil))) pa_nil))))))
      (pss_cons (ps_set (i := 1) nd rfl (Or.inl rfl) (pe_op op_cat (pv 1) (pe_lst (pa_cons (pe_callB (call_isX Y.oc) (by rfl) Y.bl.isi boot_isinstance (pa_cons (pv 0) (pa_cons (pe_glob (v := .ref (ad K 27)) (by rfl) (Y.g 27 _ rfl) rfl) pa_nil))) (pa_cons (pe_callB (call_isX Y.oc) (by rfl) Y.bl.isi boot_isinstance (pa_cons (pv 0) (pa_cons (pe_glob (v := .ref (ad K 28)) (by rfl) (Y.g 28 _ rfl) rfl) pa_nil))) (pa_cons (pe_callB (call_isX Y.oc) (by rfl) Y.bl.isi boot_isinstance (pa_cons (pv 0) (pa_cons (pe_glob (v := .ref (ad K 29)) (by rfl) (Y.g 29 _ rfl) rfl) pa_nil))) (pa_cons (pe_callB (call_isX Y.oc) (by rfl) Y.bl.isi boot_isinstance (pa_cons (pv 0) (pa_cons (pe_glob (v := .ref (ad K 30)) (by rfl) (Y.g 30 _ rfl) rfl) pa_nil))) pa_nil)))))))
      (pss_one (ps_ret (pe_op op_cat (pv 1) (pe_lst (pa_cons (pe_callB (call_isX Y.oc) (by rfl) Y.bl.isi boot_isinstance (pa_cons (pv 0) (pa_cons (pe_glob (v := .ref (ad K 31)) (by rfl) (Y.g 31 _ rfl) rfl) pa_nil))) (pa_cons (pe_callB (call_isX Y.oc) (by rfl) Y.bl.isi boot_isinstance (pa_cons (pv 0) (pa_cons (pe_glob (v := .ref (ad K 32)) (by rfl) (Y.g 32 _ rfl) rfl) pa_nil))) (pa_cons (pe_callB (call_isX Y.oc) (by rfl) Y.bl.isi boot_isinstance (pa_cons (pv 0) (pa_cons (pe_glob (v := .ref (ad K 33)) (by rfl) (Y.g 33 _ rfl) rfl) pa_nil))) pa_nil))))))))))))))))), ?_⟩
    have s := Same.refl H
    refine ⟨_, rfl, a, ad K k, fs, _, _, _, rfl, hx, Y.ec hk, .own _, Y.kit (j := 0) hk (by decide), _, rfl, a, ad K k, fs, _, _, _, rfl, hx, Y.ec hk, .own _, Y.kit (j := 1) hk (by decide), _, rfl, a, ad K k, fs, _, _, _, rfl, hx, Y.ec hk, .own _, Y.kit (j := 2) hk (by decide), _, rfl, a, ad K k, fs, _, _, _, rfl, hx, Y.ec hk, .own _, Y.kit (j := 3) hk (by decide), szl (by show 4 ≤ 1000; decide), fun q hq => ?_⟩
    obtain ⟨G, hG⟩ : ∃ G, G = upd H q (.lst [.bl (decide (0 = k)), .bl (decide (1 = k)), .bl (decide (2 = k)), .bl (decide (3 = k))]) := ⟨_, rfl⟩
    rw [← hG]
    have s : Same H G := by rw [hG]; exact same_upd hq
    have hf : G q = some (.lst ((List.range 4).map (bit k))) := by rw [hG]; exact upd_same
    replace hx := isx_same s hx
    clear hG hq
    refine ⟨_, rfl, _, rfl, a, ad K k, fs, _, _, _, rfl, hx, Y.ec hk, .own _, Y.kit (j := 4) hk (by decide), _, rfl, a, ad K k, fs, _, _, _, rfl, hx, Y.ec hk, .own _, Y.kit (j := 5) hk (by decide), _, rfl, a, ad K k, fs, _, _, _, rfl, hx, Y.ec hk, .own _, Y.kit (j := 6) hk (by decide), szl (by show 3 ≤ 1000; decide), fun p1 hp => ⟨_, p1, _, _, rfl, rfl, same_upd hp _ _ hf, upd_same, szl (by rw [List.length_map, List.length_range]; show 4 + 3 ≤ 1000; decide), fun q1 hq => ?_⟩⟩
    rw [bits_app (m := 4) (n := 3) (k := k) (zs := [.bl (decide (4 = k)), .bl (decide (5 = k)), .bl (decide (6 = k))]) rfl]
    have sq : Same G (upd (upd G p1 (.lst [.bl (decide (4 = k)), .bl (decide (5 = k)), .bl (decide (6 = k))])) q1 (.lst ((List.range 7).map (bit k)))) := Same.trans (same_upd hp) (same_upd hq)
    obtain ⟨G1, hG⟩ : ∃ Z, Z = upd (upd G p1 (.lst [.bl (decide (4 = k)), .bl (decide (5 = k)), .bl (decide (6 = k))])) q1 (.lst ((List.range 7).map (bit k))) := ⟨_, rfl⟩
    rw [← hG] at sq ⊢
    replace hf : G1 q1 = some (.lst ((List.range 7).map (bit k))) := by rw [hG]; exact upd_same
    replace hx := isx_same sq hx
    replace s := Same.trans s sq
    clear hG hp hq sq
    refine ⟨_, rfl, _, rfl, a, ad K k, fs, _, _, _, rfl, hx, Y.ec hk, .own _, Y.kit (j := 7) hk (by decide), _, rfl, a, ad K k, fs, _, _, _, rfl, hx, Y.ec hk, .own _, Y.kit (j := 8) hk (by decide), _, rfl, a, ad K k, fs, _, _, _, rfl, hx, Y.ec hk, .own _, Y.kit (j := 9) hk (by decide), szl (by show 3 ≤ 1000; decide), fun p2 hp => ⟨_, p2, _, _, rfl, rfl, same_upd hp _ _ hf, upd_same, szl (by rw [List.length_map, List.length_range]; show 7 + 3 ≤ 1000; decide), fun q2 hq => ?_⟩⟩
    rw [bits_app (m := 7) (n := 3) (k := k) (zs := [.bl (decide (7 = k)), .bl (decide (8 = k)), .bl (decide (9 = k))]) rfl]
    have sq : Same G1 (upd (upd G1 p2 (.lst [.bl (decide (7 = k)), .bl (decide (8 = k)), .bl (decide (9 = k))])) q2 (.lst ((List.range 10).map (bit k)))) := Same.trans (same_upd hp) (same_upd hq)
    obtain ⟨G2, hG⟩ : ∃ Z, Z = upd (upd G1 p2 (.lst [.bl (decide (7 = k)), .bl (decide (8 = k)), .bl (decide (9 = k))])) q2 (.lst ((List.range 10).map (bit k))) := ⟨_, rfl⟩
    rw [← hG] at sq ⊢
    replace hf : G2 q2 = some (.lst ((List.range 10).map (bit k))) := by rw [hG]; exact upd_same
    replace hx := isx_same sq hx
    replace s := Same.trans s sq
    clear hG hp hq sq
    refine ⟨_, rfl, _, rfl, a, ad K k, fs, _, _, _, rfl, hx, Y.ec hk, .own _, Y.kit (j := 10) hk (by decide), _, rfl, a, ad K k, fs, _, _, _, rfl, hx, Y.ec hk, .own _, Y.kit (j := 11) hk (by decide), _, rfl, a, ad K k, fs, _, _, _, rfl, hx, Y.ec hk, .own _, Y.kit (j := 12) hk (by decide), szl (by show 3 ≤ 1000; decide), fun p3 hp => ⟨_, p3, _, _, rfl, rfl, same_upd hp _ _ hf, upd_same, szl (by rw [List.length_map, List.length_range]; show 10 + 3 ≤ 1000; decide), fun q3 hq => ?_⟩⟩
    rw [bits_app (m := 10) (n := 3) (k := k) (zs := [.bl (decide (10 = k)), .bl (decide (11 = k)), .bl (decide (12 = k))]) rfl]
    have sq : Same G2 (upd (upd G2 p3 (.lst [.bl (decide (10 = k)), .bl (decide (11 = k)), .bl (decide (12 = k))])) q3 (.lst ((List.range 13).map (bit k)))) := Same.trans (same_upd hp) (same_upd hq)
    obtain ⟨G3, hG⟩ : ∃ Z, Z = upd (upd G2 p3 (.lst [.bl (decide (10 = k)), .bl (decide (11 = k)), .bl (decide (12 = k))])) q3 (.lst ((List.range 13).map (bit k))) := ⟨_, rfl⟩
    rw [← hG] at sq ⊢
    replace hf : G3 q3 = some (.lst ((List.range 13).map (bit k))) := by rw [hG]; exact upd_same
    replace hx := isx_same sq hx
    replace s := Same.trans s sq
    clear hG hp hq sq
    refine ⟨_, rfl, _, rfl, a, ad K k, fs, _, _, _, rfl, hx, Y.ec hk, .own _, Y.kit (j := 13) hk (by decide), szl (by show 1 ≤ 1000; decide), fun p4 hp => ⟨_, p4, _, _, rfl, rfl, same_upd hp _ _ hf, upd_same, szl (by rw [List.length_map, List.length_range]; show 13 + 1 ≤ 1000; decide), fun q4 hq => ?_⟩⟩
    rw [bits_app (m := 13) (n := 1) (k := k) (zs := [.bl (decide (13 = k))]) rfl]
    have sq : Same G3 (upd (upd G3 p4 (.lst [.bl (decide (13 = k))])) q4 (.lst ((List.range 14).map (bit k)))) := Same.trans (same_upd hp) (same_upd hq)
    obtain ⟨G4, hG⟩ : ∃ Z, Z = upd (upd G3 p4 (.lst [.bl (decide (13 = k))])) q4 (.lst ((List.range 14).map (bit k))) := ⟨_, rfl⟩
    rw [← hG] at sq ⊢
    replace hf : G4 q4 = some (.lst ((List.range 14).map (bit k))) := by rw [hG]; exact upd_same
    replace hx := isx_same sq hx
    replace s := Same.trans s sq
    clear hG hp hq sq
    refine ⟨_, rfl, _, rfl, a, ad K k, fs, _, _, _, rfl, hx, Y.ec hk, .own _, Y.kit (j := 14) hk (by decide), _, rfl, a, ad K k, fs, _, _, _, rfl, hx, Y.ec hk, .own _, Y.kit (j := 15) hk (by decide), _, rfl, a, ad K k, fs, _, _, _, rfl, hx, Y.ec hk, .own _, Y.kit (j := 16) hk (by decide), szl (by show 3 ≤ 1000; decide), fun p5 hp => ⟨_, p5, _, _, rfl, rfl, same_upd hp _ _ hf, upd_same, szl (by rw [List.length_map, List.length_range]; show 14 + 3 ≤ 1000; decide), fun q5 hq => ?_⟩⟩
    rw [bits_app (m := 14) (n := 3) (k := k) (zs := [.bl (decide (14 = k)), .bl (decide (15 = k)), .bl (decide (16 = k))]) rfl]
    have sq : Same G4 (upd (upd G4 p5 (.lst [.bl (decide (14 = k)), .bl (decide (15 = k)), .bl (decide (16 = k))])) q5 (.lst ((List.range 17).map (bit k)))) := Same.trans (same_upd hp) (same_upd hq)
    obtain ⟨G5, hG⟩ : ∃ Z, Z = upd (upd G4 p5 (.lst [.bl (decide (14 = k)), .bl (decide (15 = k)), .bl (decide (16 = k))])) q5 (.lst ((List.range 17).map (bit k))) := ⟨_, rfl⟩
    rw [← hG] at sq ⊢
    replace hf : G5 q5 = some (.lst ((List.range 17).map (bit k))) := by rw [hG]; exact upd_same
    replace hx := isx_same sq hx
    replace s := Same.trans s sq
    clear hG hp hq sq
    refine ⟨_, rfl, _, rfl, a, ad K k, fs, _, _, _, rfl, hx, Y.ec hk, .own _, Y.kit (j := 17) hk (by decide), _, rfl, a, ad K k, fs, _, _, _, rfl, hx, Y.ec hk, .own _, Y.kit (j := 18) hk (by decide), _, rfl, a, ad K k, fs, _, _, _, rfl, hx, Y.ec hk, .own _, Y.kit (j := 19) hk (by decide), szl (by show 3 ≤ 1000; decide), fun p6 hp => ⟨_, p6, _, _, rfl, rfl, same_upd hp _ _ hf, upd_same, szl (by rw [List.length_map, List.length_range]; show 17 + 3 ≤ 1000; decide), fun q6 hq => ?_⟩⟩
    rw [bits_app (m := 17) (n := 3) (k := k) (zs := [.bl (decide (17 = k)), .bl (decide (18 = k)), .bl (decide (19 = k))]) rfl]
    have sq : Same G5 (upd (upd G5 p6 (.lst [.bl (decide (17 = k)), .bl (decide (18 = k)), .bl (decide (19 = k))])) q6 (.lst ((List.range 20).map (bit k)))) := Same.trans (same_upd hp) (same_upd hq)
    obtain ⟨G6, hG⟩ : ∃ Z, Z = upd (upd G5 p6 (.lst [.bl (decide (17 = k)), .bl (decide (18 = k)), .bl (decide (19 = k))])) q6 (.lst ((List.range 20).map (bit k))) := ⟨_, rfl⟩
    rw [← hG] at sq ⊢
    replace hf : G6 q6 = some (.lst ((List.range 20).map (bit k))) := by rw [hG]; exact upd_same
    replace hx := isx_same sq hx
    replace s := Same.trans s sq
    clear hG hp hq sq
    refine ⟨_, rfl, _, rfl, a, ad K k, fs, _, _, _, rfl, hx, Y.ec hk, .own _, Y.kit (j := 20) hk (by decide), _, rfl, a, ad K k, fs, _, _, _, rfl, hx, Y.ec hk, .own _, Y.kit (j := 21) hk (by decide), _, rfl, a, ad K k, fs, _, _, _, rfl, hx, Y.ec hk, .own _, Y.kit (j := 22) hk (by decide), _, rfl, a, ad K k, fs, _, _, _, rfl, hx, Y.ec hk, .own _, Y.kit (j := 23) hk (by decide), szl (by show 4 ≤ 1000; decide), fun p7 hp => ⟨_, p7, _, _, rfl, rfl, same_upd hp _ _ hf, upd_same, szl (by rw [List.length_map, List.length_range]; show 20 + 4 ≤ 1000; decide), fun q7 hq => ?_⟩⟩
    rw [bits_app (m := 20) (n := 4) (k := k) (zs := [.bl (decide (20 = k)), .bl (decide (21 = k)), .bl (decide (22 = k)), .bl (decide (23 = k))]) rfl]
    have sq : Same G6 (upd (upd G6 p7 (.lst [.bl (decide (20 = k)), .bl (decide (21 = k)), .bl (decide (22 = k)), .bl (decide (23 = k))])) q7 (.lst ((List.range 24).map (bit k)))) := Same.trans (same_upd hp) (same_upd hq)
    obtain ⟨G7, hG⟩ : ∃ Z, Z = upd (upd G6 p7 (.lst [.bl (decide (20 = k)), .bl (decide (21 = k)), .bl (decide (22 = k)), .bl (decide (23 = k))])) q7 (.lst ((List.range 24).map (bit k))) := ⟨_, rfl⟩
    rw [← hG] at sq ⊢
    replace hf : G7 q7 = some (.lst ((List.range 24).map (bit k))) := by rw [hG]; exact upd_same
    replace hx := isx_same sq hx
    replace s := Same.trans s sq
    clear hG hp hq sq
    refine ⟨_, rfl, _, rfl, a, ad K k, fs, _, _, _, rfl, hx, Y.ec hk, .own _, Y.kit (j := 24) hk (by decide), _, rfl, a, ad K k, fs, _, _, _, rfl, hx, Y.ec hk, .own _, Y.kit (j := 25) hk (by decide), _, rfl, a, ad K k, fs, _, _, _, rfl, hx, Y.ec hk, .own _, Y.kit (j := 26) hk (by decide), szl (by show 3 ≤ 1000; decide), fun p8 hp => ⟨_, p8, _, _, rfl, rfl, same_upd hp _ _ hf, upd_same, szl (by rw [List.length_map, List.length_range]; show 24 + 3 ≤ 1000; decide), fun q8 hq => ?_⟩⟩
    rw [bits_app (m := 24) (n := 3) (k := k) (zs := [.bl (decide (24 = k)), .bl (decide (25 = k)), .bl (decide (26 = k))]) rfl]
    have sq : Same G7 (upd (upd G7 p8 (.lst [.bl (decide (24 = k)), .bl (decide (25 = k)), .bl (decide (26 = k))])) q8 (.lst ((List.range 27).map (bit k)))) := Same.trans (same_upd hp) (same_upd hq)
    obtain ⟨G8, hG⟩ : ∃ Z, Z = upd (upd G7 p8 (.lst [.bl (decide (24 = k)), .bl (decide (25 = k)), .bl (decide (26 = k))])) q8 (.lst ((List.range 27).map (bit k))) := ⟨_, rfl⟩
    rw [← hG] at sq ⊢
    replace hf : G8 q8 = some (.lst ((List.range 27).map (bit k))) := by rw [hG]; exact upd_same
    replace hx := isx_same sq hx
    replace s := Same.trans s sq
    clear hG hp hq sq
    refine ⟨_, rfl, _, rfl, a, ad K k, fs, _, _, _, rfl, hx, Y.ec hk, .own _, Y.kit (j := 27) hk (by decide), _, rfl, a, ad K k, fs, _, _, _, rfl, hx, Y.ec hk, .own _, Y.kit (j := 28) hk (by decide), _, rfl, a, ad K k, fs, _, _, _, rfl, hx, Y.ec hk, .own _, Y.kit (j := 29) hk (by decide), _, rfl, a, ad K k, fs, _, _, _, rfl, hx, Y.ec hk, .own _, Y.kit (j := 30) hk (by decide), szl (by show 4 ≤ 1000; decide), fun p9 hp => ⟨_, p9, _, _, rfl, rfl, same_upd hp _ _ hf, upd_same, szl (by rw [List.length_map, List.length_range]; show 27 + 4 ≤ 1000; decide), fun q9 hq => ?_⟩⟩
    rw [bits_app (m := 27) (n := 4) (k := k) (zs := [.bl (decide (27 = k)), .bl (decide (28 = k)), .bl (decide (29 = k)), .bl (decide (30 = k))]) rfl]
    have sq : Same G8 (upd (upd G8 p9 (.lst [.bl (decide (27 = k)), .bl (decide (28 = k)), .bl (decide (29 = k)), .bl (decide (30 = k))])) q9 (.lst ((List.range 31).map (bit k)))) := Same.trans (same_upd hp) (same_upd hq)
    obtain ⟨G9, hG⟩ : ∃ Z, Z = upd (upd G8 p9 (.lst [.bl (decide (27 = k)), .bl (decide (28 = k)), .bl (decide (29 = k)), .bl (decide (30 = k))])) q9 (.lst ((List.range 31).map (bit k))) := ⟨_, rfl⟩
    rw [← hG] at sq ⊢
    replace hf : G9 q9 = some (.lst ((List.range 31).map (bit k))) := by rw [hG]; exact upd_same
    replace hx := isx_same sq hx
    replace s := Same.trans s sq
    clear hG hp hq sq
    refine ⟨_, rfl, _, rfl, a, ad K k, fs, _, _, _, rfl, hx, Y.ec hk, .own _, Y.kit (j := 31) hk (by decide), _, rfl, a, ad K k, fs, _, _, _, rfl, hx, Y.ec hk, .own _, Y.kit (j := 32) hk (by decide), _, rfl, a, ad K k, fs, _, _, _, rfl, hx, Y.ec hk, .own _, Y.kit (j := 33) hk (by decide), szl (by show 3 ≤ 1000; decide), fun p10 hp => ⟨_, p10, _, _, rfl, rfl, same_upd hp _ _ hf, upd_same, szl (by rw [List.length_map, List.length_range]; show 31 + 3 ≤ 1000; decide), fun q10 hq => ?_⟩⟩
    rw [bits_app (m := 31) (n := 3) (k := k) (zs := [.bl (decide (31 = k)), .bl (decide (32 = k)), .bl (decide (33 = k))]) rfl]
    have sq : Same G9 (upd (upd G9 p10 (.lst [.bl (decide (31 = k)), .bl (decide (32 = k)), .bl (decide (33 = k))])) q10 (.lst ((List.range 34).map (bit k)))) := Same.trans (same_upd hp) (same_upd hq)
    exact ret q10 _ (Same.trans s sq) upd_same
theorem ok_bases (F : FnP K "_law_bases" (top 41) f fd) (Y : Fx K mg) : FnOk P w K mg base CX0 1 f fd ["_law_e"] (spBases K) := by
  refine okD F scB (fun vs H Q E h => ?_) (fun cdv A outer s H vs Q E hr h => ?_)
  · obtain ⟨a, k, fs, rfl, _⟩ := h
    rfl
  · have nd := scB.nd
    obtain ⟨a, k, fs, rfl, hk, hx, ret⟩ := h
    obtain ⟨b1, b2, b3, b4⟩ := Y.bas hk
    refine ⟨_, (pss_cons (ps_set (i := 1) nd rfl (Or.inl rfl) (pe_lst (pa_cons (pe_callB (call_isX Y.oc) (by rfl) Y.bl.isi boot_isinstance (pa_cons (pv 0) (pa_cons (pe_glob (v := .ref (He.ga K "PairError")) (by rfl) (Y.g 34 _ rfl) rfl) pa_nil))) (pa_cons (pe_callB (call_isX Y.oc) (by rfl) Y.bl.isi boot_isinstance (pa_cons (pv 0) (pa_cons (pe_bltn (v := .ty "ValueError") (by rfl) (Y.f 51 _ rfl) (by decide +kernel) rfl) pa_nil))) pa_nil))))
      (pss_one (ps_ret (pe_op op_cat (pv 1) (pe_lst (pa_cons (pe_callB (call_isX Y.oc) (by rfl) Y.bl.isi boot_isinstance (pa_cons (pv 0) (pa_cons (pe_glob (v := .ref (He.ga K "NameMissing")) (by rfl) (Y.g 35 _ rfl) rfl) pa_nil))) (pa_cons (pe_callB (call_isX Y.oc) (by rfl) Y.bl.isi boot_isinstance (pa_cons (pv 0) (pa_cons (pe_bltn (v := .ty "LookupError") (by rfl) (Y.f 52 _ rfl) (by decide +kernel) rfl) pa_nil))) pa_nil))))))), ?_⟩
    refine ⟨_, rfl, a, ad K k, fs, _, _, _, rfl, hx, Y.ec hk, .own _, b1, _, rfl, a, ad K k, fs, _, _, _, rfl, hx, Y.ec hk, .ty _, b2, szl (by show 2 ≤ 1000; decide), fun q0 hq0 => ?_⟩
    replace hx := isx_same (same_upd (o := .lst [.bl (decide (k < 31)), .bl (decide (k < 31))]) hq0) hx
    have s := same_upd (o := .lst [.bl (decide (k < 31)), .bl (decide (k < 31))]) hq0
    exact ⟨_, rfl, _, rfl, a, ad K k, fs, _, _, _, rfl, hx, Y.ec hk, .own _, b3, _, rfl, a, ad K k, fs, _, _, _, rfl, hx, Y.ec hk, .ty _, b4, szl (by show 2 ≤ 1000; decide), fun p1 hp1 => ⟨_, p1, _, _, rfl, rfl, same_upd hp1 _ _ upd_same, upd_same, szl (by show 2 + 2 ≤ 1000; decide), fun q1 hq1 => ret q1 _ (Same.trans s (Same.trans (same_upd (o := .lst [.bl (decide (31 ≤ k)), .bl (decide (31 ≤ k))]) hp1) (same_upd (o := .lst ([.bl (decide (k < 31)), .bl (decide (k < 31))] ++ [.bl (decide (31 ≤ k)), .bl (decide (31 ≤ k))])) hq1))) upd_same⟩⟩
theorem ok_plain (F : FnP K "_law_plain" (top 42) f fd) (Y : Fx K mg) : FnOk P w K mg base CX0 1 f fd [] (spPlain K) := by
  refine okD F scPl (fun vs H Q E h => ?_) (fun cdv A outer s H vs Q E hr h => ?_)
  · obtain ⟨rfl, _⟩ := h
    rfl
  · have nd := scPl.nd
    obtain ⟨rfl, ret⟩ := h
    refine ⟨_, (pss_cons (ps_set (i := 0) nd rfl (Or.inl rfl) (pe_lst (pa_cons (pe_exc0 PySem.F.excBase_ValueError (Y.pl (i := 0) (by decide)) (Y.g 0 _ rfl) (Y.ec (i := 0) (by decide)).kp (by rfl)) (pa_cons (pe_exc0 PySem.F.excBase_ValueError (Y.pl (i := 1) (by decide)) (Y.g 1 _ rfl) (Y.ec (i := 1) (by decide)).kp (by rfl)) (pa_cons (pe_exc0 PySem.F.excBase_ValueError (Y.pl (i := 2) (by decide)) (Y.g 2 _ rfl) (Y.ec (i := 2) (by decide)).kp (by rfl)) (pa_cons (pe_exc0 PySem.F.excBase_ValueError (Y.pl (i := 3) (by decide)) (Y.g 3 _ rfl) (Y.ec (i := 3) (by decide)).kp (by rfl)) (pa_cons (pe_exc0 PySem.F.excBase_ValueError (Y.pl (i := 4) (by decide)) (Y.g 4 _ rfl) (Y.ec (i := 4) (by decide)).kp (by rfl)) (pa_cons (pe_exc0 PySem.F.excBase_ValueError (Y.pl (i := 5) (by decide)) (Y.g 5 _ rfl) (Y.ec (i := 5) (by decide)).kp (by rfl)) (pa_cons (pe_exc0 PySem.F.excBase_ValueError (Y.pl (i := 6) (by decide)) (Y.g 6 _ rfl) (Y.ec (i := 6) (by decide)).kp (by rfl)) pa_nil)))))))))
      (pss_one (ps_ret (pe_op op_cat (pv 0) (pe_lst (pa_cons (pe_exc0 PySem.F.excBase_ValueError (Y.pl (i := 7) (by decide)) (Y.g 7 _ rfl) (Y.ec (i := 7) (by decide)).kp (by rfl)) (pa_cons (pe_exc0 PySem.F.excBase_ValueError (Y.pl (i := 8) (by decide)) (Y.g 8 _ rfl) (Y.ec (i := 8) (by decide)).kp (by rfl)) (pa_cons (pe_exc0 PySem.F.excBase_ValueError (Y.pl (i := 9) (by decide)) (Y.g 9 _ rfl) (Y.ec (i := 9) (by decide)).kp (by rfl)) (pa_cons (pe_exc0 PySem.F.excBase_ValueError (Y.pl (i := 10) (by decide)) (Y.g 10 _ rfl) (Y.ec (i := 10) (by decide)).kp (by rfl)) (pa_cons (pe_exc0 PySem.F.excBase_ValueError (Y.pl (i := 11) (by decide)) (Y.g 11 _ rfl) (Y.ec (i := 11) (by decide)).kp (by rfl)) (pa_cons (pe_exc0 PySem.F.excBase_ValueError (Y.pl (i := 12) (by decide)) (Y.g 12 _ rfl) (Y.ec (i := 12) (by decide)).kp (by rfl)) (pa_cons (pe_exc0 PySem.F.excBase_ValueError (Y.pl (i := 13) (by decide)) (Y.g 13 _ rfl) (Y.ec (i := 13) (by decide)).kp (by rfl)) pa_nil)))))))))))), ?_⟩
    have s := Same.refl H
    have x : XN K H 0 0 [] [] := XN.nil
    refine fun a0 h0 => ?_
    replace x := XN.snoc (XN.same (same_upd h0) x) (.inl ⟨upd_same, rfl⟩)
    replace s := Same.trans s (same_upd (o := exo a0 (ad K 0) none) h0)
    refine fun a1 h1 => ?_
    replace x := XN.snoc (XN.same (same_upd h1) x) (.inl ⟨upd_same, rfl⟩)
    replace s := Same.trans s (same_upd (o := exo a1 (ad K 1) none) h1)
    refine fun a2 h2 => ?_
    replace x := XN.snoc (XN.same (same_upd h2) x) (.inl ⟨upd_same, rfl⟩)
    replace s := Same.trans s (same_upd (o := exo a2 (ad K 2) none) h2)
    refine fun a3 h3 => ?_
    replace x := XN.snoc (XN.same (same_upd h3) x) (.inl ⟨upd_same, rfl⟩)
    replace s := Same.trans s (same_upd (o := exo a3 (ad K 3) none) h3)
    refine fun a4 h4 => ?_
    replace x := XN.snoc (XN.same (same_upd h4) x) (.inl ⟨upd_same, rfl⟩)
    replace s := Same.trans s (same_upd (o := exo a4 (ad K 4) none) h4)
    refine fun a5 h5 => ?_
    replace x := XN.snoc (XN.same (same_upd h5) x) (.inl ⟨upd_same, rfl⟩)
    replace s := Same.trans s (same_upd (o := exo a5 (ad K 5) none) h5)
    refine fun a6 h6 => ?_
    replace x := XN.snoc (XN.same (same_upd h6) x) (.inl ⟨upd_same, rfl⟩)
    replace s := Same.trans s (same_upd (o := exo a6 (ad K 6) none) h6)
    refine ⟨szl (by show 7 ≤ 1000; decide), fun q hq => ?_⟩
    replace x := XN.same (same_upd (o := .lst [.ref a0, .ref a1, .ref a2, .ref a3, .ref a4, .ref a5, .ref a6]) hq) x
    replace s := Same.trans s (same_upd (o := .lst [.ref a0, .ref a1, .ref a2, .ref a3, .ref a4, .ref a5, .ref a6]) hq)
    refine ⟨_, rfl, ?_⟩
    refine fun a7 h7 => ?_
    replace x := XN.snoc (XN.same (same_upd h7) x) (.inl ⟨upd_same, rfl⟩)
    replace s := Same.trans s (same_upd (o := exo a7 (ad K 7) none) h7)
    refine fun a8 h8 => ?_
    replace x := XN.snoc (XN.same (same_upd h8) x) (.inl ⟨upd_same, rfl⟩)
    replace s := Same.trans s (same_upd (o := exo a8 (ad K 8) none) h8)
    refine fun a9 h9 => ?_
    replace x := XN.snoc (XN.same (same_upd h9) x) (.inl ⟨upd_same, rfl⟩)
    replace s := Same.trans s (same_upd (o := exo a9 (ad K 9) none) h9)
    refine fun a10 h10 => ?_
    replace x := XN.snoc (XN.same (same_upd h10) x) (.inl ⟨upd_same, rfl⟩)
    replace s := Same.trans s (same_upd (o := exo a10 (ad K 10) none) h10)
    refine fun a11 h11 => ?_
    replace x := XN.snoc (XN.same (same_upd h11) x) (.inl ⟨upd_same, rfl⟩)
    replace s := Same.trans s (same_upd (o := exo a11 (ad K 11) none) h11)
    refine fun a12 h12 => ?_
    replace x := XN.snoc (XN.same (same_upd h12) x) (.inl ⟨upd_same, rfl⟩)
    replace s := Same.trans s (same_upd (o := exo a12 (ad K 12) none) h12)
    refine fun a13 h13 => ?_
    replace x := XN.snoc (XN.same (same_upd h13) x) (.inl ⟨upd_same, rfl⟩)
    replace s := Same.trans s (same_upd (o := exo a13 (ad K 13) none) h13)
    refine ⟨szl (by show 7 ≤ 1000; decide), fun p hp => ⟨q, p, _, _, rfl, rfl, same_upd hp _ _ (same_upd h13 _ _ (same_upd h12 _ _ (same_upd h11 _ _ (same_upd h10 _ _ (same_upd h9 _ _ (same_upd h8 _ _ (same_upd h7 _ _ upd_same))))))), upd_same, szl (by show 14 ≤ 1000; decide), fun p2 hp2 => ?_⟩⟩
    exact ret p2 _ _ (Same.trans s (Same.trans (same_upd hp) (same_upd hp2))) upd_same (XN.same (Same.trans (same_upd hp) (same_upd hp2)) x).x
theorem ok_told (F : FnP K "_law_told" (top 43) f fd) (Y : Fx K mg) : FnOk P w K mg base CX0 3 f fd ["_law_word", "_law_number", "_law_some"] (spTold K) := by
  refine okD F scT (fun vs H Q E h => ?_) (fun cdv A outer s H vs Q E hr h => ?_)
  · obtain ⟨w, n, sm, xs, rfl, _⟩ := h
    rfl
  · have nd := scT.nd
    have hr2 : Room 2 _ := hr
    obtain ⟨w, n, sm, xs, rfl, hs, ret⟩ := h
    refine ⟨_, (pss_cons (ps_set (i := 3) nd rfl (Or.inl rfl) (pe_lst (pa_cons (pe_mk (mk_BadName Y) hr2 (by rfl) (Y.g 14 _ rfl) (pa_cons (pv 0) pa_nil)) (pa_cons (pe_mk (mk_TwiceTold Y) hr2 (by rfl) (Y.g 15 _ rfl) (pa_cons (pv 0) pa_nil)) (pa_cons (pe_mk (mk_BadFrame Y) hr2 (by rfl) (Y.g 16 _ rfl) (pa_cons (pv 0) pa_nil)) (pa_cons (pe_mk (mk_BadWorld Y) hr2 (by rfl) (Y.g 17 _ rfl) (pa_cons (pv 0) pa_nil)) (pa_cons (pe_mk (mk_NotFree Y) hr2 (by rfl) (Y.g 18 _ rfl) (pa_cons (pv 0) pa_nil)) pa_nil)))))))
      (pss_cons (ps_set (i := 3) nd rfl (Or.inl rfl) (pe_op op_cat (pv 3) (pe_lst (pa_cons (pe_mk (mk_NotOfKind Y) hr2 (by rfl) (Y.g 19 _ rfl) (pa_cons (pv 0) (pa_cons (pv 2) pa_nil))) (pa_cons (pe_mk (mk_BadPlan Y) hr2 (by rfl) (Y.g 20 _ rfl) (pa_cons (pv 1) pa_nil)) (pa_cons (pe_mk (mk_ComesRound Y) hr2 (by rfl) (Y.g 21 _ rfl) (pa_cons (pv 2) pa_nil)) (pa_cons (pe_mk (mk_BadTerm Y) hr2 (by rfl) (Y.g 22 _ rfl) (pa_cons (pv 2) pa_nil)) (pa_cons (pe_mk (mk_BadText Y) hr2 (by rfl) (Y.g 23 _ rfl) (pa_cons (pv 1) pa_nil)) pa_nil))))))))
      (pss_cons (ps_set (i := 3) nd rfl (Or.inl rfl) (pe_op op_cat (pv 3) (pe_lst (pa_cons (pe_mk (mk_NotKept Y) hr2 (by rfl) (Y.g 24 _ rfl) (pa_cons (pv 1) pa_nil)) (pa_cons (pe_mk (mk_NotFlat Y) hr2 (by rfl) (Y.g 25 _ rfl) (pa_cons (pv 1) pa_nil)) (pa_cons (pe_mk (mk_MixedEnds Y) hr2 (by rfl) (Y.g 26 _ rfl) (pa_cons (pv 1) pa_nil)) (pa_cons (pe_mk (mk_NotTotal Y) hr2 (by rfl) (Y.g 27 _ rfl) (pa_cons (pv 0) (pa_cons (pv 1) (pa_cons (pv 2) pa_nil)))) pa_nil)))))))
      (pss_cons (ps_set (i := 3) nd rfl (Or.inl rfl) (pe_op op_cat (pv 3) (pe_lst (pa_cons (pe_mk (mk_NotLed Y) hr2 (by rfl) (Y.g 28 _ rfl) (pa_cons (pv 0) (pa_cons (pv 2) pa_nil))) (pa_cons (pe_mk (mk_Broken Y) hr2 (by rfl) (Y.g 29 _ rfl) (pa_cons (pv 2) pa_nil)) (pa_cons (pe_mk (mk_Clash Y) hr2 (by rfl) (Y.g 30 _ rfl) (pa_cons (pv 2) pa_nil)) pa_nil))))))
      (pss_one (ps_ret (pe_op op_cat (pv 3) (pe_lst (pa_cons (pe_mk (mk_UnknownName Y) hr2 (by rfl) (Y.g 31 _ rfl) (pa_cons (pv 0) pa_nil)) (pa_cons (pe_mk (mk_NotTold Y) hr2 (by rfl) (Y.g 32 _ rfl) (pa_cons (pv 0) pa_nil)) (pa_cons (pe_mk (mk_NoState Y) hr2 (by rfl) (Y.g 33 _ rfl) (pa_cons (pv 1) pa_nil)) pa_nil))))))))))), ?_⟩
    have s := Same.refl H
    have x : XN K H 14 0 [] [] := XN.nil
    refine ⟨_, rfl, rd_i1 fun a14 H14 h14 s1 ix => ?_⟩
    replace x := XN.snoc (XN.same s1 x) ix
    replace s := Same.trans s s1
    refine ⟨_, rfl, rd_i1 fun a15 H15 h15 s1 ix => ?_⟩
    replace x := XN.snoc (XN.same s1 x) ix
    replace s := Same.trans s s1
    refine ⟨_, rfl, rd_i1 fun a16 H16 h16 s1 ix => ?_⟩
    replace x := XN.snoc (XN.same s1 x) ix
    replace s := Same.trans s s1
    refine ⟨_, rfl, rd_i1 fun a17 H17 h17 s1 ix => ?_⟩
    replace x := XN.snoc (XN.same s1 x) ix
    replace s := Same.trans s s1
    refine ⟨_, rfl, rd_i1 fun a18 H18 h18 s1 ix => ?_⟩
    replace x := XN.snoc (XN.same s1 x) ix
    replace s := Same.trans s s1
    refine ⟨szl (by show 5 ≤ 1000; decide), fun q hq => ?_⟩
    obtain ⟨G0, hG⟩ : ∃ G, G = upd H18 q (.lst [.ref a14, .ref a15, .ref a16, .ref a17, .ref a18]) := ⟨_, rfl⟩
    rw [← hG]
    have s1 : Same H18 G0 := by rw [hG]; exact same_upd hq
    have hf : G0 q = some (.lst [.ref a14, .ref a15, .ref a16, .ref a17, .ref a18]) := by rw [hG]; exact upd_same
    clear hG hq
    replace x := XN.same s1 x
    replace s := Same.trans s s1
    refine ⟨_, rfl, ?_⟩
    refine ⟨_, rfl, _, rfl, ?_⟩
    refine rd_it (K := K) (x := w) (y := sm) (f := "word") (g := "members") (C := ad K 19) (seqv_same s hs) fun a19 H19 t19 h19 s1 u19 ix => ?_
    replace x := XN.snoc (XN.same s1 x) ix
    replace s := Same.trans s s1
    replace hf := s1 _ _ hf
    refine ⟨_, rfl, rd_i1 fun a20 H20 h20 s1 ix => ?_⟩
    replace x := XN.snoc (XN.same s1 x) ix
    replace s := Same.trans s s1
    replace hf := s1 _ _ hf
    replace u19 := tup_same s1 u19
    refine ⟨_, rfl, rd_t1 (seqv_same s hs) fun a21 H21 t21 h21 s1 u21 ix => ?_⟩
    replace x := XN.snoc (XN.same s1 x) ix
    replace s := Same.trans s s1
    replace hf := s1 _ _ hf
    replace u19 := tup_same s1 u19
    refine ⟨_, rfl, rd_t1 (seqv_same s hs) fun a22 H22 t22 h22 s1 u22 ix => ?_⟩
    replace x := XN.snoc (XN.same s1 x) ix
    replace s := Same.trans s s1
    replace hf := s1 _ _ hf
    replace u19 := tup_same s1 u19
    replace u21 := tup_same s1 u21
    refine ⟨_, rfl, rd_i1 fun a23 H23 h23 s1 ix => ?_⟩
    replace x := XN.snoc (XN.same s1 x) ix
    replace s := Same.trans s s1
    replace hf := s1 _ _ hf
    replace u19 := tup_same s1 u19
    replace u21 := tup_same s1 u21
    replace u22 := tup_same s1 u22
    refine ⟨szl (by show 5 ≤ 1000; decide), fun p1 hp => ⟨_, p1, _, _, rfl, rfl, same_upd hp _ _ hf, upd_same, szl (by show 5 + 5 ≤ 1000; decide), fun q1 hq => ?_⟩⟩
    have sq : Same H23 (upd (upd H23 p1 (.lst [.ref a19, .ref a20, .ref a21, .ref a22, .ref a23])) q1 (.lst [.ref a14, .ref a15, .ref a16, .ref a17, .ref a18, .ref a19, .ref a20, .ref a21, .ref a22, .ref a23])) := Same.trans (same_upd hp) (same_upd hq)
    obtain ⟨G1, hG⟩ : ∃ Z, Z = upd (upd H23 p1 (.lst [.ref a19, .ref a20, .ref a21, .ref a22, .ref a23])) q1 (.lst [.ref a14, .ref a15, .ref a16, .ref a17, .ref a18, .ref a19, .ref a20, .ref a21, .ref a22, .ref a23]) := ⟨_, rfl⟩
    rw [← hG] at sq
    show gName 3 _ _ (upd (upd H23 p1 (.lst [.ref a19, .ref a20, .ref a21, .ref a22, .ref a23])) q1 (.lst [.ref a14, .ref a15, .ref a16, .ref a17, .ref a18, .ref a19, .ref a20, .ref a21, .ref a22, .ref a23])) _
    rw [← hG]
    replace hf : G1 q1 = some (.lst [.ref a14, .ref a15, .ref a16, .ref a17, .ref a18, .ref a19, .ref a20, .ref a21, .ref a22, .ref a23]) := by rw [hG]; exact upd_same
    clear hG hp hq
    replace x := XN.same sq x
    replace s := Same.trans s sq
    have s1 := sq
    replace u19 := tup_same s1 u19
    replace u21 := tup_same s1 u21
    replace u22 := tup_same s1 u22
    refine ⟨_, rfl, ?_⟩
    refine ⟨_, rfl, rd_i1 fun a24 H24 h24 s1 ix => ?_⟩
    replace x := XN.snoc (XN.same s1 x) ix
    replace s := Same.trans s s1
    replace hf := s1 _ _ hf
    replace u19 := tup_same s1 u19
    replace u21 := tup_same s1 u21
    replace u22 := tup_same s1 u22
    refine ⟨_, rfl, rd_i1 fun a25 H25 h25 s1 ix => ?_⟩
    replace x := XN.snoc (XN.same s1 x) ix
    replace s := Same.trans s s1
    replace hf := s1 _ _ hf
    replace u19 := tup_same s1 u19
    replace u21 := tup_same s1 u21
    replace u22 := tup_same s1 u22
    refine ⟨_, rfl, rd_i1 fun a26 H26 h26 s1 ix => ?_⟩
    replace x := XN.snoc (XN.same s1 x) ix
    replace s := Same.trans s s1
    replace hf := s1 _ _ hf
    replace u19 := tup_same s1 u19
    replace u21 := tup_same s1 u21
    replace u22 := tup_same s1 u22
    refine ⟨_, rfl, _, rfl, _, rfl, ?_⟩
    refine rd_i3 (x := w) (y := n) (z := sm) (f := "name") (g := "word") (h3 := "member") (C := ad K 27) fun a27 H27 h27 s1 ix => ?_
    replace x := XN.snoc (XN.same s1 x) ix
    replace s := Same.trans s s1
    replace hf := s1 _ _ hf
    replace u19 := tup_same s1 u19
    replace u21 := tup_same s1 u21
    replace u22 := tup_same s1 u22
    refine ⟨szl (by show 4 ≤ 1000; decide), fun p2 hp => ⟨_, p2, _, _, rfl, rfl, same_upd hp _ _ hf, upd_same, szl (by show 10 + 4 ≤ 1000; decide), fun q2 hq => ?_⟩⟩
    have sq : Same H27 (upd (upd H27 p2 (.lst [.ref a24, .ref a25, .ref a26, .ref a27])) q2 (.lst [.ref a14, .ref a15, .ref a16, .ref a17, .ref a18, .ref a19, .ref a20, .ref a21, .ref a22, .ref a23, .ref a24, .ref a25, .ref a26, .ref a27])) := Same.trans (same_upd hp) (same_upd hq)
    obtain ⟨G2, hG⟩ : ∃ Z, Z = upd (upd H27 p2 (.lst [.ref a24, .ref a25, .ref a26, .ref a27])) q2 (.lst [.ref a14, .ref a15, .ref a16, .ref a17, .ref a18, .ref a19, .ref a20, .ref a21, .ref a22, .ref a23, .ref a24, .ref a25, .ref a26, .ref a27]) := ⟨_, rfl⟩
    rw [← hG] at sq
    show gName 3 _ _ (upd (upd H27 p2 (.lst [.ref a24, .ref a25, .ref a26, .ref a27])) q2 (.lst [.ref a14, .ref a15, .ref a16, .ref a17, .ref a18, .ref a19, .ref a20, .ref a21, .ref a22, .ref a23, .ref a24, .ref a25, .ref a26, .ref a27])) _
    rw [← hG]
    replace hf : G2 q2 = some (.lst [.ref a14, .ref a15, .ref a16, .ref a17, .ref a18, .ref a19, .ref a20, .ref a21, .ref a22, .ref a23, .ref a24, .ref a25, .ref a26, .ref a27]) := by rw [hG]; exact upd_same
    clear hG hp hq
    replace x := XN.same sq x
    replace s := Same.trans s sq
    have s1 := sq
    replace u19 := tup_same s1 u19
    replace u21 := tup_same s1 u21
    replace u22 := tup_same s1 u22
    refine ⟨_, rfl, ?_⟩
    refine ⟨_, rfl, _, rfl, ?_⟩
    refine rd_it (K := K) (x := w) (y := sm) (f := "name") (g := "pair") (C := ad K 28) (seqv_same s hs) fun a28 H28 t28 h28 s1 u28 ix => ?_
    replace x := XN.snoc (XN.same s1 x) ix
    replace s := Same.trans s s1
    replace hf := s1 _ _ hf
    replace u19 := tup_same s1 u19
    replace u21 := tup_same s1 u21
    replace u22 := tup_same s1 u22
    refine ⟨_, rfl, rd_t1 (seqv_same s hs) fun a29 H29 t29 h29 s1 u29 ix => ?_⟩
    replace x := XN.snoc (XN.same s1 x) ix
    replace s := Same.trans s s1
    replace hf := s1 _ _ hf
    replace u19 := tup_same s1 u19
    replace u21 := tup_same s1 u21
    replace u22 := tup_same s1 u22
    replace u28 := tup_same s1 u28
    refine ⟨_, rfl, rd_t1 (seqv_same s hs) fun a30 H30 t30 h30 s1 u30 ix => ?_⟩
    replace x := XN.snoc (XN.same s1 x) ix
    replace s := Same.trans s s1
    replace hf := s1 _ _ hf
    replace u19 := tup_same s1 u19
    replace u21 := tup_same s1 u21
    replace u22 := tup_same s1 u22
    replace u28 := tup_same s1 u28
    replace u29 := tup_same s1 u29
    refine ⟨szl (by show 3 ≤ 1000; decide), fun p3 hp => ⟨_, p3, _, _, rfl, rfl, same_upd hp _ _ hf, upd_same, szl (by show 14 + 3 ≤ 1000; decide), fun q3 hq => ?_⟩⟩
    have sq : Same H30 (upd (upd H30 p3 (.lst [.ref a28, .ref a29, .ref a30])) q3 (.lst [.ref a14, .ref a15, .ref a16, .ref a17, .ref a18, .ref a19, .ref a20, .ref a21, .ref a22, .ref a23, .ref a24, .ref a25, .ref a26, .ref a27, .ref a28, .ref a29, .ref a30])) := Same.trans (same_upd hp) (same_upd hq)
    obtain ⟨G3, hG⟩ : ∃ Z, Z = upd (upd H30 p3 (.lst [.ref a28, .ref a29, .ref a30])) q3 (.lst [.ref a14, .ref a15, .ref a16, .ref a17, .ref a18, .ref a19, .ref a20, .ref a21, .ref a22, .ref a23, .ref a24, .ref a25, .ref a26, .ref a27, .ref a28, .ref a29, .ref a30]) := ⟨_, rfl⟩
    rw [← hG] at sq
    show gName 3 _ _ (upd (upd H30 p3 (.lst [.ref a28, .ref a29, .ref a30])) q3 (.lst [.ref a14, .ref a15, .ref a16, .ref a17, .ref a18, .ref a19, .ref a20, .ref a21, .ref a22, .ref a23, .ref a24, .ref a25, .ref a26, .ref a27, .ref a28, .ref a29, .ref a30])) _
    rw [← hG]
    replace hf : G3 q3 = some (.lst [.ref a14, .ref a15, .ref a16, .ref a17, .ref a18, .ref a19, .ref a20, .ref a21, .ref a22, .ref a23, .ref a24, .ref a25, .ref a26, .ref a27, .ref a28, .ref a29, .ref a30]) := by rw [hG]; exact upd_same
    clear hG hp hq
    replace x := XN.same sq x
    replace s := Same.trans s sq
    have s1 := sq
    replace u19 := tup_same s1 u19
    replace u21 := tup_same s1 u21
    replace u22 := tup_same s1 u22
    replace u28 := tup_same s1 u28
    replace u29 := tup_same s1 u29
    replace u30 := tup_same s1 u30
    refine ⟨_, rfl, ?_⟩
    refine ⟨_, rfl, rd_i1 fun a31 H31 h31 s1 ix => ?_⟩
    replace x := XN.snoc (XN.same s1 x) ix
    replace s := Same.trans s s1
    replace hf := s1 _ _ hf
    replace u19 := tup_same s1 u19
    replace u21 := tup_same s1 u21
    replace u22 := tup_same s1 u22
    replace u28 := tup_same s1 u28
    replace u29 := tup_same s1 u29
    replace u30 := tup_same s1 u30
    refine ⟨_, rfl, rd_i1 fun a32 H32 h32 s1 ix => ?_⟩
    replace x := XN.snoc (XN.same s1 x) ix
    replace s := Same.trans s s1
    replace hf := s1 _ _ hf
    replace u19 := tup_same s1 u19
    replace u21 := tup_same s1 u21
    replace u22 := tup_same s1 u22
    replace u28 := tup_same s1 u28
    replace u29 := tup_same s1 u29
    replace u30 := tup_same s1 u30
    refine ⟨_, rfl, rd_i1 fun a33 H33 h33 s1 ix => ?_⟩
    replace x := XN.snoc (XN.same s1 x) ix
    replace s := Same.trans s s1
    replace hf := s1 _ _ hf
    replace u19 := tup_same s1 u19
    replace u21 := tup_same s1 u21
    replace u22 := tup_same s1 u22
    replace u28 := tup_same s1 u28
    replace u29 := tup_same s1 u29
    replace u30 := tup_same s1 u30
    refine ⟨szl (by show 3 ≤ 1000; decide), fun p4 hp => ⟨_, p4, _, _, rfl, rfl, same_upd hp _ _ hf, upd_same, szl (by show 17 + 3 ≤ 1000; decide), fun q4 hq => ?_⟩⟩
    have sq : Same H33 (upd (upd H33 p4 (.lst [.ref a31, .ref a32, .ref a33])) q4 (.lst [.ref a14, .ref a15, .ref a16, .ref a17, .ref a18, .ref a19, .ref a20, .ref a21, .ref a22, .ref a23, .ref a24, .ref a25, .ref a26, .ref a27, .ref a28, .ref a29, .ref a30, .ref a31, .ref a32, .ref a33])) := Same.trans (same_upd hp) (same_upd hq)
    have e1 : upd (upd H33 p4 (.lst [.ref a31, .ref a32, .ref a33])) q4 (.lst [.ref a14, .ref a15, .ref a16, .ref a17, .ref a18, .ref a19, .ref a20, .ref a21, .ref a22, .ref a23, .ref a24, .ref a25, .ref a26, .ref a27, .ref a28, .ref a29, .ref a30, .ref a31, .ref a32, .ref a33]) q4 = some (.lst (([a14, a15, a16, a17, a18, a19, a20, a21, a22, a23, a24, a25, a26, a27, a28, a29, a30, a31, a32, a33] : List Addr).map V.ref)) := upd_same
    have e2 : XS K H33 14 [a14, a15, a16, a17, a18, a19, a20, a21, a22, a23, a24, a25, a26, a27, a28, a29, a30, a31, a32, a33] (fsL w n sm t19 t21 t22 t28 t29 t30) := by
      have z := x.x
      simp only [List.nil_append, List.cons_append] at z
      unfold fsL
      exact z
    have r := ret q4 [a14, a15, a16, a17, a18, a19, a20, a21, a22, a23, a24, a25, a26, a27, a28, a29, a30, a31, a32, a33] _ t19 t21 t22 t28 t29 t30 (Same.trans s sq) e1 (XS.same sq e2) (tup_same sq u19) (tup_same sq u21) (tup_same sq u22) (tup_same sq u28) (tup_same sq u29) (tup_same sq u30)
    exact r
end
end K00

namespace K00
open PySem PySem.Spec PyProof.Rows L2 Xv
/-! ### defs that are called where nothing is being shown (repr asks that) -/
structure FnG (P : Program) (w : World) (K : PySem.W.Frag) (mg : Str → Option Value) (base : Heap) (k : Nat) (f : Addr) (fd : FuncData) (ps : List Str) (sp : Sp) : Prop where
  len : ∀ vs H Q E, sp vs H Q E → vs.length = ps.length
  run : ∀ (A : Around) (outer : List Env) (s : Shared) (H : Hp) (args : Args) (us : List Value) (vs : List V) (Q : VK) (E : XK), A.guards = some [] → Room k A → Env0 P w K mg base A outer s H → BindsTo s fd args (ps.zip us) → Vals vs us → sp vs H Q E →
    codeAny (model P w) A (.call (.ref f) args) (CR CX0 outer P w H s Q E) s
section
variable {P : Program} {w : World} {K : PySem.W.Frag} {mg : Str → Option Value} {base : Heap}
theorem okG {x qual : Str} {params : Arguments} {body : List Stmt} {scope : Scope} {dvs : List V} {kws : List (Str × V)} {f : Addr} {fd : FuncData} {N ps : List Str} {k : Nat} {sp : Sp} (F : FunD K x qual params body scope dvs kws f fd) (S : FnScope N ps scope) (len : ∀ vs H Q E, sp vs H Q E → vs.length = ps.length)
    (hb : ∀ (cdv : Value) (A : Around) (outer : List Env) (s : Shared) (H : Hp) (vs : List V) (Q : VK) (E : XK), A.guards = some [] → Room k (A.deeper (envOfC qual scope s.heap.objs.size f cdv)) → sp vs H Q E →
      ∃ t, PSs (cxOf CX0 P w K mg base N qual scope f cdv A outer s H E).nox body t ∧ t { nx := fun _ H' => Q .non H', rt := Q } (start N vs) H) : FnG P w K mg base (k + 1) f fd ps sp := by
  obtain ⟨oc, od, dV, kV, doc, pm, an, cdv, ct, osl, rfl, lk, hcd, _, _⟩ := F.ex
  refine ⟨len, fun A outer s H args us vs Q E hg hr e0 bt r hsp => ?_⟩
  have KX : K.In s.heap := e0.mod.kin.keeps fun b o e => (e0.bs b o e).1
  have kinds : ∀ y ∈ ps.zip us, scope.names.lookup y.1 = some .local ∨ (scope.names.lookup y.1 = some .cell ∧ ((cellsFrom (s.heap.objs.size + 1) scope.names []).lookup y.1).isSome = true) := fun y hy =>
    (S.par y.1 (List.of_mem_zip (show (y.1, y.2) ∈ ps.zip us from hy)).1).elim .inl fun q => .inr ⟨q, PySem.W.cellsFrom_some _ _ _ (.inl q)⟩
  refine codeAny_call_function hr.depth (KX _ _ lk) rfl S.co S.gen rfl (PySem.W.codeRec_of KX hcd) (bt _ _ _ _ (wpAny_newFunctionEnv_cells S.kind kinds fun env he s1 z => ?_))
  subst he
  refine ⟨(e0.mod.nolimit.keeps fun b o e => (e0.bs b o e).1).keeps z.toInCall.keep, codeAny_func ?_⟩
  obtain ⟨t, ht, hq⟩ := hb cdv A outer s H vs Q E hg (hr.deeper _) hsp
  refine wpAny_mono (ht.nox.run [] s1 (start N vs) H _ (inv_start S hr.hd e0 (len _ _ _ _ hsp) r z) hq) (fun fl s' hs => ?_) fun _ _ hs => hs
  cases fl with
  | ret u => exact let ⟨v, _, H', J, rv, q⟩ := hs; ⟨v, H', J.os, J.bare, J.base, J.hok, rv, q⟩
  | next => exact let ⟨_, H', J, q⟩ := hs; ⟨V.non, H', J.os, J.bare, J.base, J.hok, rfl, q⟩
  | brk => exact let ⟨_, _, _, q⟩ := hs; False.elim q
  | cont => exact let ⟨_, _, _, q⟩ := hs; False.elim q
end
/-- f(e, ..) of such a def -/
theorem pe_callG {X : Cx} {k : Nat} {f : Addr} {fd : FuncData} {ps : List Str} {sp : Sp} {x : Str} {p pos : Pos} {e : Expr} {es : List Expr} {t : TA} (F : FnG X.prog X.w X.K X.mg X.base k f fd ps sp) (hgd : X.A.guards = some []) (hr : Room k X.A) (hg : Gl X x) (hm : X.mg x = some (.ref f)) (hk : PySem.W.keepIn X.K (.ref f) = true)
    (hb : Binds X.K fd ps []) (ha : PA X (e :: es) t) (hdb : (x == ("__debug__" : Str)) = false := by decide) (he : starEach (e :: es) X.env = (false, eval e X.env) :: starEach es X.env := by rfl) (hpl : (backTo pos (starEach es X.env)).any (·.1) = false := by rfl) :
    PE X (.Call (.Name x p) (e :: es) [] pos) (fun σ H Q => t σ H fun vs H1 => sp vs H1 Q E0) := by
  refine ⟨fun pins s σ H Q I h => wpAny_Call_Name_kw (ld_glob I hg hm ?_ hdb)⟩
  refine PySem.W.callWith_K (h₀ := X.base) I.ok.mod.kin hk (thn (ha.run pos pins s σ H _ I h) fun us s1 ⟨vs, H1, I1, r, q⟩ => ⟨I1.kIn, ?_⟩) he hpl
  have ln : us.length = ps.length := by rw [← r.length]; exact F.len _ _ _ _ q
  have bt := hb s1 us I1.kIn (by rw [List.append_nil]; exact ln)
  rw [List.append_nil] at bt
  refine wpAny_call (codeAny_mono (F.run X.A X.stack s1 H1 ⟨us, []⟩ us vs Q E0 hgd hr I1.env0 bt r q) fun res s' z => ?_)
  cases res with
  | error er => exact False.elim z
  | ok fl =>
    cases fl with
    | ret u => exact I1.after z
    | next => exact False.elim z
    | brk => exact False.elim z
    | cont => exact False.elim z
/-! ### data by its reading -/
/-- what a repr asks of data -/
def OkD (d : PyData) : Prop := d.showable = true ∧ d.hasDict = false ∧ d.depth ≤ 8 ∧ d.shown.length ≤ sizeLine
section
variable {K : PySem.W.Frag} {H H' : Hp}
theorem sql_same {a : Addr} {xs : List V} (s : Same H H') (h : SqL K H a xs) : SqL K H' a xs := s.seq h
theorem sqt_same {a : Addr} {xs : List V} (s : Same H H') (h : SqT K H a xs) : SqT K H' a xs := by
  obtain ⟨b, e, h'⟩ := tup_same s ⟨a, rfl, h⟩
  cases e
  exact h'
mutual
theorem dp_same (s : Same H H') : ∀ {v : V} {d : PyData}, Dp K H v d → Dp K H' v d
  | _, _, .non => .non
  | _, _, .bl b => .bl b
  | _, _, .int i => .int i
  | _, _, .str x => .str x
  | _, _, .lst h t => .lst (sql_same s h) (dpa_same s t)
  | _, _, .tup h t => .tup (sqt_same s h) (dpa_same s t)
theorem dpa_same (s : Same H H') : ∀ {vs : List V} {ds : List PyData}, DpAll K H vs ds → DpAll K H' vs ds
  | _, _, .nil => .nil
  | _, _, .cons h t => .cons (dp_same s h) (dpa_same s t)
end
theorem dpa_rep {v : V} {d : PyData} (h : Dp K H v d) : ∀ n : Nat, DpAll K H (List.replicate n v) (List.replicate n d)
  | 0 => .nil
  | n + 1 => .cons h (dpa_rep h n)
/-- the fields of the error with number 14 + j, told by told(w, n, sm) -/
structure KS (K : PySem.W.Frag) (H : Hp) (q : Addr) (as : List Addr) (w n sm t5 t7 t8 t14 t15 t16 : V) (xs : List V) : Prop where
  l : H q = some (.lst (as.map V.ref))
  x : XS K H 14 as (fsL w n sm t5 t7 t8 t14 t15 t16)
  s : SeqV K H sm xs
  u5 : TupV K H t5 xs
  u7 : TupV K H t7 xs
  u8 : TupV K H t8 xs
  u14 : TupV K H t14 xs
  u15 : TupV K H t15 xs
  u16 : TupV K H t16 xs
variable {q : Addr} {as : List Addr} {w n sm t5 t7 t8 t14 t15 t16 : V} {xs : List V}
theorem KS.same (h : KS K H q as w n sm t5 t7 t8 t14 t15 t16 xs) (z : Same H H') : KS K H' q as w n sm t5 t7 t8 t14 t15 t16 xs :=
  ⟨z _ _ h.l, XS.same z h.x, seqv_same z h.s, tup_same z h.u5, tup_same z h.u7, tup_same z h.u8, tup_same z h.u14, tup_same z h.u15, tup_same z h.u16⟩
theorem fld_no {mg : Str → Option Value} (Y : Fx K mg) {j : Nat} (hj : j < 20) {f : Str} (h : f ∈ FLD.getD j []) : PySem.W.findIn K (.ref (ad K (14 + j))) f = some none :=
  (ini_fld (Y.ini hj) (by rw [show 14 + j - 14 = j by omega]; exact h)).2
/-- told[j] -/
theorem KS.at (S : KS K H q as w n sm t5 t7 t8 t14 t15 t16 xs) (j : Nat) (fs : List (Str × V)) (hj : j < 20) (hf : (fsL w n sm t5 t7 t8 t14 t15 t16)[j]? = some fs) : ∃ a : Addr, atI (as.map V.ref) (j : Int) = some (.ref a) ∧ IsX H a (ad K (14 + j)) fs := by
  have la : as.length = 20 := XS.len S.x
  have ha : as[j]? = some as[j] := List.getElem?_eq_getElem (by omega)
  obtain ⟨gs, e1, e2⟩ := XS.get S.x ha
  rw [hf] at e1
  cases e1
  exact ⟨as[j], atI_nat (by rw [List.getElem?_map, ha]; rfl), e2⟩
end
end K00

namespace K00
open PySem PySem.Spec PyProof.Rows L2 Xv
abbrev NKept : List Str := ["_law_told_here", "_law_word", "_law_number", "_law_some", "_law_row", "_law_names", "_law_members", "_law_numbers", "_law_k"]
abbrev PKept : List Str := ["_law_told_here", "_law_word", "_law_number", "_law_some"]
theorem scKp : FnScope NKept PKept (defScope (top 44)) := ⟨rfl, rfl, rfl, by decide +kernel, rfl, by decide +kernel, by decide +kernel⟩
def spKept (K : PySem.W.Frag) : Sp := fun vs H Q _ => ∃ (q : Addr) (as : List Addr) (w sm t5 t7 t8 t14 t15 t16 : V) (i : Int) (xs : List V) (dw ds : PyData) (dxs : List PyData), vs = [.ref q, w, .int i, sm] ∧ KS K H q as w (.int i) sm t5 t7 t8 t14 t15 t16 xs ∧
  Dp K H w dw ∧ Dp K H sm ds ∧ DpAll K H xs dxs ∧ OkD (.list (List.replicate 9 dw)) ∧ OkD (.list [dw, .int i]) ∧ OkD (.list (List.replicate 6 (.tuple dxs))) ∧ OkD ds ∧ OkD (.list (List.replicate 6 (.int i))) ∧ ∀ H', Same H H' → Q (.bl true) H'
/-- the places of the names -/
def nmK : List Nat := [0, 1, 2, 3, 4, 13, 14, 17, 18]
theorem nm_at {i : Nat} {y : V} (h : (nmK.map fun j : Nat => V.int (j : Int))[i]? = some y) : ∃ j : Nat, nmK[i]? = some j ∧ y = .int (j : Int) := by
  rw [List.getElem?_map] at h
  cases e : nmK[i]? with
  | none => rw [e] at h; cases h
  | some j => rw [e] at h; exact ⟨j, rfl, (Option.some.inj h).symm⟩
theorem nm_fs {w n sm t5 t7 t8 t14 t15 t16 : V} {j : Nat} (h : j ∈ nmK) : j < 20 ∧ ("name" : Str) ∈ FLD.getD j [] ∧ ∃ fs, (fsL w n sm t5 t7 t8 t14 t15 t16)[j]? = some fs ∧ fs.lookup ("name" : Str) = some w := by
  have h' : j ∈ ([0, 1, 2, 3, 4, 13, 14, 17, 18] : List Nat) := h
  simp only [List.mem_cons, List.not_mem_nil, or_false] at h'
  rcases h' with rfl | rfl | rfl | rfl | rfl | rfl | rfl | rfl | rfl <;> exact ⟨by decide, by decide +kernel, _, rfl, by rfl⟩
section
variable {P : Program} {w : World} {K : PySem.W.Frag} {mg : Str → Option Value} {base : Heap} {f : Addr} {fd : FuncData}
/-- repr of a list that was just made -/
theorem rd_repr {H : Hp} {p : Addr} {vs : List V} {d : List PyData} {Q : V → Hp → Prop} (h : H p = some (.lst vs)) (hd : DpAll K H vs d) (o : OkD (.list d)) (k : Q (.str (PyData.list d).shown) H) : rRepr K [.ref p] H Q :=
  ⟨.ref p, .list d, rfl, .lst (SqL.of h) hd, ⟨p, rfl⟩, o.1, o.2.1, o.2.2.1, o.2.2.2, k⟩
theorem rd_repr1 {H : Hp} {x : V} {d : PyData} {Q : V → Hp → Prop} (hd : Dp K H x d) (hr : ∃ a, x = .ref a) (o : OkD d) (k : Q (.str d.shown) H) : rRepr K [x] H Q := ⟨x, d, rfl, hd, hr, o.1, o.2.1, o.2.2.1, o.2.2.2, k⟩
theorem tv_dp {H : Hp} {t : V} {xs : List V} {dxs : List PyData} (h : TupV K H t xs) (d : DpAll K H xs dxs) : Dp K H t (.tuple dxs) := by
  obtain ⟨b, rfl, h⟩ := h
  exact .tup h d
theorem ok_kept (F : FnP K "_law_kept" (top 44) f fd) (Y : Fx K mg) : FnG P w K mg base 1 f fd PKept (spKept K) := by
  refine okG F scKp (fun vs H Q E h => ?_) (fun cdv A outer s H vs Q E hgd hr h => ?_)
  · obtain ⟨q, as, w, sm, t5, t7, t8, t14, t15, t16, i, xs, dw, ds, dxs, rfl, _⟩ := h
    rfl
  · have nd := scKp.nd
    have hu := hu_of hr
    have hun := hr.un
    have rp : CallR (cxOf CX0 P w K mg base NKept "_law_kept" (defScope (top 44)) f cdv A outer s H E).nox (.builtin "repr") (rRepr K) := call_repr hgd (by show (A.deeper _).units + 9 < cLine; omega)
    refine ⟨_, pss_cons (ps_set (i := 4) nd rfl (Or.inl rfl) (pe_tupleOf (by rfl) Y.bl.tup (pv 3)))
      (pss_cons (ps_setLc (i := 5) (own := [("_law_k", 8)]) (g := gName 8) (tt := tYes) (te := tXa K "name" (tOp (rIxL K) (tVar 0) (tVar 8))) rfl nd rfl rfl (sw_true rfl rfl rfl (by decide +kernel)) (pi_list (pe_lst (pa_cons pe_int (pa_cons pe_int (pa_cons pe_int (pa_cons pe_int (pa_cons pe_int (pa_cons pe_int (pa_cons pe_int (pa_cons pe_int (pa_cons pe_int pa_nil)))))))))))
        (blkOk_by (N := NKept) (sc := defScope (top 44)) (by decide +kernel)) (fun _ _ _ _ _ => pg_name (i := 8) nd rfl (Or.inl rfl)) (fun _ _ _ _ _ => pts_nil) (fun _ _ _ _ _ => pe_xa (pe_ix ix_list (pv 0) (pv 8) (fun _ _ => rfl))))
      (pss_cons (ps_if (pw_or (pt_cmpR op_ne (pe_callB rp (by rfl) Y.bl.rep boot_repr (pa_cons (pv 5) pa_nil)) (pe_callB rp (by rfl) Y.bl.rep boot_repr (pa_cons (pe_op op_rep (pe_lst (pa_cons (pv 1) pa_nil)) pe_int) pa_nil)) (nomark _))
          (pw_or1 (pt_cmpR op_ne (pe_callB rp (by rfl) Y.bl.rep boot_repr (pa_cons (pe_lst (pa_cons (pe_xa (pe_ix ix_list (pv 0) pe_int (fun _ _ => rfl))) (pa_cons (pe_xa (pe_ix ix_list (pv 0) pe_int (fun _ _ => rfl))) pa_nil))) pa_nil))
            (pe_callB rp (by rfl) Y.bl.rep boot_repr (pa_cons (pe_lst (pa_cons (pv 1) (pa_cons (pv 2) pa_nil))) pa_nil)) (nomark _)))).pt (pss_one (ps_ret pe_bl)) pss_nil)
      (pss_cons (ps_set (i := 6) nd rfl (Or.inl rfl) (pe_lst (pa_cons (pe_xa (pe_ix ix_list (pv 0) pe_int (fun _ _ => rfl))) (pa_cons (pe_xa (pe_ix ix_list (pv 0) pe_int (fun _ _ => rfl))) (pa_cons (pe_xa (pe_ix ix_list (pv 0) pe_int (fun _ _ => rfl)))
        (pa_cons (pe_xa (pe_ix ix_list (pv 0) pe_int (fun _ _ => rfl))) (pa_cons (pe_xa (pe_ix ix_list (pv 0) pe_int (fun _ _ => rfl))) (pa_cons (pe_xa (pe_ix ix_list (pv 0) pe_int (fun _ _ => rfl))) pa_nil))))))))
      (pss_cons (ps_if (pw_or (pt_cmpR op_ne (pe_callB rp (by rfl) Y.bl.rep boot_repr (pa_cons (pv 6) pa_nil)) (pe_callB rp (by rfl) Y.bl.rep boot_repr (pa_cons (pe_op op_rep (pe_lst (pa_cons (pv 4) pa_nil)) pe_int) pa_nil)) (nomark _))
          (pw_or1 (pt_cmpR op_ne (pe_callB rp (by rfl) Y.bl.rep boot_repr (pa_cons (pe_xa (pe_ix ix_list (pv 0) pe_int (fun _ _ => rfl))) pa_nil)) (pe_callB rp (by rfl) Y.bl.rep boot_repr (pa_cons (pv 3) pa_nil)) (nomark _)))).pt (pss_one (ps_ret pe_bl)) pss_nil)
      (pss_cons (ps_set (i := 7) nd rfl (Or.inl rfl) (pe_lst (pa_cons (pe_xa (pe_ix ix_list (pv 0) pe_int (fun _ _ => rfl))) (pa_cons (pe_xa (pe_ix ix_list (pv 0) pe_int (fun _ _ => rfl))) (pa_cons (pe_xa (pe_ix ix_list (pv 0) pe_int (fun _ _ => rfl)))
        (pa_cons (pe_xa (pe_ix ix_list (pv 0) pe_int (fun _ _ => rfl))) (pa_cons (pe_xa (pe_ix ix_list (pv 0) pe_int (fun _ _ => rfl))) (pa_cons (pe_xa (pe_ix ix_list (pv 0) pe_int (fun _ _ => rfl))) pa_nil))))))))
      (pss_one (ps_ret (pe_cmpR op_eq (pe_callB rp (by rfl) Y.bl.rep boot_repr (pa_cons (pv 7) pa_nil)) (pe_callB rp (by rfl) Y.bl.rep boot_repr (pa_cons (pe_op op_rep (pe_lst (pa_cons (pv 2) pa_nil)) pe_int) pa_nil)) (nomark _))))))))), ?_⟩
    obtain ⟨q, as, wv, sm, t5, t7, t8, t14, t15, t16, i', xs, dw, ds, dxs, rfl, S, hw, hsm, hxs, o1, o2, o3, o4, o5, ret⟩ := h
    refine ⟨_, rfl, seq_tup S.s fun H1 row s1 f1 t1 => ?_⟩
    replace S := S.same s1
    replace hw := dp_same s1 hw
    replace hsm := dp_same s1 hsm
    replace hxs := dpa_same s1 hxs
    refine ⟨szl (by show 9 ≤ 1000; decide), fun l hl => ⟨l, rfl, ⟨_, SqL.of upd_same⟩, fun D hD => ?_⟩⟩
    have nDl : l ≠ D := ne_of_none upd_same hD
    refine lc_list (K := K) (a := l) (xs := nmK.map fun j : Nat => V.int (j : Int)) (fun i H' => H' D = some (.lst (List.replicate i wv)) ∧ ∀ b, b ≠ D → H' b = upd H1 l (.lst (nmK.map fun j : Nat => V.int (j : Int))) b) ⟨upd_same, fun b hb => upd_ne hb⟩ (fun i H' _ ⟨_, z⟩ => SqL.of ((z l nDl).trans upd_same)) ?_ ?_
    · rintro i y H' hi ⟨e, keep⟩
      obtain ⟨j, hj, rfl⟩ := nm_at hi
      obtain ⟨h20, hfl, fs, hfs, hlk⟩ := nm_fs (w := wv) (n := .int i') (sm := sm) (t5 := t5) (t7 := t7) (t8 := t8) (t14 := t14) (t15 := t15) (t16 := t16) (List.mem_of_getElem? hj)
      have li : i < 9 := (List.getElem?_eq_some_iff.mp hj).1
      have sz : Same H1 H' := fun b o eb => by
        have nb : b ≠ l := ne_of_none eb hl
        have nD : b ≠ D := ne_of_none (show upd H1 l (.lst (nmK.map fun j : Nat => V.int (j : Int))) b = some o from (upd_ne nb).trans eb) hD
        rw [keep b nD, upd_ne nb]
        exact eb
      obtain ⟨a, i1, x1⟩ := (S.same sz).at j fs h20 hfs
      refine ⟨rfl, _, rfl, _, rfl, q, _, _, _, rfl, rfl, SqL.of (S.same sz).l, i1, a, ad K (14 + j), fs, wv, rfl, x1, Y.ec (by omega), fld_no Y h20 hfl, hlk, _, e, ?_, ?_, fun b hb => (upd_ne hb).trans (keep b hb)⟩
      · rw [List.length_replicate]; exact small1000 (by omega)
      · rw [upd_same, List.replicate_succ']
    · rintro H' ⟨e, keep⟩
      have sz : Same H1 H' := fun b o eb => by
        have nb : b ≠ l := ne_of_none eb hl
        have nD : b ≠ D := ne_of_none (show upd H1 l (.lst (nmK.map fun j : Nat => V.int (j : Int))) b = some o from (upd_ne nb).trans eb) hD
        rw [keep b nD, upd_ne nb]
        exact eb
      replace S := S.same sz
      replace hw := dp_same sz hw
      replace hsm := dp_same sz hsm
      replace hxs := dpa_same sz hxs
      replace t1 := tup_same sz t1
      have s2 := Same.trans s1 sz
      clear sz keep hD nDl hl f1
      have e9 : H' D = some (.lst (List.replicate 9 wv)) := e
      -- the names
      refine ⟨_, rfl, .ref D, .list (List.replicate 9 dw), rfl, .lst (SqL.of e9) (dpa_rep hw 9), ⟨D, rfl⟩, o1.1, o1.2.1, o1.2.2.1, o1.2.2.2, ?_⟩
      refine ⟨_, rfl, szl (by show 1 ≤ 1000; decide), fun p1 hp1 => ⟨p1, 9, _, rfl, rfl, upd_same, by decide, by decide, szl (by show 1 * 9 ≤ 1000; decide), fun p2 hp2 => ?_⟩⟩
      have z1 : Same H' (upd (upd H' p1 (.lst [wv])) p2 (.lst (List.replicate 9 wv))) := Same.trans (same_upd hp1) (same_upd hp2)
      refine ⟨.ref p2, .list (List.replicate 9 dw), rfl, .lst (xs := List.replicate 9 wv) (SqL.of upd_same) (dpa_rep (dp_same z1 hw) 9), ⟨p2, rfl⟩, o1.1, o1.2.1, o1.2.2.1, o1.2.2.2, rfl, _, rfl, iteNS rfl ?_⟩
      replace hw := dp_same z1 hw
      replace hsm := dp_same z1 hsm
      replace hxs := dpa_same z1 hxs
      replace t1 := tup_same z1 t1
      replace S := S.same z1
      replace s2 := Same.trans s2 z1
      clear e9 e
      obtain ⟨G1, hG⟩ : ∃ Z, Z = upd (upd H' p1 (.lst [wv])) p2 (.lst (List.replicate 9 wv)) := ⟨_, rfl⟩
      change tTest _ _ (upd (upd H' p1 (.lst [wv])) p2 (.lst (List.replicate 9 wv))) _
      rw [← hG] at S hw hsm hxs t1 s2 ⊢
      clear hG z1 hp1 hp2
      -- [told[5].word, told[13].word] and [word, number]
      obtain ⟨a5, i5, x5⟩ := S.at 5 _ (by decide) rfl
      obtain ⟨a13, i13, x13⟩ := S.at 13 _ (by decide) rfl
      refine ⟨_, rfl, q, _, _, _, rfl, rfl, SqL.of S.l, i5, a5, ad K 19, _, wv, rfl, x5, Y.ec (by decide), fld_no Y (j := 5) (f := "word") (by decide) (by decide +kernel), (by rfl), _, rfl, q, _, _, _, rfl, rfl, SqL.of S.l, i13, a13, ad K 27, _, .int i', rfl, x13, Y.ec (by decide), fld_no Y (j := 13) (f := "word") (by decide) (by decide +kernel), (by rfl), szl (by show 2 ≤ 1000; decide), fun p1 hp1 => ?_⟩
      have z0 := same_upd (o := .lst [wv, .int i']) hp1
      refine ⟨.ref p1, .list [dw, .int i'], rfl, .lst (SqL.of upd_same) (.cons (dp_same z0 hw) (.cons (.int _) .nil)), ⟨p1, rfl⟩, o2.1, o2.2.1, o2.2.2.1, o2.2.2.2, ?_⟩
      refine ⟨_, rfl, _, rfl, szl (by show 2 ≤ 1000; decide), fun p2 hp2 => ?_⟩
      have z1 : Same G1 (upd (upd G1 p1 (.lst [wv, .int i'])) p2 (.lst [wv, .int i'])) := Same.trans z0 (same_upd hp2)
      refine ⟨.ref p2, .list [dw, .int i'], rfl, .lst (SqL.of upd_same) (.cons (dp_same z1 hw) (.cons (.int _) .nil)), ⟨p2, rfl⟩, o2.1, o2.2.1, o2.2.2.1, o2.2.2.2, rfl, _, rfl, iteNS rfl ?_⟩
      clear i5 i13 x5 x13 a5 a13
      replace hw := dp_same z1 hw
      replace hsm := dp_same z1 hsm
      replace hxs := dpa_same z1 hxs
      replace t1 := tup_same z1 t1
      replace S := S.same z1
      replace s2 := Same.trans s2 z1
      obtain ⟨G2, hG⟩ : ∃ Z, Z = upd (upd G1 p1 (.lst [wv, .int i'])) p2 (.lst [wv, .int i']) := ⟨_, rfl⟩
      change tSeq _ _ _ _ (upd (upd G1 p1 (.lst [wv, .int i'])) p2 (.lst [wv, .int i']))
      rw [← hG] at S hw hsm hxs t1 s2 ⊢
      clear hG z1 z0 hp1 hp2
      -- the members
      obtain ⟨a5, i5, x5⟩ := S.at 5 _ (by decide) rfl
      obtain ⟨a7, i7, x7⟩ := S.at 7 _ (by decide) rfl
      obtain ⟨a15, i15, x15⟩ := S.at 15 _ (by decide) rfl
      obtain ⟨a8, i8, x8⟩ := S.at 8 _ (by decide) rfl
      obtain ⟨a14, i14, x14⟩ := S.at 14 _ (by decide) rfl
      obtain ⟨a16, i16, x16⟩ := S.at 16 _ (by decide) rfl
      refine ⟨_, rfl, q, _, _, _, rfl, rfl, SqL.of S.l, i5, a5, ad K 19, _, t5, rfl, x5, Y.ec (by decide), fld_no Y (j := 5) (f := "members") (by decide) (by decide +kernel), (by rfl), _, rfl, q, _, _, _, rfl, rfl, SqL.of S.l, i7, a7, ad K 21, _, t7, rfl, x7, Y.ec (by decide), fld_no Y (j := 7) (f := "members") (by decide) (by decide +kernel), (by rfl), _, rfl, q, _, _, _, rfl, rfl, SqL.of S.l, i15, a15, ad K 29, _, t15, rfl, x15, Y.ec (by decide), fld_no Y (j := 15) (f := "members") (by decide) (by decide +kernel), (by rfl), _, rfl, q, _, _, _, rfl, rfl, SqL.of S.l, i8, a8, ad K 22, _, t8, rfl, x8, Y.ec (by decide), fld_no Y (j := 8) (f := "path") (by decide) (by decide +kernel), (by rfl), _, rfl, q, _, _, _, rfl, rfl, SqL.of S.l, i14, a14, ad K 28, _, t14, rfl, x14, Y.ec (by decide), fld_no Y (j := 14) (f := "pair") (by decide) (by decide +kernel), (by rfl), _, rfl, q, _, _, _, rfl, rfl, SqL.of S.l, i16, a16, ad K 30, _, t16, rfl, x16, Y.ec (by decide), fld_no Y (j := 16) (f := "spots") (by decide) (by decide +kernel), (by rfl), szl (by show 6 ≤ 1000; decide), fun pm hpm => ?_⟩
      have z0 : Same G2 (upd G2 pm (.lst [t5, t7, t15, t8, t14, t16])) := same_upd hpm
      have hm : upd G2 pm (.lst [t5, t7, t15, t8, t14, t16]) pm = some (.lst [t5, t7, t15, t8, t14, t16]) := upd_same
      clear i5 x5 a5 i7 x7 a7 i15 x15 a15 i8 x8 a8 i14 x14 a14 i16 x16 a16
      replace hw := dp_same z0 hw
      replace hsm := dp_same z0 hsm
      replace hxs := dpa_same z0 hxs
      replace t1 := tup_same z0 t1
      replace S := S.same z0
      replace s2 := Same.trans s2 z0
      obtain ⟨G3, hG⟩ : ∃ Z, Z = upd G2 pm (.lst [t5, t7, t15, t8, t14, t16]) := ⟨_, rfl⟩
      change tSeq _ _ _ _ (upd G2 pm (.lst [t5, t7, t15, t8, t14, t16]))
      rw [← hG] at S hw hsm hxs t1 s2 hm ⊢
      clear hG z0 hpm
      refine ⟨_, rfl, .ref pm, .list (List.replicate 6 (.tuple dxs)), rfl, .lst (SqL.of hm) (.cons (tv_dp S.u5 hxs) (.cons (tv_dp S.u7 hxs) (.cons (tv_dp S.u15 hxs) (.cons (tv_dp S.u8 hxs) (.cons (tv_dp S.u14 hxs) (.cons (tv_dp S.u16 hxs) .nil)))))), ⟨pm, rfl⟩, o3.1, o3.2.1, o3.2.2.1, o3.2.2.2, ?_⟩
      refine ⟨_, rfl, szl (by show 1 ≤ 1000; decide), fun p1 hp1 => ⟨p1, 6, _, rfl, rfl, upd_same, by decide, by decide, szl (by show 1 * 6 ≤ 1000; decide), fun p2 hp2 => ?_⟩⟩
      have z1 : Same G3 (upd (upd G3 p1 (.lst [row])) p2 (.lst (List.replicate 6 row))) := Same.trans (same_upd hp1) (same_upd hp2)
      refine ⟨.ref p2, .list (List.replicate 6 (.tuple dxs)), rfl, .lst (xs := List.replicate 6 row) (SqL.of upd_same) (dpa_rep (tv_dp (tup_same z1 t1) (dpa_same z1 hxs)) 6), ⟨p2, rfl⟩, o3.1, o3.2.1, o3.2.2.1, o3.2.2.2, rfl, _, rfl, iteNS rfl ?_⟩
      clear hm
      replace hw := dp_same z1 hw
      replace hsm := dp_same z1 hsm
      replace hxs := dpa_same z1 hxs
      replace t1 := tup_same z1 t1
      replace S := S.same z1
      replace s2 := Same.trans s2 z1
      obtain ⟨G4, hG⟩ : ∃ Z, Z = upd (upd G3 p1 (.lst [row])) p2 (.lst (List.replicate 6 row)) := ⟨_, rfl⟩
      change tTest _ _ (upd (upd G3 p1 (.lst [row])) p2 (.lst (List.replicate 6 row))) _
      rw [← hG] at S hw hsm hxs t1 s2 ⊢
      clear hG z1 hp1 hp2
      -- the member
      obtain ⟨a13, i13, x13⟩ := S.at 13 _ (by decide) rfl
      have hsr : ∃ b, sm = V.ref b := let ⟨_, b, e, _⟩ := S.s; ⟨b, e⟩
      refine ⟨_, rfl, q, _, _, _, rfl, rfl, SqL.of S.l, i13, a13, ad K 27, _, sm, rfl, x13, Y.ec (by decide), fld_no Y (j := 13) (f := "member") (by decide) (by decide +kernel), (by rfl), sm, ds, rfl, hsm, hsr, o4.1, o4.2.1, o4.2.2.1, o4.2.2.2, _, rfl, sm, ds, rfl, hsm, hsr, o4.1, o4.2.1, o4.2.2.1, o4.2.2.2, rfl, _, rfl, iteNS rfl ?_⟩
      clear i13 x13 a13
      -- the numbers
      obtain ⟨a6, i6, x6⟩ := S.at 6 _ (by decide) rfl
      obtain ⟨a9, i9, x9⟩ := S.at 9 _ (by decide) rfl
      obtain ⟨a10, i10, x10⟩ := S.at 10 _ (by decide) rfl
      obtain ⟨a11, i11, x11⟩ := S.at 11 _ (by decide) rfl
      obtain ⟨a12, i12, x12⟩ := S.at 12 _ (by decide) rfl
      obtain ⟨a19, i19, x19⟩ := S.at 19 _ (by decide) rfl
      refine ⟨_, rfl, q, _, _, _, rfl, rfl, SqL.of S.l, i6, a6, ad K 20, _, .int i', rfl, x6, Y.ec (by decide), fld_no Y (j := 6) (f := "number") (by decide) (by decide +kernel), (by rfl), _, rfl, q, _, _, _, rfl, rfl, SqL.of S.l, i9, a9, ad K 23, _, .int i', rfl, x9, Y.ec (by decide), fld_no Y (j := 9) (f := "place") (by decide) (by decide +kernel), (by rfl), _, rfl, q, _, _, _, rfl, rfl, SqL.of S.l, i10, a10, ad K 24, _, .int i', rfl, x10, Y.ec (by decide), fld_no Y (j := 10) (f := "number") (by decide) (by decide +kernel), (by rfl), _, rfl, q, _, _, _, rfl, rfl, SqL.of S.l, i11, a11, ad K 25, _, .int i', rfl, x11, Y.ec (by decide), fld_no Y (j := 11) (f := "number") (by decide) (by decide +kernel), (by rfl), _, rfl, q, _, _, _, rfl, rfl, SqL.of S.l, i12, a12, ad K 26, _, .int i', rfl, x12, Y.ec (by decide), fld_no Y (j := 12) (f := "number") (by decide) (by decide +kernel), (by rfl), _, rfl, q, _, _, _, rfl, rfl, SqL.of S.l, i19, a19, ad K 33, _, .int i', rfl, x19, Y.ec (by decide), fld_no Y (j := 19) (f := "number") (by decide) (by decide +kernel), (by rfl), szl (by show 6 ≤ 1000; decide), fun pn hpn => ?_⟩
      refine ⟨_, rfl, .ref pn, .list (List.replicate 6 (.int i')), rfl, .lst (xs := List.replicate 6 (.int i')) (SqL.of upd_same) (dpa_rep (.int i') 6), ⟨pn, rfl⟩, o5.1, o5.2.1, o5.2.2.1, o5.2.2.2, ?_⟩
      refine ⟨_, rfl, szl (by show 1 ≤ 1000; decide), fun p1 hp1 => ⟨p1, 6, _, rfl, rfl, upd_same, by decide, by decide, szl (by show 1 * 6 ≤ 1000; decide), fun p2 hp2 => ?_⟩⟩
      refine ⟨.ref p2, .list (List.replicate 6 (.int i')), rfl, .lst (xs := List.replicate 6 (.int i')) (SqL.of upd_same) (dpa_rep (.int i') 6), ⟨p2, rfl⟩, o5.1, o5.2.1, o5.2.2.1, o5.2.2.2, rfl, ?_⟩
      show Q (V.bl (decide (V.str _ = V.str _))) _
      rw [decide_eq_true rfl]
      exact ret _ (Same.trans s2 (Same.trans (same_upd hpn) (Same.trans (same_upd hp1) (same_upd hp2))))
end
end K00

namespace K00
open PySem PySem.Spec PyProof.Rows L2 Xv
/-! ### the draws -/
theorem op_rps {X : Cx} : OpR X (binaryOp .Mult) (fun x y H Q => ∃ (z : Str) (n : Int), x = .str z ∧ y = .int n ∧ MulOk z n ∧ Q (.str (Txt.mul z n)) H) := by
  intro pins s σ H x y v u Q I rx ry ⟨z, n, e1, e2, ok, q⟩
  subst e1
  subst e2
  obtain ⟨t, rfl⟩ := rx
  obtain ⟨t', rfl⟩ := ry
  exact SB.mul ok fun t2 k => ⟨.str _, H, I.tok _, ⟨t2, rfl⟩, q⟩
/-- the heap without the source -/
def hid (d c : Addr) (H : Hp) : Hp := fun b => if b = d ∨ b = c then none else H b
theorem hid_pick {d c : Addr} {H H' : Hp} (k : ∀ b, b ≠ d → b ≠ c → H' b = H b) : hid d c H' = hid d c H := by
  funext b
  unfold hid
  by_cases h : b = d ∨ b = c
  · rw [if_pos h, if_pos h]
  · rw [if_neg h, if_neg h, k b (fun z => h (.inl z)) fun z => h (.inr z)]
theorem hid_at {d c b : Addr} {H : Hp} (h1 : b ≠ d) (h2 : b ≠ c) : hid d c H b = H b := if_neg fun h => h.elim h1 h2
theorem hid_same {d c : Addr} {H H' : Hp} (s : Same H H') : Same (hid d c H) (hid d c H') := fun b o e => by
  unfold hid at e ⊢
  by_cases h : b = d ∨ b = c
  · rw [if_pos h] at e; cases e
  · rw [if_neg h] at e ⊢; exact s b o e
theorem hid_sub {d c : Addr} {H : Hp} : Same (hid d c H) H := fun b o e => by
  unfold hid at e
  by_cases h : b = d ∨ b = c
  · rw [if_pos h] at e; cases e
  · rw [if_neg h] at e; exact e
theorem src_same {d c : Addr} {H H' : Hp} (s : Same H H') (h : SrcAt H d c) : SrcAt H' d c := let ⟨xs, l, m, t, h1, h2, h3⟩ := h; ⟨xs, l, m, t, s _ _ h1, h2, s _ _ h3⟩
theorem src_ne {d c b : Addr} {H : Hp} (h : SrcAt H d c) (n : H b = none) : b ≠ d ∧ b ≠ c := let ⟨_, _, _, _, h1, _, h3⟩ := h; ⟨(ne_of_none h3 n).symm, (ne_of_none h1 n).symm⟩
abbrev x100 : Str := Txt.mul "x" 100
def wl (t : Addr) : List V := [.str "", .str "x", .str "no such name", .non, .str x100, .ref t, .int 0]
def wD : List PyData := [.str "", .str "x", .str "no such name", .none, .str x100, .tuple [.str "a"], .int 0]
abbrev great : Int := 1000000000000000000000000000000
def nl : List V := [.int 0, .int 1, .int 7, .int 200, .int great, .int great]
def nD : List Int := [0, 1, 7, 200, great]
theorem at_nat {r : Int} {n : Nat} (h0 : 0 ≤ r) (h1 : r < n) : ∃ k : Nat, k < n ∧ r = (k : Int) := ⟨r.toNat, by omega, by omega⟩
theorem word_at {K : PySem.W.Frag} {G : Hp} {t : Addr} (ht : G t = some (.tup [.str "a"])) {r : Int} (h0 : 0 ≤ r) (h1 : r < 7) : ∃ v dw, atI (wl t) r = some v ∧ dw ∈ wD ∧ Dp K G v dw := by
  obtain ⟨k, hk, rfl⟩ := at_nat (n := 7) h0 h1
  match k, hk with
  | 0, _ => exact ⟨_, _, atI_nat (by rfl), List.mem_cons_self, .str _⟩
  | 1, _ => exact ⟨_, _, atI_nat (by rfl), .tail _ List.mem_cons_self, .str _⟩
  | 2, _ => exact ⟨_, _, atI_nat (by rfl), .tail _ (.tail _ List.mem_cons_self), .str _⟩
  | 3, _ => exact ⟨_, _, atI_nat (by rfl), .tail _ (.tail _ (.tail _ List.mem_cons_self)), .non⟩
  | 4, _ => exact ⟨_, _, atI_nat (by rfl), .tail _ (.tail _ (.tail _ (.tail _ List.mem_cons_self))), .str _⟩
  | 5, _ => exact ⟨_, _, atI_nat (by rfl), .tail _ (.tail _ (.tail _ (.tail _ (.tail _ List.mem_cons_self)))), .tup (SqT.of ht) (.cons (.str _) .nil)⟩
  | 6, _ => exact ⟨_, _, atI_nat (by rfl), .tail _ (.tail _ (.tail _ (.tail _ (.tail _ (.tail _ List.mem_cons_self))))), .int _⟩
theorem num_at {r : Int} (h0 : 0 ≤ r) (h1 : r < 6) : ∃ i, atI nl r = some (.int i) ∧ i ∈ nD := by
  obtain ⟨k, hk, rfl⟩ := at_nat (n := 6) h0 h1
  match k, hk with
  | 0, _ => exact ⟨_, atI_nat (by rfl), by decide⟩
  | 1, _ => exact ⟨_, atI_nat (by rfl), by decide⟩
  | 2, _ => exact ⟨_, atI_nat (by rfl), by decide⟩
  | 3, _ => exact ⟨_, atI_nat (by rfl), by decide⟩
  | 4, _ => exact ⟨_, atI_nat (by rfl), by decide⟩
  | 5, _ => exact ⟨_, atI_nat (by rfl), by decide⟩
/-- the data of the third draw, with its members -/
def sD : List (PyData × List PyData) := [(.list [.str "a", .str "b"], [.str "a", .str "b"]), (.list [], []), (.tuple [.str "a"], [.str "a"]), (.list [.int 0, .int 1, .int 0], [.int 0, .int 1, .int 0]), (.tuple [.tuple [.str "x", .str "y"]], [.tuple [.str "x", .str "y"]])]
theorem some_at {K : PySem.W.Frag} {G : Hp} {a1 a2 a3 a4 a5 a6 : Addr} (h1 : G a1 = some (.lst [.str "a", .str "b"])) (h2 : G a2 = some (.lst [])) (h3 : G a3 = some (.tup [.str "a"])) (h4 : G a4 = some (.lst [.int 0, .int 1, .int 0])) (h5 : G a5 = some (.tup [.str "x", .str "y"])) (h6 : G a6 = some (.tup [.ref a5]))
    {r : Int} (l0 : 0 ≤ r) (l1 : r < 5) : ∃ v ds xs dxs, atI [V.ref a1, .ref a2, .ref a3, .ref a4, .ref a6] r = some v ∧ SeqV K G v xs ∧ Dp K G v ds ∧ DpAll K G xs dxs ∧ (ds, dxs) ∈ sD := by
  obtain ⟨k, hk, rfl⟩ := at_nat (n := 5) l0 l1
  match k, hk with
  | 0, _ => exact ⟨_, _, _, _, atI_nat (by rfl), ⟨szl (by show 2 ≤ 1000; decide), a1, rfl, .inl (SqL.of h1)⟩, .lst (SqL.of h1) (.cons (.str _) (.cons (.str _) .nil)), .cons (.str _) (.cons (.str _) .nil), List.mem_cons_self⟩
  | 1, _ => exact ⟨_, _, _, _, atI_nat (by rfl), ⟨szl (by show 0 ≤ 1000; decide), a2, rfl, .inl (SqL.of h2)⟩, .lst (SqL.of h2) .nil, .nil, .tail _ List.mem_cons_self⟩
  | 2, _ => exact ⟨_, _, _, _, atI_nat (by rfl), ⟨szl (by show 1 ≤ 1000; decide), a3, rfl, .inr (SqT.of h3)⟩, .tup (SqT.of h3) (.cons (.str _) .nil), .cons (.str _) .nil, .tail _ (.tail _ List.mem_cons_self)⟩
  | 3, _ => exact ⟨_, _, _, _, atI_nat (by rfl), ⟨szl (by show 3 ≤ 1000; decide), a4, rfl, .inl (SqL.of h4)⟩, .lst (SqL.of h4) (.cons (.int _) (.cons (.int _) (.cons (.int _) .nil))), .cons (.int _) (.cons (.int _) (.cons (.int _) .nil)), .tail _ (.tail _ (.tail _ List.mem_cons_self))⟩
  | 4, _ => exact ⟨_, _, _, _, atI_nat (by rfl), ⟨szl (by show 1 ≤ 1000; decide), a6, rfl, .inr (SqT.of h6)⟩, .tup (SqT.of h6) (.cons (.tup (SqT.of h5) (.cons (.str _) (.cons (.str _) .nil))) .nil), .cons (.tup (SqT.of h5) (.cons (.str _) (.cons (.str _) .nil))) .nil, .tail _ (.tail _ (.tail _ (.tail _ List.mem_cons_self)))⟩
/-! ### that repr takes all that can be drawn -/
def okB (d : PyData) : Bool := d.showable && (!d.hasDict && (decide (d.depth ≤ 8) && decide (d.shown.length ≤ sizeLine)))
theorem okB_ok {d : PyData} (h : okB d = true) : OkD d := by
  obtain ⟨h1, h⟩ := an h
  obtain ⟨h2, h⟩ := an h
  obtain ⟨h3, h4⟩ := an h
  exact ⟨h1, by simpa using h2, of_decide_eq_true h3, of_decide_eq_true h4⟩
theorem okAll {α : Type} {l : List α} {p : α → PyData} (h : (l.all fun x => okB (p x)) = true) {x : α} (hx : x ∈ l) : OkD (p x) := okB_ok (List.all_eq_true.mp h x hx)
def okC (d : PyData) : Bool := d.showable && (!d.hasDict && decide (d.depth ≤ 8))
theorem shownAll_rep (d : PyData) : ∀ n : Nat, PyData.shownAll (List.replicate n d) = List.replicate n d.shown
  | 0 => rfl
  | n + 1 => by
    rw [List.replicate_succ, List.replicate_succ]
    show d.shown :: PyData.shownAll (List.replicate n d) = _
    rw [shownAll_rep d n]
theorem sum_rep (a : Nat) : ∀ n : Nat, (List.replicate n a).sum = n * a
  | 0 => by simp
  | n + 1 => by rw [List.replicate_succ, List.sum_cons, sum_rep a n, Nat.add_mul]; omega
theorem rep_len {d : PyData} (h : d.shown.length ≤ 1000) : (PyData.list (List.replicate 9 d)).shown.length ≤ sizeLine := by
  show (listText (PyData.shownAll (List.replicate 9 d))).length ≤ sizeLine
  rw [shownAll_rep]
  have z := listText_len_le (List.replicate 9 d.shown)
  rw [List.map_replicate, sum_rep, List.length_replicate] at z
  rw [sizeLine_eq]
  omega
theorem ok1 {dw : PyData} (h : dw ∈ wD) : OkD (.list (List.replicate 9 dw)) := by
  have h1 : okC (.list (List.replicate 9 dw)) = true := List.all_eq_true.mp (show (wD.all fun d => okC (.list (List.replicate 9 d))) = true by decide +kernel) dw h
  have h2 : decide (dw.shown.length ≤ 1000) = true := List.all_eq_true.mp (show (wD.all fun d => decide (d.shown.length ≤ 1000)) = true by decide +kernel) dw h
  obtain ⟨a1, a⟩ := an h1
  obtain ⟨a2, a3⟩ := an a
  exact ⟨a1, by simpa using a2, of_decide_eq_true a3, rep_len (of_decide_eq_true h2)⟩
theorem ok2 {dw : PyData} {i : Int} (h : dw ∈ wD) (hi : i ∈ nD) : OkD (.list [dw, .int i]) := okB_ok (List.all_eq_true.mp (List.all_eq_true.mp (show (wD.all fun d => nD.all fun i => okB (.list [d, .int i])) = true by decide +kernel) dw h) i hi)
theorem ok3 {z : PyData × List PyData} (h : z ∈ sD) : OkD (.list (List.replicate 6 (.tuple z.2))) := okAll (l := sD) (p := fun z => .list (List.replicate 6 (.tuple z.2))) (by decide +kernel) h
theorem ok4 {z : PyData × List PyData} (h : z ∈ sD) : OkD z.1 := okAll (l := sD) (p := fun z => z.1) (by decide +kernel) h
theorem ok5 {i : Int} (h : i ∈ nD) : OkD (.list (List.replicate 6 (.int i))) := okAll (l := nD) (p := fun i => .list (List.replicate 6 (.int i))) (by decide +kernel) h
end K00

namespace K00
open PySem PySem.Spec PyProof.Rows L2 Xv
abbrev NLaw : List Str := ["_law_script", "_law_source_here", "_law_lap", "_law_word", "_law_great", "_law_number", "_law_some", "_law_told_here", "_law_every", "_law_k", "_law_j"]
theorem scLw : FnScope NLaw ["_law_script"] (defScope (top 45)) := ⟨rfl, rfl, rfl, by decide +kernel, rfl, by decide +kernel, by decide +kernel⟩
def spLaw (K : PySem.W.Frag) : Sp := fun vs H Q _ => ∃ (a : Addr) (ns : List Int), vs = [.ref a] ∧ SqL K H a (ns.map V.int) ∧ ns.length ≤ 63 ∧ ∀ H', Q (.bl true) H'
theorem xtext : PySem.intText? ("1" ++ Txt.mul "0" 30) = some great := by decide +kernel
theorem xlen : (("1" : Str) ++ Txt.mul "0" 30).length ≤ 640 := by decide +kernel
theorem ylen : ("1" : Str).length + (Txt.mul "0" 30).length ≤ sizeLine := by decide +kernel
theorem mok1 : MulOk "x" 100 := ⟨by decide +kernel, by decide +kernel, by decide +kernel⟩
theorem mok2 : MulOk "0" 30 := ⟨by decide +kernel, by decide +kernel, by decide +kernel⟩
/-- lists of truth values, as data -/
theorem dpa_bits {K : PySem.W.Frag} {H : Hp} : ∀ bs : List Bool, DpAll K H (bs.map V.bl) (bs.map PyData.bool)
  | [] => .nil
  | b :: bs => .cons (.bl b) (dpa_bits bs)
theorem lay_bits : ∀ bs : List Bool, PyData.canLayAll0 (bs.map PyData.bool) = true
  | [] => by simp [PyData.canLayAll0]
  | b :: bs => by simp [PyData.canLayAll0, PyData.canLay0, lay_bits bs]
theorem dep_bits : ∀ bs : List Bool, PyData.depthAll (bs.map PyData.bool) = 0
  | [] => by simp [PyData.depthAll]
  | b :: bs => by
    have h := dep_bits bs
    simp [PyData.depthAll, PyData.depth] at h ⊢
    exact h
theorem shp_bits (bs : List Bool) : SeqAt.shaped (.list (bs.map PyData.bool)) = true := by
  have h1 := lay_bits bs
  have h2 := dep_bits bs
  have e1 : (PyData.list (bs.map PyData.bool)).canLay0 = true := by simpa [PyData.canLay0] using h1
  have e2 : (PyData.list (bs.map PyData.bool)).depth ≤ 64 := by simp only [PyData.depth, h2]; omega
  show ((PyData.list (bs.map PyData.bool)).canLay0 && decide ((PyData.list (bs.map PyData.bool)).depth ≤ 64)) = true
  rw [e1, decide_eq_true e2]
  rfl
theorem eqv_bits (bs : List Bool) : PyData.eqv (.list (bs.map PyData.bool)) (.list (bs.map PyData.bool)) = true := SeqAt.eqv_refl _ (by
  have h1 := lay_bits bs
  simpa [PyData.canLay0] using h1)
theorem bits_bl (k n : Nat) : (List.range n).map (bit k) = ((List.range n).map fun j => decide (j = k)).map V.bl := by rw [List.map_map]; rfl
theorem bit_int (i m : Nat) : V.bl (decide (V.int (0 + (m : Int)) = V.int (0 + (i : Int)))) = bit i m := by
  unfold bit
  congr 1
  by_cases h : m = i
  · subst h; rw [decide_eq_true rfl, decide_eq_true rfl]
  · rw [decide_eq_false (fun z => h (by injection z with z; omega)), decide_eq_false h]
theorem lt_int {i : Nat} : decide (0 + (i : Int) < 31) = decide (i < 31) := by
  by_cases h : i < 31
  · rw [decide_eq_true h, decide_eq_true (by omega)]
  · rw [decide_eq_false h, decide_eq_false (by omega)]
theorem ge_int {i : Nat} : decide ((31 : Int) ≤ 0 + (i : Int)) = decide (31 ≤ i) := by
  by_cases h : 31 ≤ i
  · rw [decide_eq_true h, decide_eq_true (by omega)]
  · rw [decide_eq_false h, decide_eq_false (by omega)]
section
variable {P : Program} {w : World} {K : PySem.W.Frag} {mg : Str → Option Value} {base : Heap} {f : Addr} {fd : FuncData}
theorem ok_law (F : FnP K "law" (top 45) f fd) (Y : Fx K mg) : FnG P w K mg base 4 f fd ["_law_script"] (spLaw K) := by
  obtain ⟨dS, FS⟩ := Y.d.def_ 0 (d := dSource) rfl
  obtain ⟨dP, FP⟩ := Y.d.def_ 1 (d := dPick) rfl
  obtain ⟨dK, FK⟩ := Y.d.def_ 2 (d := dKinds) rfl
  obtain ⟨dB, FB⟩ := Y.d.def_ 3 (d := dBases) rfl
  obtain ⟨dPl, FPl⟩ := Y.d.def_ 4 (d := dPlain) rfl
  obtain ⟨dT, FT⟩ := Y.d.def_ 5 (d := dTold) rfl
  obtain ⟨dKp, FKp⟩ := Y.d.def_ 6 (d := dKept) rfl
  have bS := FunD.bindsN (ps := ["_law_script"]) FS fun _ _ _ _ _ _ us hl => match us, hl with | [_], _ => rfl
  have bP := FunD.bindsN (ps := ["_law_source_here", "_law_many"]) FP fun _ _ _ _ _ _ us hl => match us, hl with | [_, _], _ => rfl
  have bK := FunD.bindsN (ps := ["_law_e"]) FK fun _ _ _ _ _ _ us hl => match us, hl with | [_], _ => rfl
  have bB := FunD.bindsN (ps := ["_law_e"]) FB fun _ _ _ _ _ _ us hl => match us, hl with | [_], _ => rfl
  have bPl := FunD.bindsN (ps := []) FPl fun _ _ _ _ _ _ us hl => match us, hl with | [], _ => rfl
  have bT := FunD.bindsN (ps := ["_law_word", "_law_number", "_law_some"]) FT fun _ _ _ _ _ _ us hl => match us, hl with | [_, _, _], _ => rfl
  have bKp := FunD.bindsN (ps := PKept) FKp fun _ _ _ _ _ _ us hl => match us, hl with | [_, _, _, _], _ => rfl
  have GS : FnOk P w K mg base CX0 1 _ dS ["_law_script"] (spSrc K) := ok_src FS Y.bl
  have GP : FnOk P w K mg base CX0 1 _ dP ["_law_source_here", "_law_many"] spPick := ok_pick FP Y.bl
  have GK : FnOk P w K mg base CX0 1 _ dK ["_law_e"] (spKinds K) := ok_kinds FK Y
  have GB : FnOk P w K mg base CX0 1 _ dB ["_law_e"] (spBases K) := ok_bases FB Y
  have GPl : FnOk P w K mg base CX0 1 _ dPl [] (spPlain K) := ok_plain FPl Y
  have GT : FnOk P w K mg base CX0 3 _ dT ["_law_word", "_law_number", "_law_some"] (spTold K) := ok_told FT Y
  have GKp : FnG P w K mg base 1 _ dKp PKept (spKept K) := ok_kept FKp Y
  refine okG F scLw (fun vs H Q E h => ?_) (fun cdv A outer s H vs Q E hgd hr h => ?_)
  · obtain ⟨a, ns, rfl, _⟩ := h
    rfl
  · have nd := scLw.nd
    have hu := hu_of hr
    have hun := hr.un
    have hr1 : Room 1 _ := hr.mono (by decide)
    have hu64 : (A.deeper (envOfC "law" (defScope (top 45)) s.heap.objs.size f cdv)).units + 64 < cLine := by omega
    have neD : OpR (cxOf CX0 P w K mg base NLaw "law" (defScope (top 45)) f cdv A outer s H E).nox (compareOp .NotEq) (rNeD K) := op_neD hu64
    refine ⟨_, pss_cons (ps_set (i := 1) nd rfl (Or.inl rfl) (pe_call GS hr1 (by rfl) (Y.g 36 _ rfl) FS.kp bS .nil pass0 (pa_cons (pv 0) pa_nil)))
      (pss_cons (ps_for PassesOwn.never rfl (pi_range1 (by rfl) Y.bl.range (pa_cons pe_int pa_nil)) (pg_name (i := 2) nd rfl (Or.inl rfl))
        (pss_cons (ps_set (i := 3) nd rfl (Or.inl rfl) (pe_ix ix_list (pe_lst (pa_cons pe_str (pa_cons pe_str (pa_cons pe_str (pa_cons pe_non (pa_cons (pe_op op_rps pe_str pe_int) (pa_cons (pe_tup (pa_cons pe_str pa_nil)) (pa_cons pe_int pa_nil)))))))) (pe_call GP hr1 (by rfl) (Y.g 37 _ rfl) FP.kp bP .nil pass0 (pa_cons (pv 1) (pa_cons pe_int pa_nil))) (fun _ _ => rfl)))
        (pss_cons (ps_set (i := 4) nd rfl (Or.inl rfl) (pe_callTy call_int_str (by rfl) Y.bl.int boot_int (pa_cons (pe_op op_add_str pe_str (pe_op op_rps pe_str pe_int)) pa_nil)))
        (pss_cons (ps_set (i := 5) nd rfl (Or.inl rfl) (pe_ix ix_list (pe_lst (pa_cons pe_int (pa_cons pe_int (pa_cons pe_int (pa_cons pe_int (pa_cons (pv 4) (pa_cons (pv 4) pa_nil))))))) (pe_call GP hr1 (by rfl) (Y.g 37 _ rfl) FP.kp bP .nil pass0 (pa_cons (pv 1) (pa_cons pe_int pa_nil))) (fun _ _ => rfl)))
        (pss_cons (ps_set (i := 6) nd rfl (Or.inl rfl) (pe_ix ix_list (pe_lst (pa_cons (pe_lst (pa_cons pe_str (pa_cons pe_str pa_nil))) (pa_cons (pe_lst pa_nil) (pa_cons (pe_tup (pa_cons pe_str pa_nil)) (pa_cons (pe_lst (pa_cons pe_int (pa_cons pe_int (pa_cons pe_int pa_nil)))) (pa_cons (pe_tup (pa_cons (pe_tup (pa_cons pe_str (pa_cons pe_str pa_nil))) pa_nil)) pa_nil))))))
          (pe_call GP hr1 (by rfl) (Y.g 37 _ rfl) FP.kp bP .nil pass0 (pa_cons (pv 1) (pa_cons pe_int pa_nil))) (fun _ _ => rfl)))
        (pss_cons (ps_set (i := 7) nd rfl (Or.inl rfl) (pe_call GT hr (by rfl) (Y.g 41 _ rfl) FT.kp bT .nil pass0 (pa_cons (pv 3) (pa_cons (pv 5) (pa_cons (pv 6) pa_nil)))))
        (pss_cons (ps_set (i := 8) nd rfl (Or.inl rfl) (pe_op op_cat (pe_call0 GPl hr1 (by rfl) (Y.g 40 _ rfl) FPl.kp bPl .nil pass0) (pv 7)))
        (pss_cons (ps_for PassesOwn.never rfl (pi_range1 (by rfl) Y.bl.range (pa_cons (pe_callB (r := rLn K) call_len_seq (by rfl) Y.bl.len PySem.boot_len (pa_cons (pv 8) pa_nil)) pa_nil)) (pg_name (i := 9) nd rfl (Or.inr rfl))
          (pss_cons (ps_if (pt_cmpR neD (pe_call GK hr1 (by rfl) (Y.g 38 _ rfl) FK.kp bK .nil pass0 (pa_cons (pe_ix ix_list (pv 8) (pv 9) (fun _ _ => rfl)) pa_nil))
              (pe_lc (own := [("_law_j", 10)]) (g := gName 10) (tt := tYes) rfl nd (pi_range1 (by rfl) Y.bl.range (pa_cons (pe_callB (r := rLn K) call_len_seq (by rfl) Y.bl.len PySem.boot_len (pa_cons (pv 8) pa_nil)) pa_nil)) (blkOk_by (N := NLaw) (sc := defScope (top 45)) (by decide +kernel)) (fun _ _ _ _ _ => pg_name (i := 10) nd rfl (Or.inl rfl)) (fun _ _ _ _ _ => pts_nil)
                (fun _ _ _ _ _ => pe_cmpR op_eq (pv 10) (pv 9) (nomark _))) (nomark _)) (pss_one (ps_ret pe_bl)) pss_nil)
          (pss_one (ps_if (pt_cmpR neD (pe_call GB hr1 (by rfl) (Y.g 39 _ rfl) FB.kp bB .nil pass0 (pa_cons (pe_ix ix_list (pv 8) (pv 9) (fun _ _ => rfl)) pa_nil))
              (pe_lst (pa_cons (pe_cmpR op_lt (pv 9) pe_int (nomark _)) (pa_cons (pe_cmpR op_lt (pv 9) pe_int (nomark _)) (pa_cons (pe_cmpR op_ge (pv 9) pe_int (nomark _)) (pa_cons (pe_cmpR op_ge (pv 9) pe_int (nomark _)) pa_nil))))) (nomark _)) (pss_one (ps_ret pe_bl)) pss_nil))))
        (pss_one (ps_if (pw_or (pt_cmpR op_ne (pe_callB (r := rLn K) call_len_seq (by rfl) Y.bl.len PySem.boot_len (pa_cons (pv 8) pa_nil)) pe_int (nomark _))
            (pw_or1 (pt_not (pt_val (pe_callG GKp hgd hr1 (by rfl) (Y.g 42 _ rfl) FKp.kp bKp (pa_cons (pv 7) (pa_cons (pv 3) (pa_cons (pv 5) (pa_cons (pv 6) pa_nil))))))))).pt (pss_one (ps_ret pe_bl)) pss_nil))))))))))
      (pss_one (ps_ret pe_bl))), ?_⟩
    obtain ⟨a, ns, rfl, hS, hl, ret⟩ := h
    refine ⟨_, rfl, a, ns, rfl, hS, hl, fun d c H1 s1 hd hc src => ?_⟩
    refine ⟨2, rfl, by decide, by decide, for_range (lo := 0) (n := 2) (fun i σ G => ∃ v2 v3 v4 v5 v6 v7 v8 v9 : Option V, σ = [some (.ref a), some (.ref d), v2, v3, v4, v5, v6, v7, v8, v9, none] ∧ SrcAt G d c) ⟨none, none, none, none, none, none, none, none, rfl, src⟩ ?_ ?_⟩
    · rintro lap σ G hlap ⟨v2, v3, v4, v5, v6, v7, v8, v9, rfl, src⟩
      -- the word
      refine ⟨_, _, rfl, rfl, mok1, szl (by show 1 ≤ 1000; decide), fun t ht => ⟨szl (by show 7 ≤ 1000; decide), fun l hl => ?_⟩⟩
      have nt := src_ne src ht
      have src0 := src_same (same_upd (o := .tup [.str "a"]) ht) src
      have nl0 := src_ne src0 hl
      have src1 := src_same (same_upd (o := .lst (wl t)) hl) src0
      have ntl : t ≠ l := ne_of_none upd_same hl
      refine ⟨_, rfl, d, c, 7, rfl, src1, by decide, by decide, fun r G1 r0 r7 src2 keep => ?_⟩
      have el : G1 l = some (.lst (wl t)) := (keep l nl0.1 nl0.2).trans upd_same
      have et : hid d c G1 t = some (.tup [.str "a"]) := (hid_at nt.1 nt.2).trans ((keep t nt.1 nt.2).trans ((upd_ne ntl).trans upd_same))
      obtain ⟨wv, dw, ew, mw, hw⟩ := word_at (K := K) et r0 r7
      refine ⟨l, wl t, r, wv, rfl, rfl, SqL.of el, ew, ?_⟩
      clear el et ew keep src src0 src1 ntl nl0 hl ht nt
      -- the number
      refine ⟨_, _, rfl, rfl, mok2, _, _, rfl, rfl, ylen, _, great, rfl, xtext, xlen, ?_⟩
      refine ⟨_, rfl, _, rfl, szl (by show 6 ≤ 1000; decide), fun l2 hl2 => ?_⟩
      have nl2 := src_ne src2 hl2
      have src3 := src_same (same_upd (o := .lst nl) hl2) src2
      refine ⟨_, rfl, d, c, 6, rfl, src3, by decide, by decide, fun r2 G2 r20 r26 src4 keep2 => ?_⟩
      have el2 : G2 l2 = some (.lst nl) := (keep2 l2 nl2.1 nl2.2).trans upd_same
      have hid2 : Same (hid d c G1) (hid d c G2) := by
        rw [hid_pick keep2]
        exact hid_same (same_upd hl2)
      replace hw := dp_same hid2 hw
      obtain ⟨i', ei, mi⟩ := num_at r20 r26
      refine ⟨l2, nl, r2, .int i', rfl, rfl, SqL.of el2, ei, ?_⟩
      clear el2 ei keep2 src2 src3 nl2 hl2 hid2
      -- the third draw
      refine ⟨szl (by show 2 ≤ 1000; decide), fun a1 h1 => ⟨szl (by show 0 ≤ 1000; decide), fun a2 h2 => ⟨szl (by show 1 ≤ 1000; decide), fun a3 h3 => ⟨szl (by show 3 ≤ 1000; decide), fun a4 h4 => ⟨szl (by show 2 ≤ 1000; decide), fun a5 h5 => ⟨szl (by show 1 ≤ 1000; decide), fun a6 h6 =>
        ⟨szl (by show 5 ≤ 1000; decide), fun l3 hl3 => ?_⟩⟩⟩⟩⟩⟩⟩
      have n1 := src_ne src4 h1
      have q1 := src_same (same_upd (o := .lst [.str "a", .str "b"]) h1) src4
      have n2 := src_ne q1 h2
      have q2 := src_same (same_upd (o := .lst []) h2) q1
      have n3 := src_ne q2 h3
      have q3 := src_same (same_upd (o := .tup [.str "a"]) h3) q2
      have n4 := src_ne q3 h4
      have q4 := src_same (same_upd (o := .lst [.int 0, .int 1, .int 0]) h4) q3
      have n5 := src_ne q4 h5
      have q5 := src_same (same_upd (o := .tup [.str "x", .str "y"]) h5) q4
      have n6 := src_ne q5 h6
      have q6 := src_same (same_upd (o := .tup [.ref a5]) h6) q5
      have n7 := src_ne q6 hl3
      have q7 := src_same (same_upd (o := .lst [.ref a1, .ref a2, .ref a3, .ref a4, .ref a6]) hl3) q6
      have s67 := same_upd (o := .lst [.ref a1, .ref a2, .ref a3, .ref a4, .ref a6]) hl3
      have s57 := Same.trans (same_upd (o := .tup [.ref a5]) h6) s67
      have s47 := Same.trans (same_upd (o := .tup [.str "x", .str "y"]) h5) s57
      have s37 := Same.trans (same_upd (o := .lst [.int 0, .int 1, .int 0]) h4) s47
      have s27 := Same.trans (same_upd (o := .tup [.str "a"]) h3) s37
      have s17 := Same.trans (same_upd (o := .lst []) h2) s27
      have s07 := Same.trans (same_upd (o := .lst [.str "a", .str "b"]) h1) s17
      refine ⟨_, rfl, d, c, 5, rfl, q7, by decide, by decide, fun r3 H3 r30 r35 src keep => ?_⟩
      have el3 : H3 l3 = some (.lst [.ref a1, .ref a2, .ref a3, .ref a4, .ref a6]) := (keep l3 n7.1 n7.2).trans upd_same
      replace hw : Dp K (hid d c H3) wv dw := dp_same (by rw [hid_pick keep]; exact hid_same s07) hw
      have g1 : hid d c H3 a1 = some (.lst [.str "a", .str "b"]) := (hid_at n1.1 n1.2).trans ((keep a1 n1.1 n1.2).trans (s17 _ _ upd_same))
      have g2 : hid d c H3 a2 = some (.lst []) := (hid_at n2.1 n2.2).trans ((keep a2 n2.1 n2.2).trans (s27 _ _ upd_same))
      have g3 : hid d c H3 a3 = some (.tup [.str "a"]) := (hid_at n3.1 n3.2).trans ((keep a3 n3.1 n3.2).trans (s37 _ _ upd_same))
      have g4 : hid d c H3 a4 = some (.lst [.int 0, .int 1, .int 0]) := (hid_at n4.1 n4.2).trans ((keep a4 n4.1 n4.2).trans (s47 _ _ upd_same))
      have g5 : hid d c H3 a5 = some (.tup [.str "x", .str "y"]) := (hid_at n5.1 n5.2).trans ((keep a5 n5.1 n5.2).trans (s57 _ _ upd_same))
      have g6 : hid d c H3 a6 = some (.tup [.ref a5]) := (hid_at n6.1 n6.2).trans ((keep a6 n6.1 n6.2).trans (s67 _ _ upd_same))
      obtain ⟨sm, ds, xs, dxs, es, sv, dv, dxv, ms⟩ := some_at (K := K) g1 g2 g3 g4 g5 g6 r30 r35
      replace sv := seqv_same hid_sub sv
      replace dv := dp_same hid_sub dv
      replace dxv := dpa_same hid_sub dxv
      replace hw := dp_same hid_sub hw
      refine ⟨l3, _, r3, sm, rfl, rfl, SqL.of el3, es, ?_⟩
      clear el3 es keep g1 g2 g3 g4 g5 g6 s07 s17 s27 s37 s47 s57 s67 q1 q2 q3 q4 q5 q6 q7 n1 n2 n3 n4 n5 n6 n7 h1 h2 h3 h4 h5 h6 hl3 src4
      -- told, every
      refine ⟨_, rfl, _, rfl, _, rfl, wv, .int i', sm, xs, rfl, sv, fun p as H4 t5 t7 t8 t14 t15 t16 s4 hp X u5 u7 u8 u14 u15 u16 => ?_⟩
      have la : as.length = 20 := XS.len X
      refine ⟨rfl, fun p0 as0 H5 s5 hp0 X0 => ⟨_, rfl, p0, p, _, _, rfl, rfl, hp0, s5 _ _ hp, ?_, fun q hq => ?_⟩⟩
      · have la0 : as0.length = 14 := XS.len X0
        rw [List.length_map, List.length_map, la, la0]
        exact szl (by decide)
      have la0 : as0.length = 14 := XS.len X0
      have s6 : Same H5 (upd H5 q (.lst (as0.map V.ref ++ as.map V.ref))) := same_upd hq
      have e6 : upd H5 q (.lst (as0.map V.ref ++ as.map V.ref)) q = some (.lst ((as0 ++ as).map V.ref)) := by rw [upd_same, List.map_append]
      obtain ⟨H6, hH⟩ : ∃ Z, Z = upd H5 q (.lst (as0.map V.ref ++ as.map V.ref)) := ⟨_, rfl⟩
      change gName 8 _ _ (upd H5 q (.lst (as0.map V.ref ++ as.map V.ref))) _
      rw [← hH] at s6 e6 ⊢
      clear hH
      have s36 : Same H3 H6 := Same.trans s4 (Same.trans s5 s6)
      have s46 : Same H4 H6 := Same.trans s5 s6
      have XA : XS K H6 0 (as0 ++ as) (List.replicate 14 [] ++ fsL wv (.int i') sm t5 t7 t8 t14 t15 t16) := XS.app (XS.same s6 X0) (XS.same s46 X) (by rw [la0])
      have lc : (as0 ++ as).length = 34 := by rw [List.length_append, la, la0]
      have lm : (((as0 ++ as).map V.ref).length : Int) = 34 := by rw [List.length_map, lc]; rfl
      have S : KS K H6 p as wv (.int i') sm t5 t7 t8 t14 t15 t16 xs := ⟨s46 _ _ hp, XS.same s46 X, seqv_same s36 sv, tup_same s46 u5, tup_same s46 u7, tup_same s46 u8, tup_same s46 u14, tup_same s46 u15, tup_same s46 u16⟩
      replace hw := dp_same s36 hw
      replace dv := dp_same s36 dv
      replace dxv := dpa_same s36 dxv
      replace src := src_same s36 src
      clear sv u5 u7 u8 u14 u15 u16 X X0 s4 s5 s6 s36 s46 hp hp0 hq
      refine ⟨_, rfl, q, _, rfl, .inl (SqL.of e6), 34, by rw [lm], by decide, by decide, for_range (lo := 0) (n := 34) (fun i σ G => ∃ v9, σ = [some (.ref a), some (.ref d), some (.int (0 + (lap : Int))), some wv, some (.int great), some (.int i'), some sm, some (.ref p), some (.ref q), v9, none] ∧ Same H6 G) ⟨_, rfl, Same.refl _⟩ ?_ ?_⟩
      · rintro i σ G hi ⟨v9, rfl, sg⟩
        have ec : (as0 ++ as)[i]? = some (as0 ++ as)[i] := List.getElem?_eq_getElem (by omega)
        obtain ⟨e, he⟩ : ∃ e, (as0 ++ as)[i]? = some e := ⟨_, ec⟩
        obtain ⟨fs, _, ix⟩ := XS.get (XS.same sg XA) he
        rw [Nat.zero_add] at ix
        have hat : atI ((as0 ++ as).map V.ref) (0 + (i : Int)) = some (.ref e) := at_of (j := i) (by omega) (by rw [List.getElem?_map, he]; rfl)
        refine ⟨_, rfl, _, rfl, q, _, _, .ref e, rfl, rfl, SqL.of (sg _ _ e6), hat, e, i, fs, rfl, hi, ix, fun p2 H7 s7 h7 => ?_⟩
        refine ⟨_, rfl, q, _, rfl, .inl (SqL.of (s7 _ _ (sg _ _ e6))), 34, by rw [lm], by decide, by decide, fun D hD => ?_⟩
        have nD : p2 ≠ D := ne_of_none h7 hD
        refine lc_range (lo := 0) (n := 34) (fun m H' => H' D = some (.lst ((List.range m).map (bit i))) ∧ ∀ b, b ≠ D → H' b = H7 b) ⟨upd_same, fun b hb => upd_ne hb⟩ ?_ ?_
        · rintro m H' hm ⟨ed, kd⟩
          refine ⟨rfl, _, rfl, _, rfl, rfl, _, ed, ?_, ?_, fun b hb => (upd_ne hb).trans (kd b hb)⟩
          · rw [List.length_map, List.length_range]; exact small1000 (by omega)
          · rw [upd_same, bit_int, List.range_succ, List.map_append]
            rfl
        · rintro H' ⟨ed, kd⟩
          have s8 : Same G H' := fun b o eb => by
            have e7 := s7 b o eb
            rw [kd b (ne_of_none e7 hD)]
            exact e7
          refine ⟨.list (((List.range 34).map fun j => decide (j = i)).map PyData.bool), .list (((List.range 34).map fun j => decide (j = i)).map PyData.bool), .lst (SqL.of ((kd p2 nD).trans h7)) (by rw [bits_bl]; exact dpa_bits _), .lst (SqL.of ed) (by rw [bits_bl]; exact dpa_bits _), shp_bits _, shp_bits _, _, rfl, ?_⟩
          rw [eqv_bits]
          refine iteF ?_
          have sgh := Same.trans sg s8
          refine ⟨_, rfl, _, rfl, q, _, _, .ref e, rfl, rfl, SqL.of (sgh _ _ e6), hat, e, i, fs, rfl, hi, isx_same s8 ix, fun p3 H8 s9 h8 => ?_⟩
          refine ⟨_, rfl, _, _, rfl, rfl, _, rfl, _, _, rfl, rfl, _, rfl, _, _, rfl, rfl, _, rfl, _, _, rfl, rfl, szl (by show 4 ≤ 1000; decide), fun p4 hp4 => ?_⟩
          refine ⟨.list ([decide (i < 31), decide (i < 31), decide (31 ≤ i), decide (31 ≤ i)].map PyData.bool), .list ([decide (i < 31), decide (i < 31), decide (31 ≤ i), decide (31 ≤ i)].map PyData.bool), .lst (SqL.of (same_upd hp4 _ _ h8)) (dpa_bits [decide (i < 31), decide (i < 31), decide (31 ≤ i), decide (31 ≤ i)]), .lst (SqL.of upd_same) ?_, shp_bits _, shp_bits _, _, rfl, ?_⟩
          · show DpAll K _ [V.bl (decide ((0:Int) + (i:Int) < 31)), V.bl (decide ((0:Int) + (i:Int) < 31)), V.bl (decide (31 ≤ (0:Int) + (i:Int))), V.bl (decide (31 ≤ (0:Int) + (i:Int)))] _
            rw [lt_int, ge_int]
            exact dpa_bits [decide (i < 31), decide (i < 31), decide (31 ≤ i), decide (31 ≤ i)]
          · rw [eqv_bits]
            exact iteF ⟨_, rfl, Same.trans sgh (Same.trans s9 (same_upd hp4))⟩
      · rintro σ G ⟨v9, rfl, sg⟩
        refine ⟨_, rfl, q, _, rfl, .inl (SqL.of (sg _ _ e6)), rfl, _, rfl, iteNS (by rw [lm]) ?_⟩
        refine ⟨_, rfl, _, rfl, _, rfl, _, rfl, p, as, wv, sm, t5, t7, t8, t14, t15, t16, i', xs, dw, ds, dxs, rfl, S.same sg, dp_same sg hw, dp_same sg dv, dpa_same sg dxv, ok1 mw, ok2 mw mi, ok3 ms, ok4 ms, ok5 mi, fun H9 s9 => ⟨_, rfl, iteF ?_⟩⟩
        exact ⟨_, _, _, _, _, _, _, _, rfl, src_same (Same.trans sg s9) src⟩
    · rintro σ G ⟨v2, v3, v4, v5, v6, v7, v8, v9, rfl, src⟩
      exact ret G
end
end K00

namespace K00
open PySem PySem.Spec PyProof.Rows L2 Xv
/-! ### the end: the law's def is called at the bottom, where nothing is being shown -/
section
variable {P : Program} {w : World} {K : PySem.W.Frag} {mg mb : Str → Option Value} {f a : Addr} {fd : FuncData} {s : Shared} {us : List Value} {ks : List Int}
/-- what the row asks of that call -/
def Done (P : Program) (w : World) (f a : Addr) (s : Shared) : Prop :=
  codeAny (model P w) callerA (.call (.ref f) ⟨[.ref a], []⟩) (fun r t => r = .ok (.ret (.bool true)) ∧ OldK s.heap t.heap ∧ t.os = s.os ∧ AllBare t.gens) s
/-- over a reading that tracks the script, or nothing -/
theorem done_at (kx : K.In s.heap) (gN : s.heap.Ns mainGlobals mg) (bN : s.heap.Ns builtinsNs mb) (bQ : ∀ y : Str, y ≠ "__name__" → mb y = bootBuiltins y) (nl : s.heap.NoLimit) (ge : s.gens = #[])
    (aO : s.heap.get? a = some { cls := .type "list", data := .seq us.toArray }) (law : ∀ B : Heap, K.In B → B.Ns mainGlobals mg → FnG P w K mg B 4 f fd ["_law_script"] (spLaw K))
    (bd : BindsTo s fd ⟨[.ref a], []⟩ [("_law_script", .ref a)]) (H : Hp) (tr : Only H) (rd : SqL K H a (ks.map V.int)) (ln : ks.length ≤ 63) (ok : HOk P w H s.heap) (one : ∀ b, b ≠ a → H b = none) (un : H a ≠ none → K.lookup a = none) : Done P w f a s := by
  have isA : ∀ {b : Addr}, H b ≠ none → b = a := fun {b} z => Classical.byContradiction fun n => z (one b n)
  have dNo : ∀ {b : Addr} {o : Obj} {es : Array DictEntry} {ep : Nat}, s.heap.get? b = some o → o.data = .dict es ep → H b = none := fun {b o es ep} g d => one b fun e => by
    rw [e, aO] at g
    cases g
    exact nomatch (show Data.seq us.toArray _ = Data.dict es ep from d)
  have nsB : ∀ {b : Addr} {m : Str → Option Value}, s.heap.Ns b m → (hidT s.heap H).Ns b m := fun {b m} z => by
    obtain ⟨o, es, ep, g, d, r⟩ := z
    exact ⟨o, es, ep, hidT_get g (dNo g d), d, r⟩
  have kB : K.In (hidT s.heap H) := fun b o g => hidT_get (kx b o g) (Classical.byContradiction fun z => by
    have e := isA z
    rw [e] at z g
    exact nomatch (un z).symm.trans g)
  have md : Mod K mg (hidT s.heap H) := ⟨kB, nsB gN, ⟨mb, nsB bN, bQ⟩, by obtain ⟨m, g1, g2⟩ := nl; exact ⟨m, nsB g1, g2⟩⟩
  have en : Env0 P w K mg (hidT s.heap H) callerA [] s H := ⟨rfl, md, fun b o g => of_hidT g, Nat.le_of_eq (hidT_size _ _), trivial, fun b z => (List.not_mem_nil z).elim, ok, .of_eq ge⟩
  have go := (law _ kB (nsB gN)).run callerA [] s H ⟨[.ref a], []⟩ [.ref a] [.ref a] (fun v _ => v = .bl true) (fun _ _ _ => False) rfl ⟨rfl, by decide, by decide⟩ en bd (.cons rfl .nil) ⟨a, ks, rfl, rd, ln, fun _ => rfl⟩
  refine codeAny_mono go fun res t z => ?_
  match res, z with
  | .error _, z => exact False.elim z
  | .ok .next, z => exact False.elim z
  | .ok .brk, z => exact False.elim z
  | .ok .cont, z => exact False.elim z
  | .ok (.ret u), ⟨v, G, os, bare, base, okG, rv, e⟩ =>
    cases (show v = V.bl true from e)
    cases (show u = Value.bool true from rv)
    refine ⟨rfl, .of_keep fun b o g => ?_, os, bare⟩
    by_cases n : H b = none
    · exact base.keep b o g n (fun z => (List.not_mem_nil z).elim) (by simp)
    · rcases tr b with z | ⟨p, xs, z⟩
      · exact (n z).elim
      · have g1 := (ok b _ z).1
        have g2 := (okG b _ (base.frzs b p _ z)).1
        rw [g] at g1
        cases g1
        exact g2
theorem done (kx : K.In s.heap) (gN : s.heap.Ns mainGlobals mg) (bN : s.heap.Ns builtinsNs mb) (bQ : ∀ y : Str, y ≠ "__name__" → mb y = bootBuiltins y) (nl : s.heap.NoLimit) (ge : s.gens = #[])
    (aO : s.heap.get? a = some { cls := .type "list", data := .seq us.toArray }) (ia : IntsAre us ks) (ln : ks.length ≤ 63) (law : ∀ B : Heap, K.In B → B.Ns mainGlobals mg → FnG P w K mg B 4 f fd ["_law_script"] (spLaw K))
    (bd : BindsTo s fd ⟨[.ref a], []⟩ [("_law_script", .ref a)]) : Done P w f a s := by
  have vi := vals_ints ia
  have l1 : us.length = ks.length := ia.length
  have sz : ks.length ≤ sizeLine := Nat.le_trans ln (by decide)
  have at_ := done_at (ks := ks) kx gN bN bQ nl ge aO law bd
  by_cases kn : K.lookup a = none
  · refine at_ (fun b => if b = a then some (.frz { cls := .type "list", data := .seq us.toArray } (.lst (ks.map V.int))) else none) (fun b => ?_) (.inl (.inr ⟨_, if_pos rfl⟩)) ln (fun b u z => ?_) (fun b n => if_neg n) fun _ => kn
    · by_cases e : b = a
      · exact .inr ⟨_, _, if_pos e⟩
      · exact .inl (if_neg e)
    · by_cases e : b = a
      · cases (if_pos e).symm.trans z
        cases e
        exact ⟨aO, by rw [List.length_map]; exact sz, us, _, vi, aO⟩
      · exact nomatch (if_neg e).symm.trans z
  · obtain ⟨o, lk⟩ := Option.ne_none_iff_exists'.mp kn
    have e := (kx a o lk).symm.trans aO
    cases e
    exact at_ (fun _ => none) (fun _ => .inl rfl) (.inr ⟨_, us.toArray, _, lk, rfl, rfl, rfl, by rw [List.size_toArray, l1]; exact sz, by simpa using vi⟩) ln (fun b u z => nomatch (show (none : Option HO) = some u from z)) (fun _ _ => rfl) fun z => (z rfl).elim
end
/-- what the head has told of the law's def -/
theorem told_law {P : Program} {w : World} {K : PySem.W.Frag} {h : Heap} {mg : Str → Option Value} {f : Addr} (X : K.In h) (G : h.Ns mainGlobals mg) (at_ : mg ("law" : Str) = some (.ref f)) (c : He.SaysD fa fn K) (e : exB K = true) :
    ∃ fd : FuncData, (∀ (s : Shared) (v : Value), BindsTo s fd ⟨[v], []⟩ [("_law_script", v)]) ∧ ∀ B : Heap, FnG P w K mg B 4 f fd ["_law_script"] (spLaw K) := by
  have Y := Fx.of X G c e
  obtain ⟨fd, F⟩ := c.def_ 7 (d := dLaw) rfl
  have z := at_.symm.trans (Y.g 43 _ rfl)
  cases z
  have b := FunD.bindsA (ps := ["_law_script"]) F fun _ _ _ _ _ _ us hl => match us, hl with | [_], _ => rfl
  exact ⟨fd, fun s v => b s [v] rfl, fun B => ok_law F Y⟩
theorem walkG {q : Program} {loose : List Str} {XP : (Str → Option Value) → Heap → Prop} {d : DefRec} (df : d.params.defaults = []) (nme : d.name = ("law" : Str)) :
    PySem.W.WalkO q loose XP hk.says (PySem.Challenge.rw_pairlaws_k00_errors).row.toRowW d [] (fun f vs => PySem.call f vs) := by
  refine Att.attach_call (n := 63) rfl df fun w s₀ s mg mb f o pm cd doc a us ks G Y ho hd hcd at_ aO ia ln ge => ?_
  obtain ⟨K, kx, c, e⟩ := Y
  rw [nme] at at_
  obtain ⟨fd, bd, law⟩ := told_law (P := (PySem.Challenge.rw_pairlaws_k00_errors).prog) (w := w) kx G.T.g at_ c e
  exact done kx G.T.g G.T.b G.T.builtins G.T.nolimit ge aO ia ln (fun B _ _ => law B) (bd s (.ref a))
end K00
open PySem PySem.W PySem.Calls PyProof.Rows
set_option maxRecDepth 100000 in
set_option maxHeartbeats 0 in
theorem PySem.Challenge.cw_pairlaws_k00_errors_holds : PySem.Challenge.rw_pairlaws_k00_errors.Holds := by
  w_on; o_law
  refine HandSHeadRun.head_any (r := OpenLaw.row PySem.Challenge.rw_pairlaws_k00_errors) (q := view (OpenLaw.row PySem.Challenge.rw_pairlaws_k00_errors).prog [45]) (H := K00.hk) (ob := K00.ob) (M := 40000) (loose := K00.nm) (d := HandSHeadRun.topDef (OpenLaw.row PySem.Challenge.rw_pairlaws_k00_errors).prog 45) (kwd := []) K00.ob_eq
    (by kernel_rfl) (fun s => by kernel_rfl) K00.run (by kernel_rfl) (by kernel_rfl) (by kernel_rfl) (by rfl) (by first | assumption | decide +kernel) (by decide +kernel) ⟨rfl, rfl, rfl, rfl, rfl, by decide +kernel⟩ ?hw ?hc
  case hw => w_witness2
  case hc => exact K00.walkG (by kernel_rfl) (by kernel_rfl)
