import PyProof.Rows.All
import PySem.Challenge.RW_peepbook_s01_answers
import Wide.All
import OpenK.AllK
import Wide.FinOn
import KE.OsGo
import HandS.ForSpec
import HandS.ForMost
import HandS.ExcInit
import HandS.ExcSuper
import HandS.ExcField
import HandS.ClsMeth
import HandS.CallLocal
import HandS.CallSlots
import PeRule
import HandS.ForDict
import HandS.Flow
import HandS.WrittenGet
import HandS.Strs
import HandS.Head4
import HandS.HeadHook2
import HandS.HeadHook4
import HandS.HeadNt
import KE.KStateDown
import HandS.Codes
import HandS.Text
import HandS.Evl
import HandS.Walk
import HandS.Zip
import HandS.Conv
import PyWrpeep
import PeepSpec
import PyProof.AutoSeq1
set_option Elab.async false
set_option linter.all false
set_option maxRecDepth 100000
set_option maxHeartbeats 4000000
/-! Own exceptions that stand over Exception, some of them over one another, each with an __init__ of its own. -/
namespace PbX
open PySem PySem.W PySem.Calls PyProof.Rows
open Builtin Builtin.ObjectAttr

/-- own classes ahead of Exception's own line -/
def ownTail : List Value → Bool
  | .ref _ :: r => ownTail r
  | l => l == ESX.exTail
theorem ownTail_cases : ∀ l : List Value, ownTail l = true → (∃ c r, l = .ref c :: r ∧ ownTail r = true) ∨ l = ESX.exTail := fun l e => by
  cases l with
  | nil => exact .inr (beq_iff_eq.mp e)
  | cons a r =>
    cases a with
    | ref c => exact .inl ⟨c, r, rfl, e⟩
    | _ => exact .inr (beq_iff_eq.mp e)
theorem ownTail_pass (x : Value) (l : List Value) : ownTail l = true → refuseLoop x "__setattr__" l = pure () := by
  induction l with
  | nil => intro e; exact absurd e (by decide)
  | cons a r ih =>
    intro e
    rcases ownTail_cases _ e with ⟨c, r', q, h⟩ | q
    · injection q with q1 q2
      subst q1 q2
      rw [refuseLoop_ref]
      exact ih h
    · rw [q]
      exact F.store_Exception.passes x
theorem ownTail_has (T : String) (l : List Value) : ownTail l = true → l.contains (.type T) = ESX.exTail.contains (.type T) := by
  induction l with
  | nil => intro e; exact absurd e (by decide)
  | cons a r ih =>
    intro e
    rcases ownTail_cases _ e with ⟨c, r', q, h⟩ | q
    · injection q with q1 q2
      subst q1 q2
      rw [List.contains_cons, ih h]
      rfl
    · rw [q]

section
variable {prog : Program} {w : World} {A : Around} {E : Value → Shared → Prop} {R : Result → Shared → Prop} {hp : Heap} {g : Array GenState} {d : Drawn} {t : Nat} {os : OsState}
/-- a store to an attribute of such an exception comes to its own dict -/
theorem store_walk {K : W.Frag} {nm : Str} {tk : Tok} {v : Value} {x C : Addr} {ox : Obj} {od : Option Obj} {cd : ClassData}
    (KX : K.In hp) (I : W.InstAt hp x ox C od) (hcd : W.clsIn K C = some cd) (hm : ownTail cd.mro = true) (ha : W.findIn K (.ref C) nm = some none)
    (hq : wpAny (model prog w) A.in1 (storeInOwnDict (.ref x) (.ref C) (.str nm tk) nm v false)
      (fun fin s' => match fin with
        | .done f => R (.ok f) s'
        | .again c' => c'.quiet = true ∧ codeAny (model prog w) A c' R s') (fun e s' => R (.error e) s') ⟨hp, g, d, t, os⟩) :
    codeAny (model prog w) A (.call (.builtin "object.__setattr__") ⟨[.ref x, .str nm tk, v], []⟩) R ⟨hp, g, d, t, os⟩ := by
  have SF := F.store_object
  have hob : cd.mro.contains (.type "object") = true := (ownTail_has "object" _ hm).trans (by decide +kernel)
  have hne : cd.mro.isEmpty = false := by
    cases hz : cd.mro with
    | nil => rw [hz] at hm; exact absurd hm (by decide)
    | cons _ _ => rfl
  have hin : W.mroIn K C (.type "object") = some true := by
    unfold W.mroIn
    rw [hcd, Option.bind_some, if_neg (by rw [hne]; exact Bool.false_ne_true), hob]
  have isO : W.Looks (model prog w) hp (isInstance (.ref x) (.type "object")) true := I.type.andThen (W.looks_mroIn KX hin)
  have look : W.Looks (model prog w) hp (mroOf (.ref C)) cd.mro := (W.looks_clsIn KX hcd).andThen .now
  have taker : W.Looks (model prog w) hp (storeTaker? none) none := .now
  refine codeAny_call_builtin SF.slot.plain SF.entry
    (@W.check_slot (model prog w) _ _ ⟨hp, g, d, t, os⟩ "object.__setattr__" "object" "__setattr__" (.ref x) [.str nm tk, v] [] _ SF.kind SF.split isO (SF.args (.ref x) (.str nm tk) v) ?_)
  rw [W.osa_eq, refuse_eq]
  refine wpAny_bind (wpAny_bind (I.type.at (wpAny_bind (look.at ?_))))
  rw [ownTail_pass _ _ hm]
  refine wpAny_pure (wpAny_bind (I.type.at (wpAny_bind ((W.looks_findIn KX ha).at (wpAny_bind (taker.at hq))))))
/-- the first store lays the dict -/
theorem store_first {K : W.Frag} {nm : Str} {tk : Tok} {v : Value} {x C : Addr} {fv : Array Value} {cd : ClassData}
    (KX : K.In hp) (hx : hp.get? x = some { cls := .ref C, data := .fields fv }) (hcd : W.clsIn K C = some cd) (hm : ownTail cd.mro = true) (hh : cd.hasDict = true) (ha : W.findIn K (.ref C) nm = some none)
    (hq : ∀ h' tk' dx, (∀ b o, b ≠ x → hp.get? b = some o → h'.get? b = some o) → hp.objs.size ≤ dx → dx ≠ x →
      h'.get? x = some { cls := .ref C, dict := some dx, data := .fields fv } →
      h'.Ns1 dx (fun y => if y = nm then some v else none) → R (.ok (.ret .none)) ⟨h', g, d, tk', os⟩) :
    codeAny (model prog w) A (.call (.builtin "object.__setattr__") ⟨[.ref x, .str nm tk, v], []⟩) R ⟨hp, g, d, t, os⟩ := by
  have hxs : x ≠ hp.objs.size := Nat.ne_of_lt (Heap.lt_size hx)
  refine store_walk KX (ox := { cls := .ref C, data := .fields fv }) (od := none) ⟨hx, rfl, rfl, trivial⟩ hcd hm ha ?_
  have hcls : W.Looks (model prog w) hp (classData C) cd := W.looks_clsIn KX hcd
  obtain ⟨c1, c2, c3, c4, c5, c6, c7, c8, c9, c10, c11⟩ := cd
  dsimp only at hh
  subst hh
  unfold storeInOwnDict ownDictForStores
  repeat (first | with_reducible refine HandSPX.store_in_new ?_ ?_ | with_reducible refine wpAny_loadPart_at hx ?_ | with_reducible refine hcls.at ?_ | wp_step)
  · exact ⟨_, #[], _, (Heap.get?_update_ne _ _ _ _ hxs.symm).trans (Heap.get?_push_at rfl rfl), rfl, fun e he => absurd he (by simp), fun _ => rfl⟩
  · intro h' tk' hn' hs
    have hx1 : (hp.push { cls := .type "dict", data := .dict #[] }).get? x = some { cls := .ref C, data := .fields fv } := Heap.get?_push_of_some _ hx
    refine hq h' tk' hp.objs.size (fun b o hb ho => ?_) (Nat.le_refl _) hxs.symm ?_ hn'
    · have z := (hs.2 b (Nat.ne_of_lt (Heap.lt_size ho))).trans (Heap.get?_update_ne _ _ _ _ hb)
      exact z.trans (Heap.get?_push_of_some _ ho)
    · exact (hs.2 x hxs).trans (Heap.get?_update_self _ hx1 rfl)
end
end PbX
namespace PbX
open PySem PySem.Spec PyProof.Rows L2

/-- what the text has written of such a class -/
structure EcC (K : PySem.W.Frag) (C : Addr) : Prop where
  cls : ∃ nm q N bs bm sn sub ab col dd k0 k1 k2 k3 k5, K.lookup C = some (excClassObj nm q C N bs bm true sn sub ab col dd k0 k1 k2 k3 k5 "Exception.__new__") ∧ ownTail bm = true
  sa : PySem.W.findIn K (.ref C) "__setattr__" = some (some (.builtin "object.__setattr__"))
  exC : PySem.W.subIn K (.ref C) (.type "BaseException") = some true
  tyC : PySem.W.typeIn K (.ref C) = some (.type "type")
  kC : PySem.W.keepIn K (.ref C) = true
theorem EcC.cd {K : PySem.W.Frag} {C : Addr} (T : EcC K C) : ∃ cd, PySem.W.clsIn K C = some cd ∧ ownTail cd.mro = true ∧ cd.hasDict = true := by
  obtain ⟨nm, q, N, bs, bm, sn, sub, ab, col, dd, k0, k1, k2, k3, k5, hC, hbm⟩ := T.cls
  refine ⟨{ name := nm, bases := bs, mro := .ref C :: bm, ns := N, qualname := q, hasDict := true, slotNames := sn, subclasses := sub, abstract := ab, collection := col, hasDel := false }, ?_, hbm, rfl⟩
  unfold PySem.W.clsIn
  rw [hC] <;> rfl
section
variable {X : Cx} {pins : List (Addr × Obj)} {σ : L2.St} {H : Hp} {s : Shared} {a C dx : Addr} {f : Str} {y : V} {u : Value} {Q : Unit → Shared → Prop} {E : Value → Shared → Prop} {A : Around}
theorem put_new (T : EcC X.K C) (I : Inv X pins σ H s) (e : H a = some (exo a C none)) (hno : PySem.W.findIn X.K (.ref C) f = some none) (ry : RelV y u)
    (h : ∀ dx s', H dx = none → dx ≠ a → Inv X pins σ (upd (upd H dx (exd dx [(f, y)])) a (exo a C (some dx))) s' → Q () s') : wpAny (model X.prog X.w) A (setAttr (.ref a) f u) Q E s := by
  obtain ⟨cd, hcl, hmr, hdi⟩ := T.cd
  obtain ⟨t1, ho⟩ := exo_at I.hok e
  obtain ⟨hp, g, d, t, os⟩ := s
  refine PySem.W.set_plain I.kIn (ox := { cls := .ref C, dict := none, data := .fields #[.ref t1, .none, .none, .none, .bool false, .none] }) (od := none) ⟨ho, rfl, rfl, trivial⟩ T.sa ?_
  refine store_first I.kIn ho hcl hmr hdi hno fun h' tk' dx k dn dne hx hn => ?_
  have hnd : H dx = none := I.hok.fresh dn
  have nd : ∀ {b : Addr} {o : Obj}, hp.get? b = some o → b ≠ dx := fun q => Nat.ne_of_lt (Nat.lt_of_lt_of_le (Heap.lt_size q) dn)
  have na : ∀ {b : Addr}, H b = none → b ≠ a := fun n z => by
    rw [z, e] at n
    cases n
  have U : Un X.fs [] H (upd (upd H dx (exd dx [(f, y)])) a (exo a C (some dx))) hp h' := by
    refine ⟨fun b o q n _ _ => k b o (na n) q, fun b o q n _ _ => ⟨o.slots, k b o (na n) q⟩, fun b o q n _ => ?_, fun b o q _ => ?_, fun b xs q => ?_, fun b o v q => ?_, fun b ps q => ⟨#[], ?_⟩⟩
    · rw [upd_ne (na n), upd_ne (nd q)]
      exact n
    · by_cases hb : b = a
      · exact ⟨_, by rw [hb]; exact hx⟩
      · exact ⟨o, k b o hb q⟩
    · rw [upd_ne (at_ne e q exo_tup), upd_ne (ne_of_none q hnd)]
      exact q
    · rw [upd_ne (at_ne e q exo_frz), upd_ne (ne_of_none q hnd)]
      exact q
    · rw [upd_ne (at_ne e q exo_tbl), upd_ne (ne_of_none q hnd), q]
      simp
  refine h dx _ hnd dne (I.un (t' := tk') U fun b o q => ?_)
  by_cases hb : b = a
  · subst hb
    rw [upd_same] at q
    cases q
    exact exo_ok hx
  · rw [upd_ne hb] at q
    by_cases hd : b = dx
    · subst hd
      rw [upd_same] at q
      cases q
      exact exd_ok hn (relO_put (fs := []) ry fun g => True.intro)
    · rw [upd_ne hd] at q
      refine (I.hok b o q).stay (fun c v hc z => ?_) (fun c hc => ?_) fun c xs hc => ?_
      · refine k c v ?_ z
        rcases hc with hc | hc
        · rw [hc]
          exact hb
        · exact at_ne e hc exo_own
      · rw [upd_ne (at_ne e hc exo_own), upd_ne (ne_of_none hc hnd)]
        exact hc
      · rw [upd_ne (at_ne e hc exo_tup), upd_ne (ne_of_none hc hnd)]
        exact hc
/-- Exception.__init__(self) -/
theorem base_init {us : List Value} {Q : Value → Shared → Prop} (T : EcC X.K C) (I : Inv X pins σ H s) (e : H a = some (exo a C none)) (hl : us.length ≤ sizeLine) (h : ∀ s', Inv X pins σ H s' → Q .none s') :
    wpAny (model X.prog X.w) A (call (.builtin "Exception.__init__") (.ref a :: us)) Q E s := by
  obtain ⟨nm, q, N, bs, bm, sn, sub, ab, col, dd, k0, k1, k2, k3, k5, hC, hbm⟩ := T.cls
  obtain ⟨t1, ho⟩ := exo_at I.hok e
  obtain ⟨hp, g, d, t, os⟩ := s
  refine wpAny_call (PySem.HandSPX.init_base F.excBase_Exception (fun Y => ownTail_has Y bm hbm) (I.kIn _ _ hC) ho hl fun h' t2 k hx => ?_)
  have J := I.write (t' := t) (x := a) (e := a) (o := exo a C none) (by rw [e]; exact True.intro) (.inl rfl) k ⟨_, hx⟩ (exo_ok hx)
  have eu : upd H a (exo a C none) = H := funext fun b => by
    by_cases hb : b = a
    · rw [hb, upd_same, e]
    · rw [upd_ne hb]
  rw [eu] at J
  exact h _ J
end
/-! ### readings and rules -/
/-- Exception.__init__(self) -/
def tBase (K : PySem.W.Frag) (ta : TA) : TE := fun σ H Q => ta σ H fun vs H1 => ∃ (a C : Addr) (ws : List V), vs = .ref a :: ws ∧ ws.length ≤ 1000 ∧ EcC K C ∧ H1 a = some (exo a C none) ∧ Q .non H1
/-- self.f = e, the first one -/
def tPut (K : PySem.W.Frag) (f : Str) (to te : TE) : TS := fun D σ H => te σ H fun y H1 => to σ H1 fun x H2 => ∃ a C : Addr, x = .ref a ∧ EcC K C ∧ PySem.W.findIn K (.ref C) f = some none ∧
  H2 a = some (exo a C none) ∧ ∀ dx, H2 dx = none → dx ≠ a → D.nx σ (upd (upd H2 dx (exd dx [(f, y)])) a (exo a C (some dx)))
/-- R.__init__(self, ..), R a class of one's own -/
def tOwnInit (sp : Sp) (E : XK) (t : TA) : TE := fun σ H Q => t σ H fun vs H1 => sp vs H1 Q E
section
variable {X : Cx} {o e : Expr} {es : List Expr} {to te : TE} {ta : TA} {f : Str} {p p' p1 p2 pos : Pos}
theorem ty_exc : typeOf (.type "Exception") = pure (.type "type") := by kernel_rfl
theorem pe_base {pl : Sem Bool} (hg : Gl X "Exception") (hm : X.mg "Exception" = none) (vV : PySem.W.findCls X.K (.type "Exception") (.type "type") "__init__" = some (.val (.builtin "Exception.__init__"))) (ha : PA X (e :: es) ta)
    (hc : eval (.Call (.Attribute (.Name "Exception" p1) "__init__" p2) (e :: es) [] pos) X.env = (do
      let ov ← eval (.Name "Exception" p1) X.env
      standAt p2.atName
      let (fn, hd) ← holding [ov] (getMethod ov "__init__" pl)
      callWith pos fn hd (backTo pos (starEach (e :: es) X.env)) (backToKw pos (keywordEach [] X.env))) := by rfl)
    (he : starEach (e :: es) X.env = (false, eval e X.env) :: starEach es X.env := by rfl) (hpl : (backTo pos (starEach es X.env)).any (·.1) = false := by rfl) :
    PE X (.Call (.Attribute (.Name "Exception" p1) "__init__" p2) (e :: es) [] pos) (tBase X.K ta) := by
  constructor
  intro pins s σ H Q I h
  refine PySem.W.methodCall_KW (ld_blt I hg hm PyProof.Rows.Boot.«Exception» ?_ (by decide) (by decide)) hc
  obtain ⟨m, fr⟩ := I.fr
  refine PySem.W.method_type fr I.ok.mod.kin ty_exc (by decide +kernel) vV (by decide +kernel) ?_
  show wpAny _ _ (callWith pos (Value.builtin "Exception.__init__") [] (backTo pos (starEach (e :: es) X.env)) []) _ _ _
  refine PyProof.Rows.callWith_method1 (thn (ha.run pos pins _ σ H _ (I.tok _) h) fun us s1 hh => ?_) he hpl
  obtain ⟨vs, H1, I1, r1, a, C, ws, ev, hl, T, ea, q⟩ := hh
  subst ev
  cases r1 with
  | @cons _ u0 _ ur ra rw' =>
    obtain rfl : u0 = Value.ref a := ra
    have hlen : ur.length ≤ sizeLine := by
      rw [← Paired.length rw', sizeLine_eq]
      omega
    exact base_init T I1 ea hlen fun s' J => ⟨.non, H1, J, rfl, q⟩
theorem ps_put (ho : PE X o to) (he : PE X e te) (hs : swapsWith e (some (.Attribute o f p')) pos.line X.env = pure false := by rfl) : PS X (.Assign [.Attribute o f p'] e pos) (tPut X.K f to te) := by
  constructor
  intro pins s σ H D I h
  refine plainObj_wpAny_Assign_Attribute (thn (he.run pins s σ H _ I h) fun v s1 hh => ?_) hs
  obtain ⟨y, H1, I1, r1, q1⟩ := hh
  refine thn (ho.run pins s1 σ H1 _ I1 q1) fun u s2 hh => ?_
  obtain ⟨x, H2, I2, r2, a, C, ex, T, hno, ea, q⟩ := hh
  subst ex
  obtain rfl : u = Value.ref a := r2
  exact put_new T I2 ea hno r1 fun dx s' n ne J => ⟨σ, _, J, q dx n ne⟩
/-- the function that R's own attribute is -/
structure ClsFn (K : PySem.W.Frag) (R : Addr) (m : Str) (fI : Addr) : Prop where
  rd : PySem.W.readsIn K R (.type "type") = true
  ga : PySem.W.specialIn K (.ref R) "__getattribute__" = some (some (.builtin "type.__getattribute__"))
  at_ : PySem.W.findCls K (.ref R) (.type "type") m = some (.val (.ref fI))
  kp : PySem.W.keepIn K (.ref fI) = true
theorem pe_owninit {pl : Sem Bool} {x : Str} {R fI : Addr} {m : Str} {CX : CXT} {k : Nat} {fd : FuncData} {ps : List Str} {sp : Sp} {E : XK} (c : ClsFn X.K R m fI) (F1 : FnOk X.prog X.w X.K X.mg X.base CX k fI fd ps sp) (hr : Room k X.A) (hb : Binds X.K fd ps []) (hx : Passes CX X E)
    (hg : Gl X x) (hm : X.mg x = some (.ref R)) (ha : PA X (e :: es) ta) (hdb : (x == ("__debug__" : Str)) = false := by decide)
    (hc : eval (.Call (.Attribute (.Name x p1) m p2) (e :: es) [] pos) X.env = (do
      let ov ← eval (.Name x p1) X.env
      standAt p2.atName
      let (fn, hd) ← holding [ov] (getMethod ov m pl)
      callWith pos fn hd (backTo pos (starEach (e :: es) X.env)) (backToKw pos (keywordEach [] X.env))) := by rfl)
    (he : starEach (e :: es) X.env = (false, eval e X.env) :: starEach es X.env := by rfl) (hpl : (backTo pos (starEach es X.env)).any (·.1) = false := by rfl) :
    PE X (.Call (.Attribute (.Name x p1) m p2) (e :: es) [] pos) (tOwnInit sp E ta) := by
  constructor
  intro pins s σ H Q I h
  refine PySem.W.methodCall_KW (ld_glob I hg hm ?_ hdb) hc
  refine PySem.W.method_cls I.kIn c.ga ?_
  refine PySem.W.cls_value I.kIn c.rd c.at_ rfl ?_
  refine PySem.W.callWith_K (first := []) (h₀ := X.base) I.ok.mod.kin c.kp (thn (ha.run pos pins _ σ H _ (I.tok _) h) fun us s2 hh => ?_) he hpl
  obtain ⟨vs, H2, I2, r, q2⟩ := hh
  exact ⟨I2.kIn, run_fn (ds := []) (dvs := []) F1 hr hb .nil hx I2 r (by rw [List.append_nil]; exact q2)⟩
end
end PbX

set_option Elab.async false
set_option linter.all false
set_option maxRecDepth 100000
set_option maxHeartbeats 4000000
namespace PbX
open PySem PySem.Spec PyProof.Rows L2
section
variable {X : Cx} {e : Expr} {es : List Expr} {ta : TA} {p pos : Pos}
/-- behind the class's call: the exception is let go, its dict stands -/
theorem made_end {CX : CXT} {pins : List (Addr × Obj)} {σ : L2.St} {H1 : Hp} {Q : XK} {us : List Value} {vs : List V} {hp : Heap} {g : Array GenState} {dr : Drawn} {tk : Nat} {os : OsState} {C fI : Addr} {k : Nat} {fd : FuncData} {ps : List Str} {sp : Sp}
    (T : EcC X.K C) (iC : PySem.W.findIn X.K (.ref C) "__init__" = some (some (.ref fI))) (tI : PySem.W.typeIn X.K (.ref fI) = some (.type "function"))
    (F1 : FnOk X.prog X.w X.K X.mg X.base CX k fI fd ps sp) (hr : Room (k + 1) X.A) (hb : Binds X.K fd ps []) (hx : Passes CX X (fun _ _ _ => False))
    (I1 : Inv X pins σ H1 ⟨hp, g, dr, tk, os⟩) (r1 : Vals vs us) (hz : vs.length ≤ 1000)
    (q1 : ∀ a, H1 a = none → sp (.ref a :: vs) (upd H1 a (exo a C none))
      (fun v H2 => v = .non ∧ ∃ (d : Addr) (fs : List (Str × V)), H2 a = some (exo a C (some d)) ∧ H2 d = some (exd d fs) ∧ H1 d = none ∧ Q (.ref C) (some d) (upd (del H2 a) d (.xd fs))) (fun _ _ _ => False)) :
    wpAny (model X.prog X.w) X.A (call (.ref C) us) (MkP X pins σ Q) X.xe ⟨hp, g, dr, tk, os⟩ := by
  obtain ⟨nm, q, N, bs, bm, sn, sub, ab, col, dd, k0, k1, k2, k3, k5, hC, hbm⟩ := T.cls
  have hsz : hp.objs.size ≤ hp.objs.size + 1 := Nat.le_succ _
  have hn : H1 (hp.objs.size + 1) = none := I1.hok.fresh hsz
  have hq := q1 (hp.objs.size + 1) hn
  have hget : ((hp.push (PySem.W.kdv_tup us)).push (PySem.HandSPX.excO C hp.objs.size)).get? (hp.objs.size + 1) = some (PySem.HandSPX.excO C hp.objs.size) := by heap_get
  have keep : ∀ b o, hp.get? b = some o → ((hp.push (PySem.W.kdv_tup us)).push (PySem.HandSPX.excO C hp.objs.size)).get? b = some o :=
    fun b o e => Heap.get?_push_of_some _ (Heap.get?_push_of_some _ e)
  have I2 : Inv X pins σ (upd H1 (hp.objs.size + 1) (exo (hp.objs.size + 1) C none)) ⟨(hp.push (PySem.W.kdv_tup us)).push (PySem.HandSPX.excO C hp.objs.size), g, dr, tk, os⟩ :=
    I1.laid (t' := tk) (a := hp.objs.size + 1) (o := exo (hp.objs.size + 1) C none) (h' := (hp.push (PySem.W.kdv_tup us)).push (PySem.HandSPX.excO C hp.objs.size)) keep hsz (exo_ok hget)
  have r2 : Vals (V.ref (hp.objs.size + 1) :: vs) (Value.ref (hp.objs.size + 1) :: us) := .cons rfl r1
  have hl : (Value.ref (hp.objs.size + 1) :: us ++ []).length = ps.length := by
    rw [List.append_nil, ← r2.length]
    exact F1.len _ _ _ _ hq
  have hus : us.length ≤ sizeLine := by
    rw [← Paired.length r1, sizeLine_eq]
    omega
  have hbnd := hb _ (Value.ref (hp.objs.size + 1) :: us) I2.kIn hl
  rw [List.append_nil] at hbnd
  refine wpAny_call (PySem.HandSPX.call_own F.excBase_Exception (fun Y => ownTail_has Y bm hbm) (I1.kIn _ _ hC) (PySem.W.looks_findIn I1.kIn iC) (fun self => PySem.W.bind_fn I1.kIn self tI) hus
    (codeAny_mono (F1.run _ X.stack _ _ ⟨Value.ref (hp.objs.size + 1) :: us, []⟩ (Value.ref (hp.objs.size + 1) :: us) _ _ (fun _ _ _ => False) (hr.make C us []) (I2.env0.make C us []) hbnd r2 hq) fun r s' hq' => ?_))
  cases r with
  | error er => exact hx pins σ _ _ er s' I2 hq'
  | ok fl =>
    cases fl with
    | next => exact False.elim hq'
    | brk => exact False.elim hq'
    | cont => exact False.elim hq'
    | ret u =>
      obtain ⟨v, H2, os2, bare2, un2, hok2, rv, ev, d, fs, ea, ed, hd1, q2⟩ := hq'
      subst ev
      obtain ⟨h2, g2, d2, t2, os'⟩ := s'
      exact ⟨rv, mk_end (raises_own T.exC T.tyC) I1 hsz keep un2 hok2 os2 bare2 ea ed hd1 q2⟩
/-- C(e, ..) -/
theorem pmk_c {CX : CXT} {x : Str} {C fI : Addr} {k : Nat} {fd : FuncData} {ps : List Str} {sp : Sp} (T : EcC X.K C) (iC : PySem.W.findIn X.K (.ref C) "__init__" = some (some (.ref fI))) (tI : PySem.W.typeIn X.K (.ref fI) = some (.type "function"))
    (F1 : FnOk X.prog X.w X.K X.mg X.base CX k fI fd ps sp) (hr : Room (k + 1) X.A) (hb : Binds X.K fd ps []) (hx : Passes CX X (fun _ _ _ => False)) (hg : Gl X x) (hm : X.mg x = some (.ref C)) (ha : PA X (e :: es) ta)
    (hdb : (x == ("__debug__" : Str)) = false := by decide) (he : starEach (e :: es) X.env = (false, eval e X.env) :: starEach es X.env := by rfl) (hpl : (backTo pos (starEach es X.env)).any (·.1) = false := by rfl) :
    PMk X (.Call (.Name x p) (e :: es) [] pos) (tMkO C sp [] ta) := by
  intro pins s σ H Q I h
  refine wpAny_Call_Name_kw (ld_glob I hg hm ?_ hdb)
  refine PySem.W.callWith_K (h₀ := X.base) I.ok.mod.kin T.kC (thn (ha.run pos pins s σ H _ I h) fun us s1 hh => ?_) he hpl
  obtain ⟨vs, H1, I1, r1, hz, q1⟩ := hh
  obtain ⟨hp, g, dr, tk, os⟩ := s1
  refine ⟨I1.kIn, made_end T iC tI F1 hr hb hx I1 r1 hz fun a ha => ?_⟩
  have z := q1 a ha
  rw [List.append_nil] at z
  exact z
/-- C() -/
theorem pmk_c0 {CX : CXT} {x : Str} {C fI : Addr} {k : Nat} {fd : FuncData} {ps : List Str} {sp : Sp} (T : EcC X.K C) (iC : PySem.W.findIn X.K (.ref C) "__init__" = some (some (.ref fI))) (tI : PySem.W.typeIn X.K (.ref fI) = some (.type "function"))
    (F1 : FnOk X.prog X.w X.K X.mg X.base CX k fI fd ps sp) (hr : Room (k + 1) X.A) (hb : Binds X.K fd ps []) (hx : Passes CX X (fun _ _ _ => False)) (hg : Gl X x) (hm : X.mg x = some (.ref C))
    (hdb : (x == ("__debug__" : Str)) = false := by decide) : PMk X (.Call (.Name x p) [] [] pos) (tMkO C sp [] tNil) := by
  intro pins s σ H Q I h
  refine wpAny_Call_Name_kw (ld_glob I hg hm ?_ hdb)
  obtain ⟨hp, g, dr, tk, os⟩ := s
  exact PySem.W.callWith_K0 I.kIn T.kC (made_end T iC tI F1 hr hb hx I .nil (by show 0 ≤ 1000; omega) fun a ha => h.2 a ha)
end
/-! ### a field of the caught exception, whatever its class -/
def tCaught (K : PySem.W.Frag) (a : Addr) (cls : Value) (d : Option Addr) (f : Str) (te : TE) : TE := fun σ H Q => te σ H fun x H1 => x = .ref a ∧ ∃ (C dd : Addr) (fs : List (Str × V)) (v : V),
  cls = .ref C ∧ XfC K C ∧ PySem.W.findIn K (.ref C) f = some none ∧ d = some dd ∧ H1 dd = some (.xd fs) ∧ fs.lookup f = some v ∧ Q v H1
theorem pe_caught {X : Cx} {a : Addr} {oe : Obj} {cls : Value} {d : Option Addr} {pn : List (Addr × Obj)} {e : Expr} {te : TE} {pos : Pos} {n : Str}
    (hz : Zc cls d oe) (hf : ∃ vs, oe.data = .fields vs) (he : PE (X.suite a ((a, oe) :: pn)) e te) (hb : attributeBase e n X.env (eval e X.env) = eval e X.env := by rfl) :
    PE (X.suite a ((a, oe) :: pn)) (.Attribute e n pos) (tCaught X.K a cls d n te) := by
  constructor
  intro pins s σ H Q I h
  refine attr_of hb (thn (he.run pins s σ H _ I h) fun u s1 hh => ?_)
  obtain ⟨x, H1, I1, rx, ex, C, dd, fs, v, ec, T, hno, ed, ea, l, q⟩ := hh
  subst ex ec ed
  obtain rfl : u = Value.ref a := rx
  obtain ⟨ha, _⟩ := I1.pin (a, oe) (List.mem_append_left _ List.mem_cons_self)
  obtain ⟨vs, hd⟩ := hf
  have hx : ObjOk X.prog X.w H1 s1.heap dd (.xd fs) := I1.hok dd _ ea
  obtain ⟨mA, hns, hr⟩ := hx
  obtain ⟨od, ho, hl⟩ := lookIn_ns hns
  obtain ⟨u, hu, ru⟩ := RelO.some_of (v := v) (o := mA n) (by rw [← l]; exact hr n)
  have J : PySem.W.InstAt s1.heap a oe C (some od) := ⟨ha, hz.1, by unfold PySem.W.notCls; rw [hd] <;> rfl, by rw [hz.2]; exact ho⟩
  exact HandSPX.exc_get I1.kIn J T.ga T.gg T.exC (PySem.W.findObj_own T.hdC hno rfl (by rw [hl, hu])) (handed_of ru) ⟨v, H1, I1.tok _, ru, q⟩

/-! ### a call of a local that holds one of several defs; what they raise is wished for at the slots -/
structure HeldX (P : Program) (w : World) (K : PySem.W.Frag) (mg : Str → Option Value) (base : Heap) (k : Nat) (f : Addr) (sp : Sp) : Prop where
  ex : ∃ (fd : FuncData) (ps : List Str), FnOk P w K mg base (L2.CX P w) k f fd ps sp ∧ PySem.W.keepIn K (.ref f) = true ∧ Binds K fd ps []
def tCallAS (i : Nat) (S : Addr → Option Sp) (E : L2.St → XK) (t : TA) : TE := fun σ H Q => ∃ f sp, σ[i]? = some (some (.ref f)) ∧ S f = some sp ∧ t σ H fun vs H1 => sp vs H1 Q (E σ)
theorem pe_callAS {X : Cx} {k i : Nat} {x : Str} {p pos : Pos} {e : Expr} {es : List Expr} {t : TA} {E : L2.St → XK} {S : Addr → Option Sp} (A : ∀ f sp, S f = some sp → HeldX X.prog X.w X.K X.mg X.base k f sp) (hr : Room k X.A)
    (hN : X.N[i]? = some x) (hv : Vis X.env.scope x) (hx : ∀ σ, PassesAt (L2.CX X.prog X.w) X σ (E σ)) (ha : PA X (e :: es) t)
    (hdb : (x == ("__debug__" : Str)) = false := by decide) (hcd : (x == ("__classdict__" : Str)) = false := by decide)
    (he : starEach (e :: es) X.env = (false, eval e X.env) :: starEach es X.env := by rfl) (hpl : (backTo pos (starEach es X.env)).any (·.1) = false := by rfl) :
    PE X (.Call (.Name x p) (e :: es) [] pos) (tCallAS i S E t) := by
  constructor
  intro pins s σ H Q I h
  obtain ⟨f, sp, hs, hS, ht⟩ := h
  obtain ⟨fd, ps, F, hk, hb⟩ := (A f sp hS).ex
  refine wpAny_Call_Name_kw (thn ((pe_var (pos := p) hN hv hdb hcd).run pins s σ H (fun v H1 => v = .ref f ∧ H1 = H) I ⟨.ref f, hs, rfl, rfl⟩) fun u s1 hh => ?_)
  obtain ⟨v, H1, I1, r1, q1, q2⟩ := hh
  subst q1 q2
  cases r1
  refine PySem.W.callWith_K (h₀ := X.base) I.ok.mod.kin hk (thn (ha.run pos pins s1 σ _ _ I1 ht) fun us s2 hh => ?_) he hpl
  obtain ⟨vs, H2, I2, r, q⟩ := hh
  exact ⟨I2.kIn, run_fnS F hr hb (hx σ) I2 r q⟩
end PbX

/-! Texts over bytes: signs that no line has are told as one; what is read stays the same; a rule's text is what it was read from. -/
namespace Pb
open PeCode PeRule

/-- a sign that some line has -/
def rd (c : UInt8) : Bool := c == 10 || c == 32 || c == 43 || c == 45 || (48 ≤ c && c ≤ 57) || c == 61 || c == 62 || (97 ≤ c && c ≤ 122)
/-- every other sign is told as a question mark -/
def cl (c : UInt8) : UInt8 := if rd c then c else 63
theorem cl_rd {c : UInt8} (h : rd c = true) : cl c = c := if_pos h
theorem cl_not {c : UInt8} (h : rd c = false) : cl c = 63 := if_neg (by rw [h]; exact Bool.false_ne_true)
theorem rd63 : rd 63 = false := by decide
theorem cl_eq {k : UInt8} (hk : rd k = true) (c : UInt8) : cl c = k ↔ c = k := by
  cases h : rd c with
  | true => rw [cl_rd h]
  | false =>
    rw [cl_not h]
    constructor
    · intro e
      rw [← e, rd63] at hk
      cases hk
    · intro e
      rw [e, hk] at h
      cases h
def allRd (u : Bytes) : Bool := u.all rd
theorem map_cl_eq : ∀ {u : Bytes}, allRd u = true → ∀ b : Bytes, b.map cl = u ↔ b = u
  | [], _, b => by simp
  | k :: u, h, [] => by simp
  | k :: u, h, x :: b => by
    have h2 : rd k = true ∧ allRd u = true := by simpa [allRd] using h
    rw [List.map_cons, List.cons.injEq, List.cons.injEq, cl_eq h2.1, map_cl_eq h2.2 b]
theorem beq_cl {u : Bytes} (h : allRd u = true) (b : Bytes) : (u == b.map cl) = (u == b) := by
  rw [Bool.eq_iff_iff, beq_iff_eq, beq_iff_eq]
  constructor
  · intro e
    exact ((map_cl_eq h b).mp e.symm).symm
  · intro e
    exact ((map_cl_eq h b).mpr e.symm).symm
theorem beq_cl' {u : Bytes} (h : allRd u = true) (b : Bytes) : (b.map cl == u) = (b == u) := by
  rw [Bool.eq_iff_iff, beq_iff_eq, beq_iff_eq]
  exact map_cl_eq h b
theorem eq_cl {u : Bytes} (h : allRd u = true) (b : Bytes) : (b.map cl = u) = (b = u) := propext (map_cl_eq h b)

/-! ### pieces -/
theorem pieces_ne (c : UInt8) : ∀ t : Bytes, piecesAt c t ≠ []
  | [] => by simp [piecesAt]
  | x :: l => by
    unfold piecesAt
    cases h : piecesAt c l with
    | nil => simp
    | cons p r =>
      dsimp only
      split <;> simp
theorem pieces_cl {c : UInt8} (hc : rd c = true) : ∀ t : Bytes, piecesAt c (t.map cl) = (piecesAt c t).map (List.map cl)
  | [] => rfl
  | x :: l => by
    rw [List.map_cons]
    unfold piecesAt
    rw [pieces_cl hc l]
    cases h : piecesAt c l with
    | nil => exact absurd h (pieces_ne c l)
    | cons p r =>
      show (if cl x = c then [] :: p.map cl :: r.map (List.map cl) else (cl x :: p.map cl) :: r.map (List.map cl)) = (if x = c then [] :: p :: r else (x :: p) :: r).map (List.map cl)
      by_cases e : x = c
      · rw [if_pos e, if_pos ((cl_eq hc x).mpr e)]
        rfl
      · rw [if_neg e, if_neg (fun q => e ((cl_eq hc x).mp q))]
        rfl

/-! ### what is read of a line -/
theorem find_congr {α : Type} {p q : α → Bool} : ∀ (l : List α), (∀ x ∈ l, p x = q x) → l.find? p = l.find? q
  | [], _ => rfl
  | x :: l, h => by
    rw [List.find?_cons, List.find?_cons, h x (List.mem_cons_self ..), find_congr l fun y hy => h y (List.mem_cons_of_mem _ hy)]
theorem ops_rd : ∀ x ∈ OPS, allRd x.2 = true := by decide +kernel
theorem opOf_cl (b : Bytes) : opOf (b.map cl) = opOf b := by
  unfold opOf
  rw [find_congr OPS fun x hx => beq_cl (ops_rd x hx) b]
theorem regs_rd : ∀ r ∈ List.range REGS, allRd (regText r) = true := by decide +kernel
theorem regOf_cl (b : Bytes) : regOf (b.map cl) = regOf b := by
  unfold regOf
  exact find_congr _ fun r hr => beq_cl (regs_rd r hr) b
theorem names_rd : ∀ r ∈ List.range NAMES, allRd (nameText r) = true := by decide +kernel
theorem nameOf_cl (b : Bytes) : nameOf (b.map cl) = nameOf b := by
  unfold nameOf
  exact find_congr _ fun r hr => beq_cl (names_rd r hr) b
theorem digit_rd : ∀ n : Fin 256, isDigit (UInt8.ofFin n) = true → rd (UInt8.ofFin n) = true := by decide +kernel
theorem digit_rd' {c : UInt8} (h : isDigit c = true) : rd c = true := by
  have e : UInt8.ofFin c.toFin = c := rfl
  have := digit_rd c.toFin
  rw [e] at this
  exact this h
theorem digit_cl (c : UInt8) : isDigit (cl c) = isDigit c := by
  cases h : rd c with
  | true => rw [cl_rd h]
  | false =>
    rw [cl_not h]
    cases e : isDigit c with
    | true =>
      rw [digit_rd' e] at h
      cases h
    | false => decide
theorem allDigit_cl (b : Bytes) : (b.map cl).all isDigit = b.all isDigit := by
  rw [List.all_map]
  congr 1
  funext c
  exact digit_cl c
theorem map_cl_digits : ∀ {b : Bytes}, b.all isDigit = true → b.map cl = b
  | [], _ => rfl
  | c :: b, h => by
    have h2 : isDigit c = true ∧ b.all isDigit = true := by simpa using h
    rw [List.map_cons, cl_rd (digit_rd' h2.1), map_cl_digits h2.2]
theorem numOf_cl (b : Bytes) : numOf (b.map cl) = numOf b := by
  by_cases h : b.all isDigit = true
  · rw [map_cl_digits h]
  · unfold numOf
    rw [if_neg (fun q => h (by rw [← allDigit_cl]; exact q.2.1)), if_neg (fun q => h q.2.1)]
theorem bind_congr' {α β : Type} {f g : α → Option β} (o : Option α) (h : ∀ a, f a = g a) : o.bind f = o.bind g := by
  cases o with
  | none => rfl
  | some a => exact h a
theorem insOf_cl (l : Bytes) : insOf (l.map cl) = insOf l := by
  unfold insOf
  rw [pieces_cl (by decide)]
  match piecesAt 32 l with
  | [] => rfl
  | [w] => simp only [List.map_cons, List.map_nil, opOf_cl]
  | [w, a] => simp only [List.map_cons, List.map_nil, opOf_cl, regOf_cl]
  | [w, a, b] => simp only [List.map_cons, List.map_nil, opOf_cl, regOf_cl, numOf_cl]
  | w :: a :: b :: c :: r => simp only [List.map_cons, opOf_cl]
theorem patOf_cl {con : Bytes → Option Con} (hc : ∀ b, con (b.map cl) = con b) (l : Bytes) : patOf con (l.map cl) = patOf con l := by
  unfold patOf
  rw [pieces_cl (by decide)]
  match piecesAt 32 l with
  | [] => rfl
  | [w] => simp only [List.map_cons, List.map_nil, opOf_cl]
  | [w, a] => simp only [List.map_cons, List.map_nil, opOf_cl, nameOf_cl]
  | [w, a, b] => simp only [List.map_cons, List.map_nil, opOf_cl, nameOf_cl, hc]
  | w :: a :: b :: c :: r => simp only [List.map_cons, opOf_cl]
theorem leftCon_cl (b : Bytes) : leftCon (b.map cl) = leftCon b := by
  unfold leftCon
  simp only [eq_cl (show allRd [120] = true by decide), eq_cl (show allRd [121] = true by decide), numOf_cl]
theorem tailOf_cl {c : UInt8} (hc : rd c = true) (b : Bytes) : tailOf c (b.map cl) = ((tailOf c b).1, (tailOf c b).2.map cl) := by
  have h1 : allRd [43, c] = true := by simp [allRd, hc]; decide
  have h2 : allRd [45, c] = true := by simp [allRd, hc]; decide
  unfold tailOf
  rw [List.length_map, ← List.map_drop, ← List.map_take]
  simp only [eq_cl h1, eq_cl h2]
  split
  · rfl
  · split <;> rfl
theorem rightCon_cl (b : Bytes) : rightCon (b.map cl) = rightCon b := by
  unfold rightCon
  simp only [tailOf_cl (show rd 121 = true by decide), tailOf_cl (show rd 120 = true by decide), numOf_cl]
theorem readEach_cl {α : Type} {f : Bytes → Option α} (hf : ∀ b, f (b.map cl) = f b) : ∀ (i : Nat) (l : List Bytes), readEach f i (l.map (List.map cl)) = readEach f i l
  | _, [] => rfl
  | i, x :: l => by
    rw [List.map_cons]
    unfold readEach
    rw [hf, readEach_cl hf]
theorem last_cl (l : List Bytes) : ((l.map (List.map cl)).getLast? = some []) = (l.getLast? = some []) := by
  rw [List.getLast?_map]
  cases l.getLast? with
  | none => simp
  | some x => simp
theorem linesOf_cl (t : Bytes) : linesOf (t.map cl) = (linesOf t).map (List.map (List.map cl)) := by
  unfold linesOf
  rw [pieces_cl (by decide)]
  simp only [last_cl, List.length_map]
  split
  · rw [← List.map_dropLast]
    rfl
  · rfl
theorem readCode_cl (t : Bytes) : readCode (t.map cl) = readCode t := by
  unfold readCode
  rw [linesOf_cl, pieces_cl (by decide), ← List.map_dropLast, readEach_cl insOf_cl]
  cases linesOf t with
  | error k => rfl
  | ok l => exact readEach_cl insOf_cl 0 l
theorem findIdx_cl {u : Bytes} (h : allRd u = true) : ∀ l : List Bytes, (l.map (List.map cl)).findIdx (fun x => x == u) = l.findIdx (fun x => x == u)
  | [] => rfl
  | x :: l => by
    rw [List.map_cons, List.findIdx_cons, List.findIdx_cons, beq_cl' h, findIdx_cl h l]
theorem readRule_cl (t : Bytes) : readRule (t.map cl) = readRule t := by
  unfold readRule
  dsimp only
  rw [pieces_cl (by decide), ← List.map_dropLast, findIdx_cl (by decide +kernel), ← List.map_take, ← List.map_drop, readEach_cl (patOf_cl leftCon_cl), readEach_cl (patOf_cl rightCon_cl), List.length_map]
  simp only [last_cl]

/-! ### a text is its pieces -/
theorem pieces_glue (c : UInt8) : ∀ (t : Bytes) (ps : List Bytes) (q : Bytes), piecesAt c t = ps ++ [q] → t = (ps.flatMap fun p => p ++ [c]) ++ q
  | [], ps, q, h => by
    cases ps with
    | nil =>
      have e : ([[]] : List Bytes) = [q] := h
      injection e with e1
    | cons p ps =>
      have e := congrArg List.length (show ([[]] : List Bytes) = (p :: ps) ++ [q] from h)
      simp at e
  | x :: l, ps, q, h => by
    have ih := pieces_glue c l
    unfold piecesAt at h
    cases hp : piecesAt c l with
    | nil => exact absurd hp (pieces_ne c l)
    | cons p r =>
      rw [hp] at h ih
      dsimp only at h
      by_cases e : x = c
      · rw [if_pos e] at h
        cases ps with
        | nil =>
          have e2 := congrArg List.length h
          simp at e2
        | cons p0 ps =>
          rw [List.cons_append] at h
          injection h with h1 h2
          rw [ih ps q h2, ← h1, e]
          simp
      · rw [if_neg e] at h
        cases ps with
        | nil =>
          rw [List.nil_append] at h
          injection h with h1 h2
          have z := ih [] p (by rw [h2]; rfl)
          rw [z, ← h1]
          rfl
        | cons p0 ps =>
          rw [List.cons_append] at h
          injection h with h1 h2
          rw [ih (p :: ps) q (by rw [h2]; rfl), ← h1]
          simp
theorem lines_glue {t : Bytes} (h : (piecesAt 10 t).getLast? = some []) : t = (piecesAt 10 t).dropLast.flatMap fun p => p ++ [10] := by
  obtain ⟨ys, hl⟩ := List.getLast?_eq_some_iff.mp h
  have e := pieces_glue 10 t _ _ hl
  rw [List.append_nil] at e
  rw [hl, List.dropLast_concat]
  exact e
/-- words with one blank between -/
def glue : List Bytes → Bytes
  | [] => []
  | [p] => p
  | p :: q :: r => p ++ 32 :: glue (q :: r)
theorem glue_app : ∀ (l : List Bytes) (p : Bytes), l ≠ [] → glue (l ++ [p]) = glue l ++ 32 :: p
  | [], _, h => absurd rfl h
  | [a], p, _ => rfl
  | a :: b :: r, p, _ => by
    show a ++ 32 :: glue ((b :: r) ++ [p]) = a ++ 32 :: glue (b :: r) ++ 32 :: p
    rw [glue_app (b :: r) p (by simp)]
    simp
theorem words_glue : ∀ l : Bytes, glue (piecesAt 32 l) = l
  | [] => rfl
  | x :: l => by
    have ih := words_glue l
    unfold piecesAt
    cases h : piecesAt 32 l with
    | nil => exact absurd h (pieces_ne 32 l)
    | cons p r =>
      rw [h] at ih
      dsimp only
      by_cases e : x = 32
      · rw [if_pos e, e]
        show [] ++ 32 :: glue (p :: r) = _
        rw [ih]
        rfl
      · rw [if_neg e]
        cases r with
        | nil =>
          show x :: p = x :: l
          have ih2 : p = l := ih
          rw [ih2]
        | cons q r =>
          show (x :: p) ++ 32 :: glue (q :: r) = x :: l
          have ih2 : p ++ 32 :: glue (q :: r) = l := ih
          rw [← ih2]
          rfl

/-! ### numbers -/
def val (b : Bytes) : Nat := b.foldl (fun (n : Nat) (c : UInt8) => 10 * n + (c.toNat - 48)) 0
theorem val_snoc (b : Bytes) (c : UInt8) : val (b ++ [c]) = 10 * val b + (c.toNat - 48) := by
  unfold val
  rw [List.foldl_append]
  rfl
theorem digit_iff (c : UInt8) : isDigit c = true ↔ 48 ≤ c.toNat ∧ c.toNat ≤ 57 := by
  unfold isDigit
  rw [Bool.and_eq_true, decide_eq_true_iff, decide_eq_true_iff]
theorem digitChar_u8 : ∀ d : Nat, d < 10 → UInt8.ofNat (Nat.digitChar d).toNat = UInt8.ofNat (48 + d) := by decide +kernel
theorem decimal_lt {n : Nat} (h : n < 10) : decimal n = [UInt8.ofNat (48 + n)] := by
  unfold decimal
  rw [Nat.toString_eq_repr, Nat.repr, String.toList_ofList, Nat.toDigits_of_lt_base h]
  show [UInt8.ofNat (Nat.digitChar n).toNat] = _
  rw [digitChar_u8 n h]
theorem decimal_step {n : Nat} (h : 10 ≤ n) : decimal n = decimal (n / 10) ++ [UInt8.ofNat (48 + n % 10)] := by
  have hm : n % 10 < 10 := Nat.mod_lt n (by decide)
  have t : Nat.toDigits 10 (n / 10) ++ Nat.toDigits 10 (n % 10) = Nat.toDigits 10 (10 * (n / 10) + n % 10) := Nat.toDigits_append_toDigits (by decide) (by omega) hm
  rw [Nat.div_add_mod] at t
  unfold decimal
  rw [Nat.toString_eq_repr, Nat.toString_eq_repr, Nat.repr, Nat.repr, String.toList_ofList, String.toList_ofList, ← t, List.map_append, Nat.toDigits_of_lt_base hm]
  show _ ++ [UInt8.ofNat (Nat.digitChar (n % 10)).toNat] = _
  rw [digitChar_u8 _ hm]
theorem ofNat_digit {c : UInt8} (h : isDigit c = true) : UInt8.ofNat (48 + (c.toNat - 48)) = c := by
  have := (digit_iff c).mp h
  rw [show 48 + (c.toNat - 48) = c.toNat by omega, UInt8.ofNat_toNat]
theorem snoc_ind {α : Type} {P : List α → Prop} (h0 : P []) (hs : ∀ l a, P l → P (l ++ [a])) (l : List α) : P l := by
  have : ∀ n (l : List α), l.length = n → P l := by
    intro n
    induction n with
    | zero => intro l h; rw [List.length_eq_zero_iff.mp h]; exact h0
    | succ n ih =>
      intro l h
      have hl : l ≠ [] := fun e => by rw [e] at h; cases h
      rw [← List.dropLast_concat_getLast hl]
      exact hs _ _ (ih _ (by rw [List.length_dropLast]; omega))
  exact this _ l rfl
/-- without needless noughts: it's the number's own text -/
theorem decimal_val : ∀ (b : Bytes), b ≠ [] → b.all isDigit = true → (b.head? ≠ some 48 ∨ b.length = 1) → decimal (val b) = b ∧ (b.head? ≠ some 48 → 1 ≤ val b) := by
  refine snoc_ind (fun h => absurd rfl h) ?_
  intro b c ih _ hd hh
  rw [List.all_append, Bool.and_eq_true] at hd
  have hc : isDigit c = true := by simpa using hd.2
  have hc2 := (digit_iff c).mp hc
  rw [val_snoc]
  cases hb : b with
  | nil =>
    have e : 10 * val [] + (c.toNat - 48) = c.toNat - 48 := by unfold val; simp
    rw [e, decimal_lt (by omega), ofNat_digit hc]
    refine ⟨rfl, fun h => ?_⟩
    have : c ≠ 48 := by simpa using h
    have : c.toNat ≠ 48 := fun q => this (UInt8.toNat_inj.mp (by rw [q]; rfl))
    omega
  | cons x r =>
    rw [← hb]
    have hb0 : b ≠ [] := by rw [hb]; simp
    have hx : b.head? ≠ some 48 := by
      rcases hh with h | h
      · rw [hb] at h ⊢
        simpa using h
      · rw [hb] at h
        simp at h
    obtain ⟨i1, i2⟩ := ih hb0 hd.1 (.inl hx)
    have i3 := i2 hx
    refine ⟨?_, fun _ => by omega⟩
    rw [decimal_step (by omega), show (10 * val b + (c.toNat - 48)) / 10 = val b by omega, show (10 * val b + (c.toNat - 48)) % 10 = c.toNat - 48 by omega, i1, ofNat_digit hc]
theorem numOf_some {b : Bytes} {n : Nat} (h : numOf b = some n) : b ≠ [] ∧ b.all isDigit = true ∧ b.length ≤ 10 ∧ (b.head? ≠ some 48 ∨ b.length = 1) ∧ val b = n ∧ n < W := by
  unfold numOf at h
  split at h
  · rename_i q
    dsimp only at h
    split at h
    · rename_i q2
      have e : val b = n := Option.some.inj h
      exact ⟨q.1, q.2.1, q.2.2.1, q.2.2.2, e, by rw [← e]; exact q2⟩
    · cases h
  · cases h
theorem numOf_text {b : Bytes} {n : Nat} (h : numOf b = some n) : decimal n = b := by
  obtain ⟨h1, h2, _, h4, h5, _⟩ := numOf_some h
  rw [← h5]
  exact (decimal_val b h1 h2 h4).1

/-! ### a rule's text is what it was read from -/
theorem opOf_word {w : Bytes} {o : Op} (h : opOf w = some o) : o.word = w := by
  unfold opOf at h
  cases e : OPS.find? (fun x => x.2 == w) with
  | none => rw [e] at h; cases h
  | some x =>
    rw [e] at h
    have e1 : x.1 = o := Option.some.inj h
    have e2 : x.2 = w := eq_of_beq (List.find?_some (p := fun y : Op × Bytes => y.2 == w) e)
    have e3 := List.mem_of_find?_eq_some e
    have all : ∀ y ∈ OPS, y.1.word = y.2 := by decide +kernel
    rw [← e1, all x e3, e2]
theorem nameOf_text {b : Bytes} {x : Nat} (h : nameOf b = some x) : nameText x = b := by
  unfold nameOf at h
  exact eq_of_beq (List.find?_some (p := fun r => nameText r == b) h)
theorem regOf_text {b : Bytes} {x : Nat} (h : regOf b = some x) : regText x = b := by
  unfold regOf at h
  exact eq_of_beq (List.find?_some (p := fun r => regText r == b) h)
theorem leftCon_text {b : Bytes} {k : Con} (h : leftCon b = some k) : k.text true = b := by
  unfold leftCon at h
  split at h
  · rename_i e
    rw [← Option.some.inj h, e]
    rfl
  · split at h
    · rename_i e
      rw [← Option.some.inj h, e]
      rfl
    · cases hn : numOf b with
      | none => rw [hn] at h; cases h
      | some n =>
        rw [hn] at h
        rw [← Option.some.inj h]
        show decimal n ++ ([] ++ []) = b
        rw [numOf_text hn]
        simp
theorem take_drop_two (b : Bytes) : b = b.take (b.length - 2) ++ b.drop (b.length - 2) := (List.take_append_drop _ _).symm
theorem tailOf_glue (c : UInt8) (b : Bytes) : b = (tailOf c b).2 ++ signText (tailOf c b).1 c := by
  unfold tailOf
  split
  · rename_i e
    show b = b.take (b.length - 2) ++ [43, c]
    rw [← e]
    exact take_drop_two b
  · split
    · rename_i e
      show b = b.take (b.length - 2) ++ [45, c]
      rw [← e]
      exact take_drop_two b
    · show b = b ++ []
      simp
theorem rightCon_text {b : Bytes} {k : Con} (h : rightCon b = some k) : k.text false = b := by
  unfold rightCon at h
  dsimp only at h
  cases hn : numOf (tailOf 120 (tailOf 121 b).2).2 with
  | none => rw [hn] at h; cases h
  | some n =>
    rw [hn] at h
    rw [← Option.some.inj h]
    show decimal n ++ (signText (tailOf 120 (tailOf 121 b).2).1 120 ++ signText (tailOf 121 b).1 121) = b
    rw [numOf_text hn, ← List.append_assoc, ← tailOf_glue 120, ← tailOf_glue 121]
theorem words_of {l : Bytes} {ws : List Bytes} (h : piecesAt 32 l = ws) : glue ws = l := by
  rw [← h]
  exact words_glue l
theorem patOf_text {con : Bytes → Option Con} {side : Bool} (hc : ∀ {b : Bytes} {k : Con}, con b = some k → k.text side = b) {l : Bytes} {p : Pat} (h : patOf con l = some p) : p.text side = l := by
  unfold patOf at h
  match hw : piecesAt 32 l, h with
  | [], h => cases h
  | w :: r, h =>
    dsimp only at h
    cases ho : opOf w with
    | none => rw [ho] at h; cases h
    | some o =>
      rw [ho] at h
      have ew := opOf_word ho
      match r, hw, h with
      | [], hw, h => cases h
      | [a], hw, h =>
        dsimp only at h
        split at h
        · rename_i q
          cases ha : nameOf a with
          | none => rw [ha] at h; cases h
          | some x =>
            rw [ha] at h
            rw [← Option.some.inj h, ← words_of hw]
            show o.word ++ 32 :: (nameText x ++ ((if o.two = true then 32 :: nameText 0 else []) ++ if o.con = true then 32 :: NIL.text side else [])) = w ++ 32 :: a
            rw [if_neg (by rw [q.1]; exact Bool.false_ne_true), if_neg (by rw [q.2]; exact Bool.false_ne_true), ew, nameOf_text ha]
            simp
        · cases h
      | [a, b], hw, h =>
        dsimp only at h
        split at h
        · rename_i q
          cases ha : nameOf a with
          | none => rw [ha] at h; cases h
          | some x =>
            cases hb : nameOf b with
            | none => rw [ha, hb] at h; cases h
            | some y =>
              rw [ha, hb] at h
              have hq : o.con = false := by revert q; cases o <;> simp [Op.two, Op.con]
              rw [← Option.some.inj h, ← words_of hw]
              show o.word ++ 32 :: (nameText x ++ ((if o.two = true then 32 :: nameText y else []) ++ if o.con = true then 32 :: NIL.text side else [])) = w ++ 32 :: (a ++ 32 :: b)
              rw [if_pos q, if_neg (by rw [hq]; exact Bool.false_ne_true), ew, nameOf_text ha, nameOf_text hb]
              simp
        · split at h
          · rename_i q2 q
            cases ha : nameOf a with
            | none => rw [ha] at h; cases h
            | some x =>
              cases hb : con b with
              | none => rw [ha, hb] at h; cases h
              | some k =>
                rw [ha, hb] at h
                rw [← Option.some.inj h, ← words_of hw]
                show o.word ++ 32 :: (nameText x ++ ((if o.two = true then 32 :: nameText 0 else []) ++ if o.con = true then 32 :: k.text side else [])) = w ++ 32 :: (a ++ 32 :: b)
                rw [if_neg q2, if_pos q, ew, nameOf_text ha, hc hb]
                simp
          · cases h
      | a :: b :: c :: r, hw, h => cases h
theorem readEach_text {α : Type} {f : Bytes → Option α} {g : α → Bytes} (hf : ∀ {b : Bytes} {a : α}, f b = some a → g a = b) : ∀ {i : Nat} {l : List Bytes} {as : List α}, readEach f i l = .ok as → as.map g = l
  | _, [], as, h => by
    have e : [] = as := by injection h
    rw [← e]
    rfl
  | i, x :: l, as, h => by
    unfold readEach at h
    cases hx : f x with
    | none => rw [hx] at h; cases h
    | some y =>
      rw [hx] at h
      dsimp only at h
      cases hr : readEach f (i + 1) l with
      | error k => rw [hr] at h; cases h
      | ok r =>
        rw [hr] at h
        have e : y :: r = as := by injection h
        rw [← e, List.map_cons, hf hx, readEach_text hf hr]
theorem flatMap_of_map {α : Type} {g : α → Bytes} {as : List α} {l : List Bytes} (h : as.map g = l) : (as.flatMap fun a => g a ++ [10]) = l.flatMap fun p => p ++ [10] := by
  rw [← h, List.flatMap_map]
theorem findIdx_split {u : Bytes} : ∀ (l : List Bytes), l.findIdx (fun x => x == u) < l.length → l = l.take (l.findIdx fun x => x == u) ++ u :: l.drop (l.findIdx (fun x => x == u) + 1) := fun l h => by
  have e := List.findIdx_getElem (p := fun x => x == u) (w := h)
  have e2 : l[l.findIdx fun x => x == u] = u := eq_of_beq e
  have := List.take_append_drop (l.findIdx fun x => x == u) l
  rw [List.drop_eq_getElem_cons h, e2] at this
  exact this.symm
theorem readRule_text {t : Bytes} {r : Rule} (h : readRule t = .ok r) : r.text = t := by
  unfold readRule at h
  dsimp only at h
  generalize hl : (piecesAt 10 t).dropLast = l at h
  generalize hn : l.findIdx (fun x => x == str "=>") = n at h
  cases ha : readEach (patOf leftCon) 0 (l.take n) with
  | error k => rw [ha] at h; cases h
  | ok a =>
    rw [ha] at h
    dsimp only at h
    split at h
    · cases h
    · rename_i hlt
      cases hb : readEach (patOf rightCon) (n + 1) (l.drop (n + 1)) with
      | error k => rw [hb] at h; cases h
      | ok b =>
        rw [hb] at h
        dsimp only at h
        split at h
        · rename_i hlast
          have e : (⟨a, b⟩ : Rule) = r := by injection h
          rw [← e]
          have g := lines_glue hlast
          rw [hl] at g
          have s := findIdx_split (u := str "=>") l (by omega)
          rw [hn] at s
          rw [g]
          conv => rhs; rw [s]
          show (a.flatMap fun i => i.text true ++ [10]) ++ (str "=>" ++ [10]) ++ (b.flatMap fun i => i.text false ++ [10]) = _
          rw [flatMap_of_map (readEach_text (patOf_text leftCon_text) ha), flatMap_of_map (readEach_text (patOf_text rightCon_text) hb)]
          simp
        · cases h
end Pb

set_option Elab.async false
set_option linter.all false
set_option maxRecDepth 100000
set_option maxHeartbeats 4000000
namespace Pb
open PySem PySem.Spec PyProof.Rows L2
/-- a text of these bytes -/
def S (b : PeCode.Bytes) : Str := ⟨(b.map UInt8.toNat).toArray⟩
theorem S_tl (b : PeCode.Bytes) : (S b).cps.toList = b.map UInt8.toNat := rfl
theorem S_len (b : PeCode.Bytes) : (S b).length = b.length := by
  show ((b.map UInt8.toNat).toArray).size = _
  rw [List.size_toArray, List.length_map]
theorem map_u8_inj : ∀ {a b : List UInt8}, a.map UInt8.toNat = b.map UInt8.toNat → a = b
  | [], [], _ => rfl
  | [], _ :: _, h => by simp at h
  | _ :: _, [], h => by simp at h
  | x :: a, y :: b, h => by
    rw [List.map_cons, List.map_cons] at h
    injection h with h1 h2
    rw [UInt8.toNat_inj.mp h1, map_u8_inj h2]
theorem S_inj {a b : PeCode.Bytes} (h : S a = S b) : a = b := by
  have e : (S a).cps.toList = (S b).cps.toList := by rw [h]
  rw [S_tl, S_tl] at e
  exact map_u8_inj e
theorem S_eq (a b : PeCode.Bytes) : (S a = S b) = (a = b) := propext ⟨S_inj, fun h => by rw [h]⟩
theorem S_app (a b : PeCode.Bytes) : S a ++ S b = S (a ++ b) := by
  apply TL.ext_tl
  rw [TL.tl_append]
  show a.map UInt8.toNat ++ b.map UInt8.toNat = (a ++ b).map UInt8.toNat
  rw [List.map_append]
/-- plain signs -/
def Lo (b : PeCode.Bytes) : Prop := ∀ c ∈ b, c.toNat < 128
theorem Lo.tail {c : UInt8} {b : PeCode.Bytes} (h : Lo (c :: b)) : Lo b := fun x hx => h x (List.mem_cons_of_mem _ hx)
theorem Lo.sub {a b : PeCode.Bytes} (h : Lo b) (k : ∀ x ∈ a, x ∈ b) : Lo a := fun x hx => h x (k x hx)
theorem Lo.drop {b : PeCode.Bytes} (h : Lo b) (n : Nat) : Lo (b.drop n) := h.sub fun _ hx => List.mem_of_mem_drop hx
theorem Lo.take {b : PeCode.Bytes} (h : Lo b) (n : Nat) : Lo (b.take n) := h.sub fun _ hx => List.mem_of_mem_take hx
theorem cl_lo : ∀ n : _root_.Fin 256, (Pb.cl (UInt8.ofFin n)).toNat < 128 := by decide +kernel
theorem Lo.cl (b : PeCode.Bytes) : Lo (b.map Pb.cl) := fun c hc => by
  obtain ⟨x, _, rfl⟩ := List.mem_map.mp hc
  exact cl_lo x.toFin
theorem pieces_lo {c : UInt8} : ∀ {b : PeCode.Bytes}, Lo b → ∀ p ∈ PeCode.piecesAt c b, Lo p
  | [], _, p, hp => by
    have e : p = [] := by simpa [PeCode.piecesAt] using hp
    rw [e]
    intro x hx
    cases hx
  | x :: l, h, p, hp => by
    have ih := pieces_lo (c := c) h.tail
    unfold PeCode.piecesAt at hp
    cases e : PeCode.piecesAt c l with
    | nil => exact absurd e (pieces_ne c l)
    | cons q r =>
      rw [e] at hp ih
      dsimp only at hp
      split at hp
      · rcases List.mem_cons.mp hp with rfl | hp
        · intro x hx
          cases hx
        · exact ih p hp
      · rcases List.mem_cons.mp hp with rfl | hp
        · intro y hy
          rcases List.mem_cons.mp hy with rfl | hy
          · exact h _ (List.mem_cons_self ..)
          · exact ih q (List.mem_cons_self ..) y hy
        · exact ih p (List.mem_cons_of_mem _ hp)
theorem digit_lo : ∀ n : _root_.Fin 256, n.val < 128 → Unicode.isDigit n.val = PeCode.isDigit (UInt8.ofFin n) := by decide +kernel
theorem all_congr {α : Type} {p q : α → Bool} : ∀ {l : List α}, (∀ x ∈ l, p x = q x) → l.all p = l.all q
  | [], _ => rfl
  | x :: l, h => by
    rw [List.all_cons, List.all_cons, h x (List.mem_cons_self ..), all_congr fun y hy => h y (List.mem_cons_of_mem _ hy)]
theorem S_isdigit {b : PeCode.Bytes} (h : Lo b) : Txt.isdigit (S b) = (decide (b ≠ []) && b.all PeCode.isDigit) := by
  unfold Txt.isdigit
  have h1 : (decide ((S b).length > 0)) = decide (b ≠ []) := by
    rw [S_len]
    cases b <;> simp
  have h2 : (S b).cps.all Unicode.isDigit = b.all PeCode.isDigit := by
    show ((b.map UInt8.toNat).toArray).all Unicode.isDigit = _
    rw [List.all_toArray, List.all_map]
    exact all_congr fun c hc => digit_lo c.toFin (h c hc)
  rw [h1, h2]
theorem S_allDigits {b : PeCode.Bytes} (h : b.all PeCode.isDigit = true) : NumText.AllDigits (S b).cps.toList := by
  intro n hn
  rw [S_tl] at hn
  obtain ⟨c, hc, rfl⟩ := List.mem_map.mp hn
  exact (digit_iff c).mp (List.all_eq_true.mp h c hc)
theorem fold_val : ∀ (b : PeCode.Bytes) (a : Nat), (b.map UInt8.toNat).foldl (fun acc c => acc * 10 + (c - 48)) a = b.foldl (fun (n : Nat) (c : UInt8) => 10 * n + (c.toNat - 48)) a
  | [], _ => rfl
  | c :: b, a => by
    rw [List.map_cons, List.foldl_cons, List.foldl_cons, fold_val b, Nat.mul_comm a 10]
theorem S_val (b : PeCode.Bytes) : NumText.digitsVal (S b).cps.toList = val b := by
  rw [S_tl]
  exact fold_val b 0
theorem S_int {b : PeCode.Bytes} (h : b.all PeCode.isDigit = true) (h1 : b ≠ []) (h2 : b.length ≤ 4300) : PySem.intText? (S b) = some ((val b : Nat) : Int) := by
  have z := PySem.intText_digits (x := S b) (S_allDigits h) (by rw [S_tl]; simpa using h1) (by rw [S_len]; exact h2)
  rw [S_val] at z
  exact z
end Pb
namespace Pb
open PySem PySem.Spec PyProof.Rows L2
theorem S_startswith (a b : PeCode.Bytes) : Txt.startswith (S a) (S b) = (a.take b.length == b) := by
  unfold Txt.startswith Builtin.Str.subAt
  rw [S_len, S_len, Nat.zero_add]
  have e1 : (S a).cps.extract 0 b.length = ((a.take b.length).map UInt8.toNat).toArray := by
    show ((a.map UInt8.toNat).toArray).extract 0 b.length = _
    rw [List.extract_toArray, List.map_take]
    simp [List.extract]
  rw [e1]
  have e2 : (S b).cps = (b.map UInt8.toNat).toArray := rfl
  rw [e2]
  have e3 : (((a.take b.length).map UInt8.toNat).toArray == (b.map UInt8.toNat).toArray) = (a.take b.length == b) := by
    rw [Bool.eq_iff_iff, beq_iff_eq, beq_iff_eq]
    constructor
    · intro h
      exact map_u8_inj (by simpa using h)
    · intro h
      rw [h]
  rw [e3]
  by_cases h : b.length ≤ a.length
  · rw [decide_eq_true h, Bool.true_and]
  · rw [decide_eq_false h, Bool.false_and]
    refine (beq_eq_false_iff_ne.mpr fun q => ?_).symm
    have := congrArg List.length q
    rw [List.length_take] at this
    omega
theorem S_endswith (a b : PeCode.Bytes) : Txt.endswith (S a) (S b) = decide (b.length ≤ a.length ∧ a.drop (a.length - b.length) = b) := by
  unfold Txt.endswith Builtin.Str.subAt
  rw [S_len, S_len, Nat.zero_add]
  by_cases h : b.length ≤ a.length
  · have e1 : (S a).cps.extract (a.length - b.length) (a.length - b.length + b.length) = ((a.drop (a.length - b.length)).map UInt8.toNat).toArray := by
      show ((a.map UInt8.toNat).toArray).extract _ _ = _
      rw [List.extract_toArray, List.extract, List.map_drop, Nat.add_sub_cancel_left, List.take_of_length_le]
      simp
      omega
    rw [e1, decide_eq_true h, Bool.true_and]
    have e2 : (S b).cps = (b.map UInt8.toNat).toArray := rfl
    rw [e2, Bool.eq_iff_iff, beq_iff_eq, decide_eq_true_iff]
    constructor
    · intro q
      exact ⟨h, map_u8_inj (by simpa using q)⟩
    · intro q
      rw [q.2]
  · rw [decide_eq_false h, Bool.false_and, decide_eq_false fun q => h q.1]
theorem S0 : Str.ofString "0" = S [48] := by decide +kernel
theorem sizeLine_big {n : Nat} (h : n ≤ 200000) : n ≤ sizeLine := Nat.le_trans h (by decide)
end Pb

set_option Elab.async false
set_option linter.all false
set_option maxRecDepth 100000
set_option maxHeartbeats 4000000
namespace Pb
open PySem PySem.Spec PyProof.Rows L2 PbX
/-! ### an own exception class: what is looked at, what it says -/
def excB (K : PySem.W.Frag) (C : Addr) : Bool := match K.lookup C with
  | some ⟨.type t, _, .cls cd, sl⟩ => decide (t = "type") && ((match cd.mro with
    | .ref C' :: bm => decide (C' = C) && ownTail bm
    | _ => false) && (cd.hasDict && (!cd.hasDel && (match sl.toList with
    | [_, _, _, _, some (.builtin n), _] => decide (n = "Exception.__new__")
    | _ => false))))
  | _ => false
theorem excB_ok {K : PySem.W.Frag} {C : Addr} (h : excB K C = true) : ∃ nm q N bs bm sn sub ab col dd k0 k1 k2 k3 k5, K.lookup C = some (excClassObj nm q C N bs bm true sn sub ab col dd k0 k1 k2 k3 k5 "Exception.__new__") ∧ ownTail bm = true := by
  unfold excB at h
  cases q : K.lookup C with
  | none => rw [q] at h; cases h
  | some o =>
    obtain ⟨oc, od, dt, osl⟩ := o
    rw [q] at h
    cases oc with
    | type t =>
      cases dt with
      | cls cd =>
        obtain ⟨h1, h⟩ := He.ba h
        obtain ⟨h2, h⟩ := He.ba h
        obtain ⟨h3, h⟩ := He.ba h
        obtain ⟨h4, h5⟩ := He.ba h
        have e1 : t = "type" := of_decide_eq_true h1
        subst e1
        obtain ⟨nm, bs, mro, N, qn, hd, sn, sub, ab, col, del⟩ := cd
        have e3 : hd = true := h3
        have e4 : del = false := by
          cases del with
          | false => rfl
          | true => cases h4
        subst e3 e4
        cases mro with
        | nil => cases h2
        | cons m bm =>
          cases m with
          | ref C' =>
            obtain ⟨h6, h7⟩ := He.ba (show (decide (C' = C) && ownTail bm) = true from h2)
            have e6 : C' = C := of_decide_eq_true h6
            subst e6
            obtain ⟨sl⟩ := osl
            match sl, h5 with
            | [k0, k1, k2, k3, some (.builtin n), k5], h5 =>
              have e5 : n = "Exception.__new__" := of_decide_eq_true h5
              subst e5
              exact ⟨nm, qn, N, bs, bm, sn, sub, ab, col, od, k0, k1, k2, k3, k5, rfl, h7⟩
          | _ => cases h2
      | _ => cases h
    | _ => cases dt <;> cases h
/-- what is known of a class of refusals -/
structure Ref (K : PySem.W.Frag) (R C : Addr) : Prop where
  xf : XfC K C
  no : PySem.W.findIn K (.ref C) "answer" = some none
  ex : PySem.W.exmOne K (.ref C) (.ref R) = some true
structure ExcT (K : PySem.W.Frag) (R C : Addr) : Prop where
  ec : EcC K C
  rf : Ref K R C
  iC : PySem.W.findIn K (.ref C) "__init__" = some (some (.ref (He.ma K C "__init__")))
  tI : PySem.W.typeIn K (.ref (He.ma K C "__init__")) = some (.type "function")
def excTB (K : PySem.W.Frag) (R C : Addr) : Bool := excB K C && (He.eqO (PySem.W.findIn K (.ref C) "__setattr__") (some (some (.builtin "object.__setattr__"))) && (decide (PySem.W.typeIn K (.ref C) = some (.type "type")) && (PySem.W.keepIn K (.ref C) &&
  (xfB K C && (He.eqO (PySem.W.findIn K (.ref C) "answer") (some none) && (decide (PySem.W.exmOne K (.ref C) (.ref R) = some true) && (He.eqO (PySem.W.findIn K (.ref C) "__init__") (some (some (.ref (He.ma K C "__init__")))) &&
  decide (PySem.W.typeIn K (.ref (He.ma K C "__init__")) = some (.type "function")))))))))
theorem excTB_ok {K : PySem.W.Frag} {R C : Addr} (h : excTB K R C = true) : ExcT K R C := by
  obtain ⟨h1, h⟩ := He.ba h
  obtain ⟨h2, h⟩ := He.ba h
  obtain ⟨h3, h⟩ := He.ba h
  obtain ⟨h4, h⟩ := He.ba h
  obtain ⟨h5, h⟩ := He.ba h
  obtain ⟨h6, h⟩ := He.ba h
  obtain ⟨h7, h⟩ := He.ba h
  obtain ⟨h8, h9⟩ := He.ba h
  have x := xfB_ok h5
  exact ⟨⟨excB_ok h1, He.eqO_ok h2, x.exC, of_decide_eq_true h3, h4⟩, ⟨x, He.eqO_ok h6, of_decide_eq_true h7⟩, He.eqO_ok h8, of_decide_eq_true h9⟩
/-! ### a class's own __init__, called by the class's name -/
def clsFnB (K : PySem.W.Frag) (R fI : Addr) : Bool := PySem.W.readsIn K R (.type "type") && (He.eqO (PySem.W.specialIn K (.ref R) "__getattribute__") (some (some (.builtin "type.__getattribute__"))) &&
  ((match PySem.W.findCls K (.ref R) (.type "type") "__init__" with
    | some (.val (.ref a)) => decide (a = fI)
    | _ => false) && PySem.W.keepIn K (.ref fI)))
theorem clsFnB_ok {K : PySem.W.Frag} {R fI : Addr} (h : clsFnB K R fI = true) : ClsFn K R "__init__" fI := by
  obtain ⟨h1, h⟩ := He.ba h
  obtain ⟨h2, h⟩ := He.ba h
  obtain ⟨h3, h4⟩ := He.ba h
  refine ⟨h1, He.eqO_ok h2, ?_, h4⟩
  cases e : PySem.W.findCls K (.ref R) (.type "type") "__init__" with
  | none => rw [e] at h3; cases h3
  | some f =>
    rw [e] at h3
    cases f with
    | val v =>
      cases v with
      | ref a =>
        have e2 : a = fI := of_decide_eq_true h3
        rw [e2]
      | _ => cases h3
    | _ => cases h3
def excInitB (K : PySem.W.Frag) : Bool := match PySem.W.findCls K (.type "Exception") (.type "type") "__init__" with
  | some (.val (.builtin n)) => decide (n = "Exception.__init__")
  | _ => false
theorem excInitB_ok {K : PySem.W.Frag} (h : excInitB K = true) : PySem.W.findCls K (.type "Exception") (.type "type") "__init__" = some (.val (.builtin "Exception.__init__")) := by
  unfold excInitB at h
  cases e : PySem.W.findCls K (.type "Exception") (.type "type") "__init__" with
  | none => rw [e] at h; cases h
  | some f =>
    rw [e] at h
    cases f with
    | val v =>
      cases v with
      | builtin n =>
        have e2 : n = "Exception.__init__" := of_decide_eq_true h
        rw [e2]
      | _ => cases h
    | _ => cases h
/-! ### a table with text keys: what isn't in it -/
theorem keyOf_str {e : DictEntry} {x : Str} {n : Int} (h : He.keyOf e = some (x, n)) : ∃ t, e.key = .str x t := by
  unfold He.keyOf at h
  split at h
  · rename_i y t q
    have h2 := Option.some.inj h
    injection h2 with h3 h4
    exact ⟨t, by rw [q, h3]⟩
  · cases h
theorem keys_miss {P : Params} {z : Str} : ∀ {l : List DictEntry} {ks : List Str}, l.map He.keyOf = He.keysIn P ks → z ∉ ks → l.find? (·.key.isStr z) = none ∧ l.any (·.refKey) = false
  | [], _, _, _ => ⟨rfl, rfl⟩
  | e :: r, [], h, _ => by cases h
  | e :: r, k :: ks, h, hz => by
    have h1 : He.keyOf e :: r.map He.keyOf = some (k, PyData.keyHash P k) :: He.keysIn P ks := h
    injection h1 with h2 h3
    obtain ⟨t, et⟩ := keyOf_str h2
    obtain ⟨i1, i2⟩ := keys_miss h3 fun q => hz (List.mem_cons_of_mem _ q)
    have n1 : e.key.isStr z = false := by
      rw [et]
      have ne : k ≠ z := fun q => hz (by rw [q]; exact List.mem_cons_self ..)
      show (k == z) = false
      exact beq_eq_false_iff_ne.mpr ne
    have n2 : e.refKey = false := by
      unfold DictEntry.refKey
      rw [et]
    rw [List.find?_cons, n1, List.any_cons, n2]
    exact ⟨i1, i2⟩
theorem dic_miss {K : PySem.W.Frag} {P : Params} {a : Addr} {ks : List Str} {z : Str} (h : He.dicW K a = some (He.keysIn P ks)) (hz : z ∉ ks) : PySem.W.nsIn K a z = some none := by
  unfold He.dicW at h
  cases q : K.lookup a with
  | none => rw [q] at h; cases h
  | some o =>
    obtain ⟨oc, od, dt, osl⟩ := o
    rw [q] at h
    cases oc with
    | type c =>
      cases od with
      | none =>
        cases dt with
        | dict es n =>
          have h1 : (match decide (c = "dict") && (osl.isEmpty && !(a == sysModules)) with
            | true => some (es.toList.map He.keyOf)
            | false => none) = some (He.keysIn P ks) := h
          cases y : decide (c = "dict") && (osl.isEmpty && !(a == sysModules)) with
          | false => rw [y] at h1; cases h1
          | true =>
            rw [y] at h1
            obtain ⟨k1, k2⟩ := keys_miss (Option.some.inj h1) hz
            unfold PySem.W.nsIn
            rw [q]
            show (match es.toList.find? (·.key.isStr z) with
              | some e => some (some e.val)
              | none => if es.toList.any (·.refKey) then none else some none) = some none
            rw [k1, k2]
            rfl
        | _ => cases h
      | some b => cases dt <;> cases h
    | _ => cases od <;> cases dt <;> cases h
theorem SaysT_dic {fa : List He.Fa} {fn : List He.DefD} {ts : List He.Tab} {w : World} {K : PySem.W.Frag} (c : He.SaysT fa fn ts w K) (i : Nat) {t : He.Tab} (h : ts[i]? = some t) : He.dicW K (t.1 K) = some (He.keysIn w.params t.2) := by
  have e : ts.map (fun t => He.dicW K (t.1 K)) = ts.map fun t => some (He.keysIn w.params t.2) := congrArg (fun z : He.AlT => z.2) c
  have e2 : (ts.map fun t => He.dicW K (t.1 K))[i]? = (ts.map fun t => some (He.keysIn w.params t.2))[i]? := by rw [e]
  rw [List.getElem?_map, List.getElem?_map, h] at e2
  exact Option.some.inj e2
theorem all_at {α : Type} {p : α → Bool} {l : List α} (h : l.all p = true) (i : Nat) {x : α} (e : l[i]? = some x) : p x = true := List.all_eq_true.mp h x (List.mem_of_getElem? e)
/-! ### the hook: what the module's names reach, and the statics -/
def frP (g : Addr → Option Obj) (n : Nat) : PySem.W.Frag := He.frT g (List.range n)
abbrev AlP : Type := He.AlT × Bool
def obsP (n : Nat) (fa : List He.Fa) (fn : List He.DefD) (ts : List He.Tab) (ex : PySem.W.Frag → Bool) (g : Addr → Option Obj) : AlP := (He.obsT fa fn ts (frP g n), ex (frP g n))
def valP (fn : List He.DefD) (ts : List He.Tab) (w : World) : AlP := (He.valT fn ts w, true)
structure SaysP (fa : List He.Fa) (fn : List He.DefD) (ts : List He.Tab) (ex : PySem.W.Frag → Bool) (w : World) (K : PySem.W.Frag) : Prop where
  t : He.SaysT fa fn ts w K
  more : ex K = true
def hookP (n : Nat) (fa : List He.Fa) (fn : List He.DefD) (ts : List He.Tab) (ex : PySem.W.Frag → Bool) : PySem.W.Hook where
  α := AlP
  obs := fun s => obsP n fa fn ts ex s.heap.get?
  val := fun w => valP fn ts w
  says := fun w h => ∃ K : PySem.W.Frag, K.In h ∧ SaysP fa fn ts ex w K
  of := fun _ _ e => ⟨_, He.frT_in, ⟨congrArg (fun z : AlP => z.1) e, congrArg (fun z : AlP => z.2) e⟩⟩
  keeps := fun _ _ _ ⟨K, hK, c⟩ k => ⟨K, PySem.W.Frag.In.keeps hK k, c⟩
theorem obsP_eq {n : Nat} {fa : List He.Fa} {fn : List He.DefD} {ts : List He.Tab} {ex : PySem.W.Frag → Bool} {g : Addr → Option Obj} {s : Shared} (h : ∀ a, g a = s.heap.get? a) : obsP n fa fn ts ex g = (hookP n fa fn ts ex).obs s := by
  have e : g = s.heap.get? := funext h
  rw [e] <;> rfl
end Pb

set_option Elab.async false
set_option linter.all false
set_option maxRecDepth 100000
set_option maxHeartbeats 4000000
namespace Pb
open PySem PySem.Spec PyProof.Rows L2 PbX
/-- the def at f keeps the promise, whatever its function object -/
structure Has (P : Program) (w : World) (K : PySem.W.Frag) (mg : Str → Option Value) (base : Heap) (CX : CXT) (k : Nat) (f : Addr) (ps : List Str) (sp : Sp) : Prop where
  ex : ∃ fd : FuncData, FnOk P w K mg base CX k f fd ps sp ∧ Binds K fd ps []
  kp : PySem.W.keepIn K (.ref f) = true
def tCl (sp : Sp) (E : XK) (t : TA) : TE := fun σ H Q => t σ H fun vs H1 => sp vs H1 Q E
def tMt (C : Addr) (m : Str) (sp : Sp) (E : XK) (ta : TE) (t : TA) : TE := fun σ H Q => ta σ H fun x H1 => ∃ a dx fs, x = .ref a ∧ H1 a = some (.ins C dx fs) ∧ fs.lookup m = none ∧ t σ H1 fun vs H2 => sp (x :: vs) H2 Q E
def tMk (C : Addr) (sp : Sp) (E : XK) (t : TA) : TE := fun σ H Q => t σ H fun vs H1 => ∀ x dx, H1 x = none → H1 dx = none → dx ≠ x →
  sp (.ref x :: vs) (upd (upd H1 dx (.own x)) x (.ins C dx [])) (fun v H2 => v = .non ∧ Q (.ref x) H2) E
theorem PE.imp {X : Cx} {e : Expr} {t u : TE} (h : PE X e t) (k : ∀ σ H Q, u σ H Q → t σ H Q) : PE X e u := ⟨fun pins s σ H Q I z => h.run pins s σ H Q I (k σ H Q z)⟩
section
variable {X : Cx} {CX : CXT} {k : Nat} {f C : Addr} {ps : List Str} {sp : Sp} {E : XK} {x m : Str} {p pos apos : Pos} {e o : Expr} {es : List Expr} {ta : TE} {t : TA}
theorem pe_callH (G : Has X.prog X.w X.K X.mg X.base CX k f ps sp) (hr : Room k X.A) (hm : X.mg x = some (.ref f)) (hx : Passes CX X E) (ha : PA X (e :: es) t) (hg : Gl X x := by rfl)
    (hdb : (x == ("__debug__" : Str)) = false := by decide) (he : starEach (e :: es) X.env = (false, eval e X.env) :: starEach es X.env := by rfl) (hpl : (backTo pos (starEach es X.env)).any (·.1) = false := by rfl) :
    PE X (.Call (.Name x p) (e :: es) [] pos) (tCl sp E t) := by
  obtain ⟨fd, F, b⟩ := G.ex
  refine PE.imp (pe_call F hr hg hm G.kp b .nil hx ha hdb he hpl) fun σ H Q z => ?_
  have e0 : (fun (vs : List V) (H1 : Hp) => sp (vs ++ []) H1 Q E) = fun vs H1 => sp vs H1 Q E := by
    funext vs H1
    rw [List.append_nil]
  show t σ H (fun vs H1 => sp (vs ++ []) H1 Q E)
  rw [e0]
  exact z
theorem pe_call0H (G : Has X.prog X.w X.K X.mg X.base CX k f ps sp) (hr : Room k X.A) (hm : X.mg x = some (.ref f)) (hx : Passes CX X E) (hg : Gl X x := by rfl)
    (hdb : (x == ("__debug__" : Str)) = false := by decide) : PE X (.Call (.Name x p) [] [] pos) (tCl sp E tNil) := by
  obtain ⟨fd, F, b⟩ := G.ex
  exact PE.imp (pe_call0 F hr hg hm G.kp b .nil hx hdb) fun σ H Q z => z
theorem pe_methH {pl : Sem Bool} (he : PE X o ta) (c : Cls X.K C) (hm : Meth X.K C m f) (G : Has X.prog X.w X.K X.mg X.base CX k f ps sp) (hr : Room k X.A) (hx : Passes CX X E) (ha : PA X (e :: es) t)
    (hst : starEach (e :: es) X.env = (false, eval e X.env) :: starEach es X.env := by rfl) (hpl : (backTo pos (starEach es X.env)).any (·.1) = false := by rfl)
    (ht : eval (.Call (.Attribute o m apos) (e :: es) [] pos) X.env = (do
      let ov ← eval o X.env
      standAt apos.atName
      let (fn, hd) ← holding [ov] (getMethod ov m pl)
      callWith pos fn hd (backTo pos (starEach (e :: es) X.env)) (backToKw pos (keywordEach [] X.env))) := by rfl) :
    PE X (.Call (.Attribute o m apos) (e :: es) [] pos) (tMt C m sp E ta t) := by
  obtain ⟨fd, F, b⟩ := G.ex
  refine PE.imp (pe_meth he c hm F hr b .nil hx ha hst hpl ht) fun σ H Q z => ?_
  have e0 : (fun (x : V) (vs : List V) (H1 : Hp) => sp (x :: (vs ++ [])) H1 Q E) = fun x vs H1 => sp (x :: vs) H1 Q E := by
    funext x vs H1
    rw [List.append_nil]
  have e1 : ∀ x : V, (fun (vs : List V) (H1 : Hp) => sp (x :: (vs ++ [])) H1 Q E) = fun vs H1 => sp (x :: vs) H1 Q E := fun x => congrFun e0 x
  unfold tMeth
  simp only [e1]
  exact z
theorem pe_meth0H {pl : Sem Bool} (he : PE X o ta) (c : Cls X.K C) (hm : Meth X.K C m f) (G : Has X.prog X.w X.K X.mg X.base CX k f ps sp) (hr : Room k X.A) (hx : Passes CX X E)
    (ht : eval (.Call (.Attribute o m apos) [] [] pos) X.env = (do
      let ov ← eval o X.env
      standAt apos.atName
      let (fn, hd) ← holding [ov] (getMethod ov m pl)
      callWith pos fn hd (backTo pos (starEach [] X.env)) (backToKw pos (keywordEach [] X.env))) := by rfl) :
    PE X (.Call (.Attribute o m apos) [] [] pos) (tMt C m sp E ta tNil) := by
  obtain ⟨fd, F, b⟩ := G.ex
  exact PE.imp (pe_meth0 he c hm F hr b .nil hx ht) fun σ H Q z => z
theorem pe_makeH (M : Mk X.K C f) (G : Has X.prog X.w X.K X.mg X.base CX k f ps sp) (hr : Room (k + 1) X.A) (hm : X.mg x = some (.ref C)) (hx : Passes CX X E) (ha : PA X (e :: es) t) (hg : Gl X x := by rfl)
    (hdb : (x == ("__debug__" : Str)) = false := by decide) (he : starEach (e :: es) X.env = (false, eval e X.env) :: starEach es X.env := by rfl) (hpl : (backTo pos (starEach es X.env)).any (·.1) = false := by rfl) :
    PE X (.Call (.Name x p) (e :: es) [] pos) (tMk C sp E t) := by
  obtain ⟨fd, F, b⟩ := G.ex
  refine PE.imp (pe_make M F hr hg hm b .nil hx ha hdb he hpl) fun σ H Q z => ?_
  unfold tMake
  simp only [List.append_nil]
  exact z
theorem pe_make0H (M : Mk X.K C f) (G : Has X.prog X.w X.K X.mg X.base CX k f ps sp) (hr : Room (k + 1) X.A) (hm : X.mg x = some (.ref C)) (hx : Passes CX X E) (hg : Gl X x := by rfl)
    (hdb : (x == ("__debug__" : Str)) = false := by decide) : PE X (.Call (.Name x p) [] [] pos) (tMk C sp E tNil) := by
  obtain ⟨fd, F, b⟩ := G.ex
  exact PE.imp (pe_make0 M F hr hg hm b .nil hx hdb) fun σ H Q z => z
theorem pe_gi {n : Int} (hm : ∃ t, X.mg x = some (.int n t)) (hg : Gl X x := by rfl) (hd : (x == ("__debug__" : Str)) = false := by decide) : PE X (.Name x pos) (tC (.int n)) := by
  obtain ⟨t, e⟩ := hm
  exact pe_glob hg e ⟨t, rfl⟩ hd
theorem pe_gs {z : Str} (hm : ∃ t, X.mg x = some (.str z t)) (hg : Gl X x := by rfl) (hd : (x == ("__debug__" : Str)) = false := by decide) : PE X (.Name x pos) (tC (.str z)) := by
  obtain ⟨t, e⟩ := hm
  exact pe_glob hg e ⟨t, rfl⟩ hd
theorem pe_gr {a : Addr} (hm : X.mg x = some (.ref a)) (hg : Gl X x := by rfl) (hd : (x == ("__debug__" : Str)) = false := by decide) : PE X (.Name x pos) (tC (.ref a)) := pe_glob hg hm rfl hd
end
/-! ### a def of the text: its promise -/
structure Def (K : PySem.W.Frag) (x qual : Str) (st : Stmt) (f : Addr) (ps : List Str) : Prop where
  ex : ∃ fd, Fun K x qual st f fd
  bi : ∀ (kV doc pm : Value) (an : Option Addr) (cdv ct : Value) (us : List Value), us.length = ps.length → bindArgs (PySem.W.fnOf x qual (defArgs st) (defBody st) (defScope st) .none kV doc pm an cdv ct) ⟨us, []⟩ = pure (ps.zip us)
section
variable {P : Program} {w : World} {K : PySem.W.Frag} {mg : Str → Option Value} {base : Heap}
theorem Def.has {x qual : Str} {st : Stmt} {f : Addr} {N ps : List Str} {k : Nat} {sp : Sp} (D : Def K x qual st f ps) (S : FnScope N ps (defScope st)) (len : ∀ vs H Q E, sp vs H Q E → vs.length = ps.length)
    (hbody : ∀ (cdv : Value) (A : Around) (outer : List Env) (s : Shared) (H : Hp) (vs : List V) (Q : VK) (E : XK), Room k (A.deeper (envOfC qual (defScope st) s.heap.objs.size f cdv)) → sp vs H Q E →
      ∃ t, PSs (cxOf CX0 P w K mg base N qual (defScope st) f cdv A outer s H E).nox (defBody st) t ∧ t { nx := fun _ H' => Q .non H', rt := Q } (start N vs) H) : Has P w K mg base CX0 (k + 1) f ps sp := by
  obtain ⟨fd, F⟩ := D.ex
  exact ⟨⟨fd, F.ok S len hbody, F.binds D.bi⟩, F.kp⟩
theorem Def.hasX {x qual : Str} {st : Stmt} {f : Addr} {N ps : List Str} {k : Nat} {sp : Sp} (D : Def K x qual st f ps) (S : FnScope N ps (defScope st)) (len : ∀ vs H Q E, sp vs H Q E → vs.length = ps.length)
    (hbody : ∀ (cdv : Value) (A : Around) (outer : List Env) (s : Shared) (H : Hp) (vs : List V) (Q : VK) (E : XK), Room k (A.deeper (envOfC qual (defScope st) s.heap.objs.size f cdv)) → sp vs H Q E →
      ∃ t, PSs (cxOf (L2.CX P w) P w K mg base N qual (defScope st) f cdv A outer s H E) (defBody st) t ∧ t { nx := fun _ H' => Q .non H', rt := Q } (start N vs) H) : Has P w K mg base (L2.CX P w) (k + 1) f ps sp := by
  obtain ⟨fd, F⟩ := D.ex
  exact ⟨⟨fd, F.okX S len hbody, F.binds D.bi⟩, F.kp⟩
end
end Pb

set_option Elab.async false
set_option linter.all false
set_option maxRecDepth 100000
set_option maxHeartbeats 4000000
namespace Pb
open PySem PySem.Spec PyProof.Rows L2
/-- the i-th statement of the program -/
def top (i : Nat) : Stmt := PySem.Challenge.pw_peepbook_s01_answers.main.body.getD i (.Pass ⟨0, 0, 0, 0⟩)
abbrev s_Refusal_init : Stmt := inClass (top 1) 0
abbrev n_Refusal_init : List Str := ["self", "answer"]
abbrev p_Refusal_init : List Str := ["self", "answer"]
theorem sc_Refusal_init : FnScope n_Refusal_init p_Refusal_init (defScope s_Refusal_init) := ⟨rfl, rfl, rfl, by decide +kernel, rfl, by decide +kernel, by decide +kernel⟩
abbrev s_OutOfBounds_init : Stmt := inClass (top 2) 0
abbrev n_OutOfBounds_init : List Str := ["self"]
abbrev p_OutOfBounds_init : List Str := ["self"]
theorem sc_OutOfBounds_init : FnScope n_OutOfBounds_init p_OutOfBounds_init (defScope s_OutOfBounds_init) := ⟨rfl, rfl, rfl, by decide +kernel, rfl, by decide +kernel, by decide +kernel⟩
abbrev s_NotFormed_init : Stmt := inClass (top 3) 0
abbrev n_NotFormed_init : List Str := ["self"]
abbrev p_NotFormed_init : List Str := ["self"]
theorem sc_NotFormed_init : FnScope n_NotFormed_init p_NotFormed_init (defScope s_NotFormed_init) := ⟨rfl, rfl, rfl, by decide +kernel, rfl, by decide +kernel, by decide +kernel⟩
abbrev s_NotThere_init : Stmt := inClass (top 4) 0
abbrev n_NotThere_init : List Str := ["self"]
abbrev p_NotThere_init : List Str := ["self"]
theorem sc_NotThere_init : FnScope n_NotThere_init p_NotThere_init (defScope s_NotThere_init) := ⟨rfl, rfl, rfl, by decide +kernel, rfl, by decide +kernel, by decide +kernel⟩
abbrev s_NotRight_init : Stmt := inClass (top 5) 0
abbrev n_NotRight_init : List Str := ["self", "trial"]
abbrev p_NotRight_init : List Str := ["self", "trial"]
theorem sc_NotRight_init : FnScope n_NotRight_init p_NotRight_init (defScope s_NotRight_init) := ⟨rfl, rfl, rfl, by decide +kernel, rfl, by decide +kernel, by decide +kernel⟩
abbrev s_NotCheaper_init : Stmt := inClass (top 6) 0
abbrev n_NotCheaper_init : List Str := ["self"]
abbrev p_NotCheaper_init : List Str := ["self"]
theorem sc_NotCheaper_init : FnScope n_NotCheaper_init p_NotCheaper_init (defScope s_NotCheaper_init) := ⟨rfl, rfl, rfl, by decide +kernel, rfl, by decide +kernel, by decide +kernel⟩
abbrev s_NotFitting_init : Stmt := inClass (top 7) 0
abbrev n_NotFitting_init : List Str := ["self"]
abbrev p_NotFitting_init : List Str := ["self"]
theorem sc_NotFitting_init : FnScope n_NotFitting_init p_NotFitting_init (defScope s_NotFitting_init) := ⟨rfl, rfl, rfl, by decide +kernel, rfl, by decide +kernel, by decide +kernel⟩
abbrev s_NotReadable_init : Stmt := inClass (top 8) 0
abbrev n_NotReadable_init : List Str := ["self", "fault"]
abbrev p_NotReadable_init : List Str := ["self", "fault"]
theorem sc_NotReadable_init : FnScope n_NotReadable_init p_NotReadable_init (defScope s_NotReadable_init) := ⟨rfl, rfl, rfl, by decide +kernel, rfl, by decide +kernel, by decide +kernel⟩
abbrev s_NoRoom_init : Stmt := inClass (top 9) 0
abbrev n_NoRoom_init : List Str := ["self"]
abbrev p_NoRoom_init : List Str := ["self"]
theorem sc_NoRoom_init : FnScope n_NoRoom_init p_NoRoom_init (defScope s_NoRoom_init) := ⟨rfl, rfl, rfl, by decide +kernel, rfl, by decide +kernel, by decide +kernel⟩
abbrev s_text_of : Stmt := top 16
abbrev n_text_of : List Str := ["numbers", "signs", "sign", "number"]
abbrev p_text_of : List Str := ["numbers"]
theorem sc_text_of : FnScope n_text_of p_text_of (defScope s_text_of) := ⟨rfl, rfl, rfl, by decide +kernel, rfl, by decide +kernel, by decide +kernel⟩
abbrev s_bytes_of : Stmt := top 17
abbrev n_bytes_of : List Str := ["text", "sign"]
abbrev p_bytes_of : List Str := ["text"]
theorem sc_bytes_of : FnScope n_bytes_of p_bytes_of (defScope s_bytes_of) := ⟨rfl, rfl, rfl, by decide +kernel, rfl, by decide +kernel, by decide +kernel⟩
abbrev s_lines_of : Stmt := top 18
abbrev n_lines_of : List Str := ["text"]
abbrev p_lines_of : List Str := ["text"]
theorem sc_lines_of : FnScope n_lines_of p_lines_of (defScope s_lines_of) := ⟨rfl, rfl, rfl, by decide +kernel, rfl, by decide +kernel, by decide +kernel⟩
abbrev s_has_open_end : Stmt := top 19
abbrev n_has_open_end : List Str := ["text"]
abbrev p_has_open_end : List Str := ["text"]
theorem sc_has_open_end : FnScope n_has_open_end p_has_open_end (defScope s_has_open_end) := ⟨rfl, rfl, rfl, by decide +kernel, rfl, by decide +kernel, by decide +kernel⟩
abbrev s_read_number : Stmt := top 20
abbrev n_read_number : List Str := ["word", "number"]
abbrev p_read_number : List Str := ["word"]
theorem sc_read_number : FnScope n_read_number p_read_number (defScope s_read_number) := ⟨rfl, rfl, rfl, by decide +kernel, rfl, by decide +kernel, by decide +kernel⟩
abbrev s_Instruction_init : Stmt := inClass (top 27) 0
abbrev n_Instruction_init : List Str := ["self", "word", "first", "second"]
abbrev p_Instruction_init : List Str := ["self", "word", "first", "second"]
theorem sc_Instruction_init : FnScope n_Instruction_init p_Instruction_init (defScope s_Instruction_init) := ⟨rfl, rfl, rfl, by decide +kernel, rfl, by decide +kernel, by decide +kernel⟩
abbrev s_place_of : Stmt := top 28
abbrev n_place_of : List Str := ["word", "names"]
abbrev p_place_of : List Str := ["word", "names"]
theorem sc_place_of : FnScope n_place_of p_place_of (defScope s_place_of) := ⟨rfl, rfl, rfl, by decide +kernel, rfl, by decide +kernel, by decide +kernel⟩
abbrev s_read_instruction : Stmt := top 29
abbrev n_read_instruction : List Str := ["line", "names", "read_constant", "words", "word", "takes_more", "first", "second"]
abbrev p_read_instruction : List Str := ["line", "names", "read_constant"]
theorem sc_read_instruction : FnScope n_read_instruction p_read_instruction (defScope s_read_instruction) := ⟨rfl, rfl, rfl, by decide +kernel, rfl, by decide +kernel, by decide +kernel⟩
abbrev s_read_instructions : Stmt := top 30
abbrev n_read_instructions : List Str := ["lines", "start", "names", "read_constant", "instructions", "number", "line", "instruction"]
abbrev p_read_instructions : List Str := ["lines", "start", "names", "read_constant"]
theorem sc_read_instructions : FnScope n_read_instructions p_read_instructions (defScope s_read_instructions) := ⟨rfl, rfl, rfl, by decide +kernel, rfl, by decide +kernel, by decide +kernel⟩
abbrev s_read_code_line : Stmt := top 31
abbrev n_read_code_line : List Str := ["line"]
abbrev p_read_code_line : List Str := ["line"]
theorem sc_read_code_line : FnScope n_read_code_line p_read_code_line (defScope s_read_code_line) := ⟨rfl, rfl, rfl, by decide +kernel, rfl, by decide +kernel, by decide +kernel⟩
abbrev s_read_code : Stmt := top 32
abbrev n_read_code : List Str := ["text", "lines", "instructions"]
abbrev p_read_code : List Str := ["text"]
theorem sc_read_code : FnScope n_read_code p_read_code (defScope s_read_code) := ⟨rfl, rfl, rfl, by decide +kernel, rfl, by decide +kernel, by decide +kernel⟩
abbrev s_line_of : Stmt := top 33
abbrev n_line_of : List Str := ["instruction", "words"]
abbrev p_line_of : List Str := ["instruction"]
theorem sc_line_of : FnScope n_line_of p_line_of (defScope s_line_of) := ⟨rfl, rfl, rfl, by decide +kernel, rfl, by decide +kernel, by decide +kernel⟩
abbrev s_code_text : Stmt := top 34
abbrev n_code_text : List Str := ["instructions", "instruction"]
abbrev p_code_text : List Str := ["instructions"]
theorem sc_code_text : FnScope n_code_text p_code_text (defScope s_code_text) := ⟨rfl, rfl, rfl, by decide +kernel, rfl, by decide +kernel, by decide +kernel⟩
abbrev s_cost_of : Stmt := top 35
abbrev n_cost_of : List Str := ["instructions", "instruction"]
abbrev p_cost_of : List Str := ["instructions"]
theorem sc_cost_of : FnScope n_cost_of p_cost_of (defScope s_cost_of) := ⟨rfl, rfl, rfl, by decide +kernel, rfl, by decide +kernel, by decide +kernel⟩
abbrev s_carry_out : Stmt := top 36
abbrev n_carry_out : List Str := ["instruction", "state", "word", "first", "second", "before"]
abbrev p_carry_out : List Str := ["instruction", "state"]
theorem sc_carry_out : FnScope n_carry_out p_carry_out (defScope s_carry_out) := ⟨rfl, rfl, rfl, by decide +kernel, rfl, by decide +kernel, by decide +kernel⟩
abbrev s_state_after : Stmt := top 37
abbrev n_state_after : List Str := ["instructions", "state", "reached", "instruction"]
abbrev p_state_after : List Str := ["instructions", "state"]
theorem sc_state_after : FnScope n_state_after p_state_after (defScope s_state_after) := ⟨rfl, rfl, rfl, by decide +kernel, rfl, by decide +kernel, by decide +kernel⟩
abbrev s_zero_and_ones : Stmt := top 38
abbrev n_zero_and_ones : List Str := ["length", "rows", "place", "other"]
abbrev p_zero_and_ones : List Str := ["length"]
theorem sc_zero_and_ones : FnScope n_zero_and_ones p_zero_and_ones (defScope s_zero_and_ones) := ⟨rfl, rfl, rfl, by decide +kernel, rfl, by decide +kernel, by decide +kernel⟩
abbrev s_nine_states : Stmt := top 39
abbrev n_nine_states : List Str := []
abbrev p_nine_states : List Str := []
theorem sc_nine_states : FnScope n_nine_states p_nine_states (defScope s_nine_states) := ⟨rfl, rfl, rfl, by decide +kernel, rfl, by decide +kernel, by decide +kernel⟩
abbrev s_state_between : Stmt := top 40
abbrev n_state_between : List Str := ["one", "other", "state"]
abbrev p_state_between : List Str := ["one", "other"]
theorem sc_state_between : FnScope n_state_between p_state_between (defScope s_state_between) := ⟨rfl, rfl, rfl, by decide +kernel, rfl, by decide +kernel, by decide +kernel⟩
abbrev s_sum_at : Stmt := top 41
abbrev n_sum_at : List Str := ["instructions", "place", "reached", "added", "state", "number"]
abbrev p_sum_at : List Str := ["instructions", "place"]
theorem sc_sum_at : FnScope n_sum_at p_sum_at (defScope s_sum_at) := ⟨rfl, rfl, rfl, by decide +kernel, rfl, by decide +kernel, by decide +kernel⟩
abbrev s_Moment_init : Stmt := inClass (top 44) 0
abbrev n_Moment_init : List Str := ["self", "instructions", "worked"]
abbrev p_Moment_init : List Str := ["self", "instructions", "worked"]
theorem sc_Moment_init : FnScope n_Moment_init p_Moment_init (defScope s_Moment_init) := ⟨rfl, rfl, rfl, by decide +kernel, rfl, by decide +kernel, by decide +kernel⟩
abbrev s_are_alike : Stmt := top 45
abbrev n_are_alike : List Str := ["one", "other"]
abbrev p_are_alike : List Str := ["one", "other"]
theorem sc_are_alike : FnScope n_are_alike p_are_alike (defScope s_are_alike) := ⟨rfl, rfl, rfl, by decide +kernel, rfl, by decide +kernel, by decide +kernel⟩
abbrev s_History_init : Stmt := inClass (top 46) 0
abbrev n_History_init : List Str := ["self"]
abbrev p_History_init : List Str := ["self"]
theorem sc_History_init : FnScope n_History_init p_History_init (defScope s_History_init) := ⟨rfl, rfl, rfl, by decide +kernel, rfl, by decide +kernel, by decide +kernel⟩
abbrev s_History_edited : Stmt := inClass (top 46) 1
abbrev n_History_edited : List Str := ["self", "left"]
abbrev p_History_edited : List Str := ["self", "left"]
theorem sc_History_edited : FnScope n_History_edited p_History_edited (defScope s_History_edited) := ⟨rfl, rfl, rfl, by decide +kernel, rfl, by decide +kernel, by decide +kernel⟩
abbrev s_History_step_back : Stmt := inClass (top 46) 2
abbrev n_History_step_back : List Str := ["self", "left"]
abbrev p_History_step_back : List Str := ["self", "left"]
theorem sc_History_step_back : FnScope n_History_step_back p_History_step_back (defScope s_History_step_back) := ⟨rfl, rfl, rfl, by decide +kernel, rfl, by decide +kernel, by decide +kernel⟩
abbrev s_History_step_forth : Stmt := inClass (top 46) 3
abbrev n_History_step_forth : List Str := ["self", "left"]
abbrev p_History_step_forth : List Str := ["self", "left"]
theorem sc_History_step_forth : FnScope n_History_step_forth p_History_step_forth (defScope s_History_step_forth) := ⟨rfl, rfl, rfl, by decide +kernel, rfl, by decide +kernel, by decide +kernel⟩
abbrev s_Rule_init : Stmt := inClass (top 53) 0
abbrev n_Rule_init : List Str := ["self", "left", "right", "text"]
abbrev p_Rule_init : List Str := ["self", "left", "right", "text"]
theorem sc_Rule_init : FnScope n_Rule_init p_Rule_init (defScope s_Rule_init) := ⟨rfl, rfl, rfl, by decide +kernel, rfl, by decide +kernel, by decide +kernel⟩
abbrev s_Constant_init : Stmt := inClass (top 54) 0
abbrev n_Constant_init : List Str := ["self", "number", "times_x", "times_y"]
abbrev p_Constant_init : List Str := ["self", "number", "times_x", "times_y"]
theorem sc_Constant_init : FnScope n_Constant_init p_Constant_init (defScope s_Constant_init) := ⟨rfl, rfl, rfl, by decide +kernel, rfl, by decide +kernel, by decide +kernel⟩
abbrev s_Constant_worth : Stmt := inClass (top 54) 1
abbrev n_Constant_worth : List Str := ["self", "x", "y"]
abbrev p_Constant_worth : List Str := ["self", "x", "y"]
theorem sc_Constant_worth : FnScope n_Constant_worth p_Constant_worth (defScope s_Constant_worth) := ⟨rfl, rfl, rfl, by decide +kernel, rfl, by decide +kernel, by decide +kernel⟩
abbrev s_Fit_init : Stmt := inClass (top 55) 0
abbrev n_Fit_init : List Str := ["self"]
abbrev p_Fit_init : List Str := ["self"]
theorem sc_Fit_init : FnScope n_Fit_init p_Fit_init (defScope s_Fit_init) := ⟨rfl, rfl, rfl, by decide +kernel, rfl, by decide +kernel, by decide +kernel⟩
abbrev s_Fit_put_name : Stmt := inClass (top 55) 1
abbrev n_Fit_put_name : List Str := ["self", "name", "place"]
abbrev p_Fit_put_name : List Str := ["self", "name", "place"]
theorem sc_Fit_put_name : FnScope n_Fit_put_name p_Fit_put_name (defScope s_Fit_put_name) := ⟨rfl, rfl, rfl, by decide +kernel, rfl, by decide +kernel, by decide +kernel⟩
abbrev s_Fit_put_constant : Stmt := inClass (top 55) 2
abbrev n_Fit_put_constant : List Str := ["self", "constant", "number"]
abbrev p_Fit_put_constant : List Str := ["self", "constant", "number"]
theorem sc_Fit_put_constant : FnScope n_Fit_put_constant p_Fit_put_constant (defScope s_Fit_put_constant) := ⟨rfl, rfl, rfl, by decide +kernel, rfl, by decide +kernel, by decide +kernel⟩
abbrev s_Fit_told_x : Stmt := inClass (top 55) 3
abbrev n_Fit_told_x : List Str := ["self"]
abbrev p_Fit_told_x : List Str := ["self"]
theorem sc_Fit_told_x : FnScope n_Fit_told_x p_Fit_told_x (defScope s_Fit_told_x) := ⟨rfl, rfl, rfl, by decide +kernel, rfl, by decide +kernel, by decide +kernel⟩
abbrev s_Fit_told_y : Stmt := inClass (top 55) 4
abbrev n_Fit_told_y : List Str := ["self"]
abbrev p_Fit_told_y : List Str := ["self"]
theorem sc_Fit_told_y : FnScope n_Fit_told_y p_Fit_told_y (defScope s_Fit_told_y) := ⟨rfl, rfl, rfl, by decide +kernel, rfl, by decide +kernel, by decide +kernel⟩
abbrev s_read_left_constant : Stmt := top 56
abbrev n_read_left_constant : List Str := ["word", "number"]
abbrev p_read_left_constant : List Str := ["word"]
theorem sc_read_left_constant : FnScope n_read_left_constant p_read_left_constant (defScope s_read_left_constant) := ⟨rfl, rfl, rfl, by decide +kernel, rfl, by decide +kernel, by decide +kernel⟩
abbrev s_times_at_end : Stmt := top 57
abbrev n_times_at_end : List Str := ["word", "letter"]
abbrev p_times_at_end : List Str := ["word", "letter"]
theorem sc_times_at_end : FnScope n_times_at_end p_times_at_end (defScope s_times_at_end) := ⟨rfl, rfl, rfl, by decide +kernel, rfl, by decide +kernel, by decide +kernel⟩
abbrev s_read_right_constant : Stmt := top 58
abbrev n_read_right_constant : List Str := ["word", "times_y", "rest", "times_x", "number"]
abbrev p_read_right_constant : List Str := ["word"]
theorem sc_read_right_constant : FnScope n_read_right_constant p_read_right_constant (defScope s_read_right_constant) := ⟨rfl, rfl, rfl, by decide +kernel, rfl, by decide +kernel, by decide +kernel⟩
abbrev s_read_rule : Stmt := top 59
abbrev n_read_rule : List Str := ["text", "lines", "parted", "left", "right"]
abbrev p_read_rule : List Str := ["text"]
theorem sc_read_rule : FnScope n_read_rule p_read_rule (defScope s_read_rule) := ⟨rfl, rfl, rfl, by decide +kernel, rfl, by decide +kernel, by decide +kernel⟩
abbrev s_parts_of : Stmt := top 60
abbrev n_parts_of : List Str := ["side", "parts", "instruction"]
abbrev p_parts_of : List Str := ["side"]
theorem sc_parts_of : FnScope n_parts_of p_parts_of (defScope s_parts_of) := ⟨rfl, rfl, rfl, by decide +kernel, rfl, by decide +kernel, by decide +kernel⟩
abbrev s_is_formed : Stmt := top 61
abbrev n_is_formed : List Str := ["rule", "known", "part"]
abbrev p_is_formed : List Str := ["rule"]
theorem sc_is_formed : FnScope n_is_formed p_is_formed (defScope s_is_formed) := ⟨rfl, rfl, rfl, by decide +kernel, rfl, by decide +kernel, by decide +kernel⟩
abbrev s_filled_in : Stmt := top 62
abbrev n_filled_in : List Str := ["side", "places", "x", "y", "instructions", "instruction", "second"]
abbrev p_filled_in : List Str := ["side", "places", "x", "y"]
theorem sc_filled_in : FnScope n_filled_in p_filled_in (defScope s_filled_in) := ⟨rfl, rfl, rfl, by decide +kernel, rfl, by decide +kernel, by decide +kernel⟩
abbrev s_seven_trials : Stmt := top 63
abbrev n_seven_trials : List Str := []
abbrev p_seven_trials : List Str := []
theorem sc_seven_trials : FnScope n_seven_trials p_seven_trials (defScope s_seven_trials) := ⟨rfl, rfl, rfl, by decide +kernel, rfl, by decide +kernel, by decide +kernel⟩
abbrev s_state_on_trial : Stmt := top 64
abbrev n_state_on_trial : List Str := ["side", "trial", "names", "instructions"]
abbrev p_state_on_trial : List Str := ["side", "trial"]
theorem sc_state_on_trial : FnScope n_state_on_trial p_state_on_trial (defScope s_state_on_trial) := ⟨rfl, rfl, rfl, by decide +kernel, rfl, by decide +kernel, by decide +kernel⟩
abbrev s_trial_against : Stmt := top 65
abbrev n_trial_against : List Str := ["rule", "trial"]
abbrev p_trial_against : List Str := ["rule"]
theorem sc_trial_against : FnScope n_trial_against p_trial_against (defScope s_trial_against) := ⟨rfl, rfl, rfl, by decide +kernel, rfl, by decide +kernel, by decide +kernel⟩
abbrev s_read_sound_rule : Stmt := top 66
abbrev n_read_sound_rule : List Str := ["text", "rule", "trial"]
abbrev p_read_sound_rule : List Str := ["text"]
theorem sc_read_sound_rule : FnScope n_read_sound_rule p_read_sound_rule (defScope s_read_sound_rule) := ⟨rfl, rfl, rfl, by decide +kernel, rfl, by decide +kernel, by decide +kernel⟩
abbrev s_takes : Stmt := top 67
abbrev n_takes : List Str := ["fit", "wanted", "found"]
abbrev p_takes : List Str := ["fit", "wanted", "found"]
theorem sc_takes : FnScope n_takes p_takes (defScope s_takes) := ⟨rfl, rfl, rfl, by decide +kernel, rfl, by decide +kernel, by decide +kernel⟩
abbrev s_fit_at : Stmt := top 68
abbrev n_fit_at : List Str := ["rule", "instructions", "place", "covered", "fit", "wanted", "found"]
abbrev p_fit_at : List Str := ["rule", "instructions", "place"]
theorem sc_fit_at : FnScope n_fit_at p_fit_at (defScope s_fit_at) := ⟨rfl, rfl, rfl, by decide +kernel, rfl, by decide +kernel, by decide +kernel⟩
abbrev s_put_to_work : Stmt := top 69
abbrev n_put_to_work : List Str := ["rule", "fit", "instructions", "place", "replaced"]
abbrev p_put_to_work : List Str := ["rule", "fit", "instructions", "place"]
theorem sc_put_to_work : FnScope n_put_to_work p_put_to_work (defScope s_put_to_work) := ⟨rfl, rfl, rfl, by decide +kernel, rfl, by decide +kernel, by decide +kernel⟩
abbrev s_Step_init : Stmt := inClass (top 71) 0
abbrev n_Step_init : List Str := ["self", "number", "place", "fit"]
abbrev p_Step_init : List Str := ["self", "number", "place", "fit"]
theorem sc_Step_init : FnScope n_Step_init p_Step_init (defScope s_Step_init) := ⟨rfl, rfl, rfl, by decide +kernel, rfl, by decide +kernel, by decide +kernel⟩
abbrev s_next_step : Stmt := top 72
abbrev n_next_step : List Str := ["held", "instructions", "numbers", "place", "number", "fit"]
abbrev p_next_step : List Str := ["held", "instructions"]
theorem sc_next_step : FnScope n_next_step p_next_step (defScope s_next_step) := ⟨rfl, rfl, rfl, by decide +kernel, rfl, by decide +kernel, by decide +kernel⟩
abbrev s_moment_after : Stmt := top 73
abbrev n_moment_after : List Str := ["held", "moment", "step", "instructions"]
abbrev p_moment_after : List Str := ["held", "moment", "step"]
theorem sc_moment_after : FnScope n_moment_after p_moment_after (defScope s_moment_after) := ⟨rfl, rfl, rfl, by decide +kernel, rfl, by decide +kernel, by decide +kernel⟩
abbrev s_moment_at_rest : Stmt := top 74
abbrev n_moment_at_rest : List Str := ["held", "moment", "step"]
abbrev p_moment_at_rest : List Str := ["held", "moment"]
theorem sc_moment_at_rest : FnScope n_moment_at_rest p_moment_at_rest (defScope s_moment_at_rest) := ⟨rfl, rfl, rfl, by decide +kernel, rfl, by decide +kernel, by decide +kernel⟩
abbrev s_read_whole_code : Stmt := top 78
abbrev n_read_whole_code : List Str := ["text", "instructions"]
abbrev p_read_whole_code : List Str := ["text"]
theorem sc_read_whole_code : FnScope n_read_whole_code p_read_whole_code (defScope s_read_whole_code) := ⟨rfl, rfl, rfl, by decide +kernel, rfl, by decide +kernel, by decide +kernel⟩
abbrev s_Session_init : Stmt := inClass (top 79) 0
abbrev n_Session_init : List Str := ["self"]
abbrev p_Session_init : List Str := ["self"]
theorem sc_Session_init : FnScope n_Session_init p_Session_init (defScope s_Session_init) := ⟨rfl, rfl, rfl, by decide +kernel, rfl, by decide +kernel, by decide +kernel⟩
abbrev s_Session_load : Stmt := inClass (top 79) 1
abbrev n_Session_load : List Str := ["self", "text"]
abbrev p_Session_load : List Str := ["self", "text"]
theorem sc_Session_load : FnScope n_Session_load p_Session_load (defScope s_Session_load) := ⟨rfl, rfl, rfl, by decide +kernel, rfl, by decide +kernel, by decide +kernel⟩
abbrev s_Session_code : Stmt := inClass (top 79) 2
abbrev n_Session_code : List Str := ["self"]
abbrev p_Session_code : List Str := ["self"]
theorem sc_Session_code : FnScope n_Session_code p_Session_code (defScope s_Session_code) := ⟨rfl, rfl, rfl, by decide +kernel, rfl, by decide +kernel, by decide +kernel⟩
abbrev s_Session_put : Stmt := inClass (top 79) 3
abbrev n_Session_put : List Str := ["self", "place", "line", "words", "before", "instruction"]
abbrev p_Session_put : List Str := ["self", "place", "line"]
theorem sc_Session_put : FnScope n_Session_put p_Session_put (defScope s_Session_put) := ⟨rfl, rfl, rfl, by decide +kernel, rfl, by decide +kernel, by decide +kernel⟩
abbrev s_Session_cut : Stmt := inClass (top 79) 4
abbrev n_Session_cut : List Str := ["self", "place", "before"]
abbrev p_Session_cut : List Str := ["self", "place"]
theorem sc_Session_cut : FnScope n_Session_cut p_Session_cut (defScope s_Session_cut) := ⟨rfl, rfl, rfl, by decide +kernel, rfl, by decide +kernel, by decide +kernel⟩
abbrev s_Session_judge : Stmt := inClass (top 79) 5
abbrev n_Session_judge : List Str := ["self", "text", "rule"]
abbrev p_Session_judge : List Str := ["self", "text"]
theorem sc_Session_judge : FnScope n_Session_judge p_Session_judge (defScope s_Session_judge) := ⟨rfl, rfl, rfl, by decide +kernel, rfl, by decide +kernel, by decide +kernel⟩
abbrev s_Session_rule : Stmt := inClass (top 79) 6
abbrev n_Session_rule : List Str := ["self", "text", "rule", "number"]
abbrev p_Session_rule : List Str := ["self", "text"]
theorem sc_Session_rule : FnScope n_Session_rule p_Session_rule (defScope s_Session_rule) := ⟨rfl, rfl, rfl, by decide +kernel, rfl, by decide +kernel, by decide +kernel⟩
abbrev s_Session_drop : Stmt := inClass (top 79) 7
abbrev n_Session_drop : List Str := ["self", "number"]
abbrev p_Session_drop : List Str := ["self", "number"]
theorem sc_Session_drop : FnScope n_Session_drop p_Session_drop (defScope s_Session_drop) := ⟨rfl, rfl, rfl, by decide +kernel, rfl, by decide +kernel, by decide +kernel⟩
abbrev s_Session_say : Stmt := inClass (top 79) 8
abbrev n_Session_say : List Str := ["self", "number"]
abbrev p_Session_say : List Str := ["self", "number"]
theorem sc_Session_say : FnScope n_Session_say p_Session_say (defScope s_Session_say) := ⟨rfl, rfl, rfl, by decide +kernel, rfl, by decide +kernel, by decide +kernel⟩
abbrev s_Session_fits : Stmt := inClass (top 79) 9
abbrev n_Session_fits : List Str := ["self", "number", "place", "fit"]
abbrev p_Session_fits : List Str := ["self", "number", "place"]
theorem sc_Session_fits : FnScope n_Session_fits p_Session_fits (defScope s_Session_fits) := ⟨rfl, rfl, rfl, by decide +kernel, rfl, by decide +kernel, by decide +kernel⟩
abbrev s_Session_at : Stmt := inClass (top 79) 10
abbrev n_Session_at : List Str := ["self", "number", "place", "step"]
abbrev p_Session_at : List Str := ["self", "number", "place"]
theorem sc_Session_at : FnScope n_Session_at p_Session_at (defScope s_Session_at) := ⟨rfl, rfl, rfl, by decide +kernel, rfl, by decide +kernel, by decide +kernel⟩
abbrev s_Session_step : Stmt := inClass (top 79) 11
abbrev n_Session_step : List Str := ["self", "step"]
abbrev p_Session_step : List Str := ["self"]
theorem sc_Session_step : FnScope n_Session_step p_Session_step (defScope s_Session_step) := ⟨rfl, rfl, rfl, by decide +kernel, rfl, by decide +kernel, by decide +kernel⟩
abbrev s_Session_run : Stmt := inClass (top 79) 12
abbrev n_Session_run : List Str := ["self", "reached", "made"]
abbrev p_Session_run : List Str := ["self"]
theorem sc_Session_run : FnScope n_Session_run p_Session_run (defScope s_Session_run) := ⟨rfl, rfl, rfl, by decide +kernel, rfl, by decide +kernel, by decide +kernel⟩
abbrev s_Session_trail : Stmt := inClass (top 79) 13
abbrev n_Session_trail : List Str := ["self", "told", "pair"]
abbrev p_Session_trail : List Str := ["self"]
theorem sc_Session_trail : FnScope n_Session_trail p_Session_trail (defScope s_Session_trail) := ⟨rfl, rfl, rfl, by decide +kernel, rfl, by decide +kernel, by decide +kernel⟩
abbrev s_Session_reckon : Stmt := inClass (top 79) 14
abbrev n_Session_reckon : List Str := ["self", "numbers"]
abbrev p_Session_reckon : List Str := ["self", "numbers"]
theorem sc_Session_reckon : FnScope n_Session_reckon p_Session_reckon (defScope s_Session_reckon) := ⟨rfl, rfl, rfl, by decide +kernel, rfl, by decide +kernel, by decide +kernel⟩
abbrev s_Session_form : Stmt := inClass (top 79) 15
abbrev n_Session_form : List Str := ["self", "place"]
abbrev p_Session_form : List Str := ["self", "place"]
theorem sc_Session_form : FnScope n_Session_form p_Session_form (defScope s_Session_form) := ⟨rfl, rfl, rfl, by decide +kernel, rfl, by decide +kernel, by decide +kernel⟩
abbrev s_Session_same : Stmt := inClass (top 79) 16
abbrev n_Session_same : List Str := ["self", "text", "state"]
abbrev p_Session_same : List Str := ["self", "text"]
theorem sc_Session_same : FnScope n_Session_same p_Session_same (defScope s_Session_same) := ⟨rfl, rfl, rfl, by decide +kernel, rfl, by decide +kernel, by decide +kernel⟩
abbrev s_Session_state : Stmt := inClass (top 79) 17
abbrev n_Session_state : List Str := ["self"]
abbrev p_Session_state : List Str := ["self"]
theorem sc_Session_state : FnScope n_Session_state p_Session_state (defScope s_Session_state) := ⟨rfl, rfl, rfl, by decide +kernel, rfl, by decide +kernel, by decide +kernel⟩
abbrev s_Session_undo : Stmt := inClass (top 79) 18
abbrev n_Session_undo : List Str := ["self"]
abbrev p_Session_undo : List Str := ["self"]
theorem sc_Session_undo : FnScope n_Session_undo p_Session_undo (defScope s_Session_undo) := ⟨rfl, rfl, rfl, by decide +kernel, rfl, by decide +kernel, by decide +kernel⟩
abbrev s_Session_redo : Stmt := inClass (top 79) 19
abbrev n_Session_redo : List Str := ["self"]
abbrev p_Session_redo : List Str := ["self"]
theorem sc_Session_redo : FnScope n_Session_redo p_Session_redo (defScope s_Session_redo) := ⟨rfl, rfl, rfl, by decide +kernel, rfl, by decide +kernel, by decide +kernel⟩
abbrev s_Session_hand_in : Stmt := inClass (top 79) 20
abbrev n_Session_hand_in : List Str := ["self", "instructions"]
abbrev p_Session_hand_in : List Str := ["self", "instructions"]
theorem sc_Session_hand_in : FnScope n_Session_hand_in p_Session_hand_in (defScope s_Session_hand_in) := ⟨rfl, rfl, rfl, by decide +kernel, rfl, by decide +kernel, by decide +kernel⟩
abbrev s_Session_become : Stmt := inClass (top 79) 21
abbrev n_Session_become : List Str := ["self", "moment"]
abbrev p_Session_become : List Str := ["self", "moment"]
theorem sc_Session_become : FnScope n_Session_become p_Session_become (defScope s_Session_become) := ⟨rfl, rfl, rfl, by decide +kernel, rfl, by decide +kernel, by decide +kernel⟩
abbrev s_Session_size : Stmt := inClass (top 79) 22
abbrev n_Session_size : List Str := ["self"]
abbrev p_Session_size : List Str := ["self"]
theorem sc_Session_size : FnScope n_Session_size p_Session_size (defScope s_Session_size) := ⟨rfl, rfl, rfl, by decide +kernel, rfl, by decide +kernel, by decide +kernel⟩
abbrev s_Session_held_rule : Stmt := inClass (top 79) 23
abbrev n_Session_held_rule : List Str := ["self", "number"]
abbrev p_Session_held_rule : List Str := ["self", "number"]
theorem sc_Session_held_rule : FnScope n_Session_held_rule p_Session_held_rule (defScope s_Session_held_rule) := ⟨rfl, rfl, rfl, by decide +kernel, rfl, by decide +kernel, by decide +kernel⟩
abbrev s_Session_held_fit : Stmt := inClass (top 79) 24
abbrev n_Session_held_fit : List Str := ["self", "number", "place", "fit"]
abbrev p_Session_held_fit : List Str := ["self", "number", "place"]
theorem sc_Session_held_fit : FnScope n_Session_held_fit p_Session_held_fit (defScope s_Session_held_fit) := ⟨rfl, rfl, rfl, by decide +kernel, rfl, by decide +kernel, by decide +kernel⟩
abbrev s_Reader_init : Stmt := inClass (top 81) 0
abbrev n_Reader_init : List Str := ["self", "numbers"]
abbrev p_Reader_init : List Str := ["self", "numbers"]
theorem sc_Reader_init : FnScope n_Reader_init p_Reader_init (defScope s_Reader_init) := ⟨rfl, rfl, rfl, by decide +kernel, rfl, by decide +kernel, by decide +kernel⟩
abbrev s_Reader_has_more : Stmt := inClass (top 81) 1
abbrev n_Reader_has_more : List Str := ["self"]
abbrev p_Reader_has_more : List Str := ["self"]
theorem sc_Reader_has_more : FnScope n_Reader_has_more p_Reader_has_more (defScope s_Reader_has_more) := ⟨rfl, rfl, rfl, by decide +kernel, rfl, by decide +kernel, by decide +kernel⟩
abbrev s_Reader_take_number : Stmt := inClass (top 81) 2
abbrev n_Reader_take_number : List Str := ["self", "number"]
abbrev p_Reader_take_number : List Str := ["self"]
theorem sc_Reader_take_number : FnScope n_Reader_take_number p_Reader_take_number (defScope s_Reader_take_number) := ⟨rfl, rfl, rfl, by decide +kernel, rfl, by decide +kernel, by decide +kernel⟩
abbrev s_Reader_take_row : Stmt := inClass (top 81) 3
abbrev n_Reader_take_row : List Str := ["self", "length", "row"]
abbrev p_Reader_take_row : List Str := ["self"]
theorem sc_Reader_take_row : FnScope n_Reader_take_row p_Reader_take_row (defScope s_Reader_take_row) := ⟨rfl, rfl, rfl, by decide +kernel, rfl, by decide +kernel, by decide +kernel⟩
abbrev s_answer_load : Stmt := top 82
abbrev n_answer_load : List Str := ["session", "reader"]
abbrev p_answer_load : List Str := ["session", "reader"]
theorem sc_answer_load : FnScope n_answer_load p_answer_load (defScope s_answer_load) := ⟨rfl, rfl, rfl, by decide +kernel, rfl, by decide +kernel, by decide +kernel⟩
abbrev s_answer_code : Stmt := top 83
abbrev n_answer_code : List Str := ["session", "reader"]
abbrev p_answer_code : List Str := ["session", "reader"]
theorem sc_answer_code : FnScope n_answer_code p_answer_code (defScope s_answer_code) := ⟨rfl, rfl, rfl, by decide +kernel, rfl, by decide +kernel, by decide +kernel⟩
abbrev s_answer_put : Stmt := top 84
abbrev n_answer_put : List Str := ["session", "reader", "place"]
abbrev p_answer_put : List Str := ["session", "reader"]
theorem sc_answer_put : FnScope n_answer_put p_answer_put (defScope s_answer_put) := ⟨rfl, rfl, rfl, by decide +kernel, rfl, by decide +kernel, by decide +kernel⟩
abbrev s_answer_cut : Stmt := top 85
abbrev n_answer_cut : List Str := ["session", "reader"]
abbrev p_answer_cut : List Str := ["session", "reader"]
theorem sc_answer_cut : FnScope n_answer_cut p_answer_cut (defScope s_answer_cut) := ⟨rfl, rfl, rfl, by decide +kernel, rfl, by decide +kernel, by decide +kernel⟩
abbrev s_answer_judge : Stmt := top 86
abbrev n_answer_judge : List Str := ["session", "reader"]
abbrev p_answer_judge : List Str := ["session", "reader"]
theorem sc_answer_judge : FnScope n_answer_judge p_answer_judge (defScope s_answer_judge) := ⟨rfl, rfl, rfl, by decide +kernel, rfl, by decide +kernel, by decide +kernel⟩
abbrev s_answer_rule : Stmt := top 87
abbrev n_answer_rule : List Str := ["session", "reader"]
abbrev p_answer_rule : List Str := ["session", "reader"]
theorem sc_answer_rule : FnScope n_answer_rule p_answer_rule (defScope s_answer_rule) := ⟨rfl, rfl, rfl, by decide +kernel, rfl, by decide +kernel, by decide +kernel⟩
abbrev s_answer_drop : Stmt := top 88
abbrev n_answer_drop : List Str := ["session", "reader"]
abbrev p_answer_drop : List Str := ["session", "reader"]
theorem sc_answer_drop : FnScope n_answer_drop p_answer_drop (defScope s_answer_drop) := ⟨rfl, rfl, rfl, by decide +kernel, rfl, by decide +kernel, by decide +kernel⟩
abbrev s_answer_say : Stmt := top 89
abbrev n_answer_say : List Str := ["session", "reader"]
abbrev p_answer_say : List Str := ["session", "reader"]
theorem sc_answer_say : FnScope n_answer_say p_answer_say (defScope s_answer_say) := ⟨rfl, rfl, rfl, by decide +kernel, rfl, by decide +kernel, by decide +kernel⟩
abbrev s_answer_fits : Stmt := top 90
abbrev n_answer_fits : List Str := ["session", "reader", "number"]
abbrev p_answer_fits : List Str := ["session", "reader"]
theorem sc_answer_fits : FnScope n_answer_fits p_answer_fits (defScope s_answer_fits) := ⟨rfl, rfl, rfl, by decide +kernel, rfl, by decide +kernel, by decide +kernel⟩
abbrev s_answer_at : Stmt := top 91
abbrev n_answer_at : List Str := ["session", "reader", "number"]
abbrev p_answer_at : List Str := ["session", "reader"]
theorem sc_answer_at : FnScope n_answer_at p_answer_at (defScope s_answer_at) := ⟨rfl, rfl, rfl, by decide +kernel, rfl, by decide +kernel, by decide +kernel⟩
abbrev s_answer_step : Stmt := top 92
abbrev n_answer_step : List Str := ["session", "reader"]
abbrev p_answer_step : List Str := ["session", "reader"]
theorem sc_answer_step : FnScope n_answer_step p_answer_step (defScope s_answer_step) := ⟨rfl, rfl, rfl, by decide +kernel, rfl, by decide +kernel, by decide +kernel⟩
abbrev s_answer_run : Stmt := top 93
abbrev n_answer_run : List Str := ["session", "reader"]
abbrev p_answer_run : List Str := ["session", "reader"]
theorem sc_answer_run : FnScope n_answer_run p_answer_run (defScope s_answer_run) := ⟨rfl, rfl, rfl, by decide +kernel, rfl, by decide +kernel, by decide +kernel⟩
abbrev s_answer_trail : Stmt := top 94
abbrev n_answer_trail : List Str := ["session", "reader"]
abbrev p_answer_trail : List Str := ["session", "reader"]
theorem sc_answer_trail : FnScope n_answer_trail p_answer_trail (defScope s_answer_trail) := ⟨rfl, rfl, rfl, by decide +kernel, rfl, by decide +kernel, by decide +kernel⟩
abbrev s_answer_eval : Stmt := top 95
abbrev n_answer_eval : List Str := ["session", "reader"]
abbrev p_answer_eval : List Str := ["session", "reader"]
theorem sc_answer_eval : FnScope n_answer_eval p_answer_eval (defScope s_answer_eval) := ⟨rfl, rfl, rfl, by decide +kernel, rfl, by decide +kernel, by decide +kernel⟩
abbrev s_answer_form : Stmt := top 96
abbrev n_answer_form : List Str := ["session", "reader"]
abbrev p_answer_form : List Str := ["session", "reader"]
theorem sc_answer_form : FnScope n_answer_form p_answer_form (defScope s_answer_form) := ⟨rfl, rfl, rfl, by decide +kernel, rfl, by decide +kernel, by decide +kernel⟩
abbrev s_answer_same : Stmt := top 97
abbrev n_answer_same : List Str := ["session", "reader"]
abbrev p_answer_same : List Str := ["session", "reader"]
theorem sc_answer_same : FnScope n_answer_same p_answer_same (defScope s_answer_same) := ⟨rfl, rfl, rfl, by decide +kernel, rfl, by decide +kernel, by decide +kernel⟩
abbrev s_answer_state : Stmt := top 98
abbrev n_answer_state : List Str := ["session", "reader"]
abbrev p_answer_state : List Str := ["session", "reader"]
theorem sc_answer_state : FnScope n_answer_state p_answer_state (defScope s_answer_state) := ⟨rfl, rfl, rfl, by decide +kernel, rfl, by decide +kernel, by decide +kernel⟩
abbrev s_answer_undo : Stmt := top 99
abbrev n_answer_undo : List Str := ["session", "reader"]
abbrev p_answer_undo : List Str := ["session", "reader"]
theorem sc_answer_undo : FnScope n_answer_undo p_answer_undo (defScope s_answer_undo) := ⟨rfl, rfl, rfl, by decide +kernel, rfl, by decide +kernel, by decide +kernel⟩
abbrev s_answer_redo : Stmt := top 100
abbrev n_answer_redo : List Str := ["session", "reader"]
abbrev p_answer_redo : List Str := ["session", "reader"]
theorem sc_answer_redo : FnScope n_answer_redo p_answer_redo (defScope s_answer_redo) := ⟨rfl, rfl, rfl, by decide +kernel, rfl, by decide +kernel, by decide +kernel⟩
abbrev s_next_answer : Stmt := top 102
abbrev n_next_answer : List Str := ["session", "reader", "answer_call", "refusal"]
abbrev p_next_answer : List Str := ["session", "reader"]
theorem sc_next_answer : FnScope n_next_answer p_next_answer (defScope s_next_answer) := ⟨rfl, rfl, rfl, by decide +kernel, rfl, by decide +kernel, by decide +kernel⟩
abbrev s_answers : Stmt := top 103
abbrev n_answers : List Str := ["calls", "session", "reader", "told", "answer"]
abbrev p_answers : List Str := ["calls"]
theorem sc_answers : FnScope n_answers p_answers (defScope s_answers) := ⟨rfl, rfl, rfl, by decide +kernel, rfl, by decide +kernel, by decide +kernel⟩
end Pb

set_option Elab.async false
set_option linter.all false
set_option maxRecDepth 100000
set_option maxHeartbeats 4000000
namespace Pb
open PySem PySem.Spec PyProof.Rows L2
open PbX
theorem def_of {K : PySem.W.Frag} {x qual : Str} {st : Stmt} {f : Addr} {ps : List Str} (h : ∃ fd, FunD K x qual (defArgs st) (defBody st) (defScope st) [] [] f fd)
    (bi : ∀ (kV doc pm : Value) (an : Option Addr) (cdv ct : Value) (us : List Value), us.length = ps.length → bindArgs (PySem.W.fnOf x qual (defArgs st) (defBody st) (defScope st) .none kV doc pm an cdv ct) ⟨us, []⟩ = pure (ps.zip us)) : Def K x qual st f ps := by
  obtain ⟨fd, F⟩ := h
  exact ⟨⟨fd, He5.fun_of F⟩, bi⟩
theorem vals_all {K : PySem.W.Frag} {a : Addr} {kvs : List (Str × He.Dv)} (h : He.valsB K a kvs = true) : ∀ q ∈ kvs.map (fun q => (q.1, q.2.v K)), ∃ u, PySem.W.nsIn K a q.1 = some (some u) ∧ RelV q.2 u := by
  intro q hq
  obtain ⟨r, hr, rfl⟩ := List.mem_map.mp hq
  exact He.valsB_ok h hr
/-- what the top has left, by names -/
structure Txt (w : World) (K : PySem.W.Frag) (mg : Str → Option Value) : Prop where
  u_Exception : mg "Exception" = none
  u_all : mg "all" = none
  u_enumerate : mg "enumerate" = none
  u_int : mg "int" = none
  u_len : mg "len" = none
  u_list : mg "list" = none
  u_ord : mg "ord" = none
  u_range : mg "range" = none
  u_sorted : mg "sorted" = none
  u_str : mg "str" = none
  u_sum : mg "sum" = none
  u_zip : mg "zip" = none
  c_MOST_BYTES : ∃ t, mg "MOST_BYTES" = some (.int (4096) t)
  c_LARGEST : ∃ t, mg "LARGEST" = some (.int (4294967295) t)
  c_LARGEST_DIGITS : ∃ t, mg "LARGEST_DIGITS" = some (.int (10) t)
  c_MODULUS : ∃ t, mg "MODULUS" = some (.int (4294967296) t)
  c_MOST_UNDONE : ∃ t, mg "MOST_UNDONE" = some (.int (16) t)
  c_MOST_LEFT : ∃ t, mg "MOST_LEFT" = some (.int (4) t)
  c_TRIAL_NUMBERS : ∃ t, mg "TRIAL_NUMBERS" = some (.int (6) t)
  c_NO_REGISTER : ∃ t, mg "NO_REGISTER" = some (.int (8) t)
  c_MOST_INSTRUCTIONS : ∃ t, mg "MOST_INSTRUCTIONS" = some (.int (128) t)
  c_MOST_RULES : ∃ t, mg "MOST_RULES" = some (.int (32) t)
  c_READABLE : ∃ t, mg "READABLE" = some (.str "\n +-0123456789=>abcdefghijklmnopqrstuvwxyz" t)
  c_UNREADABLE : ∃ t, mg "UNREADABLE" = some (.str "?" t)
  c_PARTING : ∃ t, mg "PARTING" = some (.str "=>" t)
  g_text_of : mg "text_of" = some (.ref (He.ga K "text_of"))
  g_bytes_of : mg "bytes_of" = some (.ref (He.ga K "bytes_of"))
  g_lines_of : mg "lines_of" = some (.ref (He.ga K "lines_of"))
  g_has_open_end : mg "has_open_end" = some (.ref (He.ga K "has_open_end"))
  g_read_number : mg "read_number" = some (.ref (He.ga K "read_number"))
  g_place_of : mg "place_of" = some (.ref (He.ga K "place_of"))
  g_read_instruction : mg "read_instruction" = some (.ref (He.ga K "read_instruction"))
  g_read_instructions : mg "read_instructions" = some (.ref (He.ga K "read_instructions"))
  g_read_code_line : mg "read_code_line" = some (.ref (He.ga K "read_code_line"))
  g_read_code : mg "read_code" = some (.ref (He.ga K "read_code"))
  g_line_of : mg "line_of" = some (.ref (He.ga K "line_of"))
  g_code_text : mg "code_text" = some (.ref (He.ga K "code_text"))
  g_cost_of : mg "cost_of" = some (.ref (He.ga K "cost_of"))
  g_carry_out : mg "carry_out" = some (.ref (He.ga K "carry_out"))
  g_state_after : mg "state_after" = some (.ref (He.ga K "state_after"))
  g_zero_and_ones : mg "zero_and_ones" = some (.ref (He.ga K "zero_and_ones"))
  g_nine_states : mg "nine_states" = some (.ref (He.ga K "nine_states"))
  g_state_between : mg "state_between" = some (.ref (He.ga K "state_between"))
  g_sum_at : mg "sum_at" = some (.ref (He.ga K "sum_at"))
  g_are_alike : mg "are_alike" = some (.ref (He.ga K "are_alike"))
  g_read_left_constant : mg "read_left_constant" = some (.ref (He.ga K "read_left_constant"))
  g_times_at_end : mg "times_at_end" = some (.ref (He.ga K "times_at_end"))
  g_read_right_constant : mg "read_right_constant" = some (.ref (He.ga K "read_right_constant"))
  g_read_rule : mg "read_rule" = some (.ref (He.ga K "read_rule"))
  g_parts_of : mg "parts_of" = some (.ref (He.ga K "parts_of"))
  g_is_formed : mg "is_formed" = some (.ref (He.ga K "is_formed"))
  g_filled_in : mg "filled_in" = some (.ref (He.ga K "filled_in"))
  g_seven_trials : mg "seven_trials" = some (.ref (He.ga K "seven_trials"))
  g_state_on_trial : mg "state_on_trial" = some (.ref (He.ga K "state_on_trial"))
  g_trial_against : mg "trial_against" = some (.ref (He.ga K "trial_against"))
  g_read_sound_rule : mg "read_sound_rule" = some (.ref (He.ga K "read_sound_rule"))
  g_takes : mg "takes" = some (.ref (He.ga K "takes"))
  g_fit_at : mg "fit_at" = some (.ref (He.ga K "fit_at"))
  g_put_to_work : mg "put_to_work" = some (.ref (He.ga K "put_to_work"))
  g_next_step : mg "next_step" = some (.ref (He.ga K "next_step"))
  g_moment_after : mg "moment_after" = some (.ref (He.ga K "moment_after"))
  g_moment_at_rest : mg "moment_at_rest" = some (.ref (He.ga K "moment_at_rest"))
  g_read_whole_code : mg "read_whole_code" = some (.ref (He.ga K "read_whole_code"))
  g_answer_load : mg "answer_load" = some (.ref (He.ga K "answer_load"))
  g_answer_code : mg "answer_code" = some (.ref (He.ga K "answer_code"))
  g_answer_put : mg "answer_put" = some (.ref (He.ga K "answer_put"))
  g_answer_cut : mg "answer_cut" = some (.ref (He.ga K "answer_cut"))
  g_answer_judge : mg "answer_judge" = some (.ref (He.ga K "answer_judge"))
  g_answer_rule : mg "answer_rule" = some (.ref (He.ga K "answer_rule"))
  g_answer_drop : mg "answer_drop" = some (.ref (He.ga K "answer_drop"))
  g_answer_say : mg "answer_say" = some (.ref (He.ga K "answer_say"))
  g_answer_fits : mg "answer_fits" = some (.ref (He.ga K "answer_fits"))
  g_answer_at : mg "answer_at" = some (.ref (He.ga K "answer_at"))
  g_answer_step : mg "answer_step" = some (.ref (He.ga K "answer_step"))
  g_answer_run : mg "answer_run" = some (.ref (He.ga K "answer_run"))
  g_answer_trail : mg "answer_trail" = some (.ref (He.ga K "answer_trail"))
  g_answer_eval : mg "answer_eval" = some (.ref (He.ga K "answer_eval"))
  g_answer_form : mg "answer_form" = some (.ref (He.ga K "answer_form"))
  g_answer_same : mg "answer_same" = some (.ref (He.ga K "answer_same"))
  g_answer_state : mg "answer_state" = some (.ref (He.ga K "answer_state"))
  g_answer_undo : mg "answer_undo" = some (.ref (He.ga K "answer_undo"))
  g_answer_redo : mg "answer_redo" = some (.ref (He.ga K "answer_redo"))
  g_next_answer : mg "next_answer" = some (.ref (He.ga K "next_answer"))
  g_answers : mg "answers" = some (.ref (He.ga K "answers"))
  g_Refusal : mg "Refusal" = some (.ref (He.ga K "Refusal"))
  g_OutOfBounds : mg "OutOfBounds" = some (.ref (He.ga K "OutOfBounds"))
  g_NotFormed : mg "NotFormed" = some (.ref (He.ga K "NotFormed"))
  g_NotThere : mg "NotThere" = some (.ref (He.ga K "NotThere"))
  g_NotRight : mg "NotRight" = some (.ref (He.ga K "NotRight"))
  g_NotCheaper : mg "NotCheaper" = some (.ref (He.ga K "NotCheaper"))
  g_NotFitting : mg "NotFitting" = some (.ref (He.ga K "NotFitting"))
  g_NotReadable : mg "NotReadable" = some (.ref (He.ga K "NotReadable"))
  g_NoRoom : mg "NoRoom" = some (.ref (He.ga K "NoRoom"))
  g_Instruction : mg "Instruction" = some (.ref (He.ga K "Instruction"))
  g_Moment : mg "Moment" = some (.ref (He.ga K "Moment"))
  g_History : mg "History" = some (.ref (He.ga K "History"))
  g_Rule : mg "Rule" = some (.ref (He.ga K "Rule"))
  g_Constant : mg "Constant" = some (.ref (He.ga K "Constant"))
  g_Fit : mg "Fit" = some (.ref (He.ga K "Fit"))
  g_Step : mg "Step" = some (.ref (He.ga K "Step"))
  g_Session : mg "Session" = some (.ref (He.ga K "Session"))
  g_Reader : mg "Reader" = some (.ref (He.ga K "Reader"))
  g_REGISTERS : mg "REGISTERS" = some (.ref (He.ga K "REGISTERS"))
  g_WITH_CONSTANT : mg "WITH_CONSTANT" = some (.ref (He.ga K "WITH_CONSTANT"))
  g_WITH_SECOND : mg "WITH_SECOND" = some (.ref (He.ga K "WITH_SECOND"))
  g_NAMES : mg "NAMES" = some (.ref (He.ga K "NAMES"))
  g_CALLS : mg "CALLS" = some (.ref (He.ga K "CALLS"))
  g_COSTS : mg "COSTS" = some (.ref (He.ga K "COSTS"))
  kp_text_of : PySem.W.keepIn K (.ref (He.ga K "text_of")) = true
  kp_bytes_of : PySem.W.keepIn K (.ref (He.ga K "bytes_of")) = true
  kp_lines_of : PySem.W.keepIn K (.ref (He.ga K "lines_of")) = true
  kp_has_open_end : PySem.W.keepIn K (.ref (He.ga K "has_open_end")) = true
  kp_read_number : PySem.W.keepIn K (.ref (He.ga K "read_number")) = true
  kp_place_of : PySem.W.keepIn K (.ref (He.ga K "place_of")) = true
  kp_read_instruction : PySem.W.keepIn K (.ref (He.ga K "read_instruction")) = true
  kp_read_instructions : PySem.W.keepIn K (.ref (He.ga K "read_instructions")) = true
  kp_read_code_line : PySem.W.keepIn K (.ref (He.ga K "read_code_line")) = true
  kp_read_code : PySem.W.keepIn K (.ref (He.ga K "read_code")) = true
  kp_line_of : PySem.W.keepIn K (.ref (He.ga K "line_of")) = true
  kp_code_text : PySem.W.keepIn K (.ref (He.ga K "code_text")) = true
  kp_cost_of : PySem.W.keepIn K (.ref (He.ga K "cost_of")) = true
  kp_carry_out : PySem.W.keepIn K (.ref (He.ga K "carry_out")) = true
  kp_state_after : PySem.W.keepIn K (.ref (He.ga K "state_after")) = true
  kp_zero_and_ones : PySem.W.keepIn K (.ref (He.ga K "zero_and_ones")) = true
  kp_nine_states : PySem.W.keepIn K (.ref (He.ga K "nine_states")) = true
  kp_state_between : PySem.W.keepIn K (.ref (He.ga K "state_between")) = true
  kp_sum_at : PySem.W.keepIn K (.ref (He.ga K "sum_at")) = true
  kp_are_alike : PySem.W.keepIn K (.ref (He.ga K "are_alike")) = true
  kp_read_left_constant : PySem.W.keepIn K (.ref (He.ga K "read_left_constant")) = true
  kp_times_at_end : PySem.W.keepIn K (.ref (He.ga K "times_at_end")) = true
  kp_read_right_constant : PySem.W.keepIn K (.ref (He.ga K "read_right_constant")) = true
  kp_read_rule : PySem.W.keepIn K (.ref (He.ga K "read_rule")) = true
  kp_parts_of : PySem.W.keepIn K (.ref (He.ga K "parts_of")) = true
  kp_is_formed : PySem.W.keepIn K (.ref (He.ga K "is_formed")) = true
  kp_filled_in : PySem.W.keepIn K (.ref (He.ga K "filled_in")) = true
  kp_seven_trials : PySem.W.keepIn K (.ref (He.ga K "seven_trials")) = true
  kp_state_on_trial : PySem.W.keepIn K (.ref (He.ga K "state_on_trial")) = true
  kp_trial_against : PySem.W.keepIn K (.ref (He.ga K "trial_against")) = true
  kp_read_sound_rule : PySem.W.keepIn K (.ref (He.ga K "read_sound_rule")) = true
  kp_takes : PySem.W.keepIn K (.ref (He.ga K "takes")) = true
  kp_fit_at : PySem.W.keepIn K (.ref (He.ga K "fit_at")) = true
  kp_put_to_work : PySem.W.keepIn K (.ref (He.ga K "put_to_work")) = true
  kp_next_step : PySem.W.keepIn K (.ref (He.ga K "next_step")) = true
  kp_moment_after : PySem.W.keepIn K (.ref (He.ga K "moment_after")) = true
  kp_moment_at_rest : PySem.W.keepIn K (.ref (He.ga K "moment_at_rest")) = true
  kp_read_whole_code : PySem.W.keepIn K (.ref (He.ga K "read_whole_code")) = true
  kp_answer_load : PySem.W.keepIn K (.ref (He.ga K "answer_load")) = true
  kp_answer_code : PySem.W.keepIn K (.ref (He.ga K "answer_code")) = true
  kp_answer_put : PySem.W.keepIn K (.ref (He.ga K "answer_put")) = true
  kp_answer_cut : PySem.W.keepIn K (.ref (He.ga K "answer_cut")) = true
  kp_answer_judge : PySem.W.keepIn K (.ref (He.ga K "answer_judge")) = true
  kp_answer_rule : PySem.W.keepIn K (.ref (He.ga K "answer_rule")) = true
  kp_answer_drop : PySem.W.keepIn K (.ref (He.ga K "answer_drop")) = true
  kp_answer_say : PySem.W.keepIn K (.ref (He.ga K "answer_say")) = true
  kp_answer_fits : PySem.W.keepIn K (.ref (He.ga K "answer_fits")) = true
  kp_answer_at : PySem.W.keepIn K (.ref (He.ga K "answer_at")) = true
  kp_answer_step : PySem.W.keepIn K (.ref (He.ga K "answer_step")) = true
  kp_answer_run : PySem.W.keepIn K (.ref (He.ga K "answer_run")) = true
  kp_answer_trail : PySem.W.keepIn K (.ref (He.ga K "answer_trail")) = true
  kp_answer_eval : PySem.W.keepIn K (.ref (He.ga K "answer_eval")) = true
  kp_answer_form : PySem.W.keepIn K (.ref (He.ga K "answer_form")) = true
  kp_answer_same : PySem.W.keepIn K (.ref (He.ga K "answer_same")) = true
  kp_answer_state : PySem.W.keepIn K (.ref (He.ga K "answer_state")) = true
  kp_answer_undo : PySem.W.keepIn K (.ref (He.ga K "answer_undo")) = true
  kp_answer_redo : PySem.W.keepIn K (.ref (He.ga K "answer_redo")) = true
  kp_next_answer : PySem.W.keepIn K (.ref (He.ga K "next_answer")) = true
  kp_answers : PySem.W.keepIn K (.ref (He.ga K "answers")) = true
  cl_Instruction : Cls K (He.ga K "Instruction")
  k_Instruction : Mk K (He.ga K "Instruction") (He.ma K (He.ga K "Instruction") "__init__")
  nF_Instruction_word : NoAttr K (He.ga K "Instruction") "word"
  nF_Instruction_first : NoAttr K (He.ga K "Instruction") "first"
  nF_Instruction_second : NoAttr K (He.ga K "Instruction") "second"
  cl_Moment : Cls K (He.ga K "Moment")
  k_Moment : Mk K (He.ga K "Moment") (He.ma K (He.ga K "Moment") "__init__")
  nF_Moment_instructions : NoAttr K (He.ga K "Moment") "instructions"
  nF_Moment_worked : NoAttr K (He.ga K "Moment") "worked"
  cl_History : Cls K (He.ga K "History")
  k_History : Mk K (He.ga K "History") (He.ma K (He.ga K "History") "__init__")
  m_History_edited : Meth K (He.ga K "History") "edited" (He.ma K (He.ga K "History") "edited")
  m_History_step_back : Meth K (He.ga K "History") "step_back" (He.ma K (He.ga K "History") "step_back")
  m_History_step_forth : Meth K (He.ga K "History") "step_forth" (He.ma K (He.ga K "History") "step_forth")
  nF_History_before : NoAttr K (He.ga K "History") "before"
  nF_History_undone : NoAttr K (He.ga K "History") "undone"
  cl_Rule : Cls K (He.ga K "Rule")
  k_Rule : Mk K (He.ga K "Rule") (He.ma K (He.ga K "Rule") "__init__")
  nF_Rule_left : NoAttr K (He.ga K "Rule") "left"
  nF_Rule_right : NoAttr K (He.ga K "Rule") "right"
  nF_Rule_text : NoAttr K (He.ga K "Rule") "text"
  cl_Constant : Cls K (He.ga K "Constant")
  k_Constant : Mk K (He.ga K "Constant") (He.ma K (He.ga K "Constant") "__init__")
  m_Constant_worth : Meth K (He.ga K "Constant") "worth" (He.ma K (He.ga K "Constant") "worth")
  nF_Constant_number : NoAttr K (He.ga K "Constant") "number"
  nF_Constant_times_x : NoAttr K (He.ga K "Constant") "times_x"
  nF_Constant_times_y : NoAttr K (He.ga K "Constant") "times_y"
  cl_Fit : Cls K (He.ga K "Fit")
  k_Fit : Mk K (He.ga K "Fit") (He.ma K (He.ga K "Fit") "__init__")
  m_Fit_put_name : Meth K (He.ga K "Fit") "put_name" (He.ma K (He.ga K "Fit") "put_name")
  m_Fit_put_constant : Meth K (He.ga K "Fit") "put_constant" (He.ma K (He.ga K "Fit") "put_constant")
  m_Fit_told_x : Meth K (He.ga K "Fit") "told_x" (He.ma K (He.ga K "Fit") "told_x")
  m_Fit_told_y : Meth K (He.ga K "Fit") "told_y" (He.ma K (He.ga K "Fit") "told_y")
  nF_Fit_places : NoAttr K (He.ga K "Fit") "places"
  nF_Fit_x : NoAttr K (He.ga K "Fit") "x"
  nF_Fit_y : NoAttr K (He.ga K "Fit") "y"
  cl_Step : Cls K (He.ga K "Step")
  k_Step : Mk K (He.ga K "Step") (He.ma K (He.ga K "Step") "__init__")
  nF_Step_number : NoAttr K (He.ga K "Step") "number"
  nF_Step_place : NoAttr K (He.ga K "Step") "place"
  nF_Step_fit : NoAttr K (He.ga K "Step") "fit"
  cl_Session : Cls K (He.ga K "Session")
  k_Session : Mk K (He.ga K "Session") (He.ma K (He.ga K "Session") "__init__")
  m_Session_load : Meth K (He.ga K "Session") "load" (He.ma K (He.ga K "Session") "load")
  m_Session_code : Meth K (He.ga K "Session") "code" (He.ma K (He.ga K "Session") "code")
  m_Session_put : Meth K (He.ga K "Session") "put" (He.ma K (He.ga K "Session") "put")
  m_Session_cut : Meth K (He.ga K "Session") "cut" (He.ma K (He.ga K "Session") "cut")
  m_Session_judge : Meth K (He.ga K "Session") "judge" (He.ma K (He.ga K "Session") "judge")
  m_Session_rule : Meth K (He.ga K "Session") "rule" (He.ma K (He.ga K "Session") "rule")
  m_Session_drop : Meth K (He.ga K "Session") "drop" (He.ma K (He.ga K "Session") "drop")
  m_Session_say : Meth K (He.ga K "Session") "say" (He.ma K (He.ga K "Session") "say")
  m_Session_fits : Meth K (He.ga K "Session") "fits" (He.ma K (He.ga K "Session") "fits")
  m_Session_at : Meth K (He.ga K "Session") "at" (He.ma K (He.ga K "Session") "at")
  m_Session_step : Meth K (He.ga K "Session") "step" (He.ma K (He.ga K "Session") "step")
  m_Session_run : Meth K (He.ga K "Session") "run" (He.ma K (He.ga K "Session") "run")
  m_Session_trail : Meth K (He.ga K "Session") "trail" (He.ma K (He.ga K "Session") "trail")
  m_Session_reckon : Meth K (He.ga K "Session") "reckon" (He.ma K (He.ga K "Session") "reckon")
  m_Session_form : Meth K (He.ga K "Session") "form" (He.ma K (He.ga K "Session") "form")
  m_Session_same : Meth K (He.ga K "Session") "same" (He.ma K (He.ga K "Session") "same")
  m_Session_state : Meth K (He.ga K "Session") "state" (He.ma K (He.ga K "Session") "state")
  m_Session_undo : Meth K (He.ga K "Session") "undo" (He.ma K (He.ga K "Session") "undo")
  m_Session_redo : Meth K (He.ga K "Session") "redo" (He.ma K (He.ga K "Session") "redo")
  m_Session_hand_in : Meth K (He.ga K "Session") "hand_in" (He.ma K (He.ga K "Session") "hand_in")
  m_Session_become : Meth K (He.ga K "Session") "become" (He.ma K (He.ga K "Session") "become")
  m_Session_size : Meth K (He.ga K "Session") "size" (He.ma K (He.ga K "Session") "size")
  m_Session_held_rule : Meth K (He.ga K "Session") "held_rule" (He.ma K (He.ga K "Session") "held_rule")
  m_Session_held_fit : Meth K (He.ga K "Session") "held_fit" (He.ma K (He.ga K "Session") "held_fit")
  nF_Session_now : NoAttr K (He.ga K "Session") "now"
  nF_Session_history : NoAttr K (He.ga K "Session") "history"
  nF_Session_held : NoAttr K (He.ga K "Session") "held"
  cl_Reader : Cls K (He.ga K "Reader")
  k_Reader : Mk K (He.ga K "Reader") (He.ma K (He.ga K "Reader") "__init__")
  m_Reader_has_more : Meth K (He.ga K "Reader") "has_more" (He.ma K (He.ga K "Reader") "has_more")
  m_Reader_take_number : Meth K (He.ga K "Reader") "take_number" (He.ma K (He.ga K "Reader") "take_number")
  m_Reader_take_row : Meth K (He.ga K "Reader") "take_row" (He.ma K (He.ga K "Reader") "take_row")
  nF_Reader_numbers : NoAttr K (He.ga K "Reader") "numbers"
  nF_Reader_place : NoAttr K (He.ga K "Reader") "place"
  x_Refusal : ExcT K (He.ga K "Refusal") (He.ga K "Refusal")
  x_OutOfBounds : ExcT K (He.ga K "Refusal") (He.ga K "OutOfBounds")
  x_NotFormed : ExcT K (He.ga K "Refusal") (He.ga K "NotFormed")
  x_NotThere : ExcT K (He.ga K "Refusal") (He.ga K "NotThere")
  x_NotRight : ExcT K (He.ga K "Refusal") (He.ga K "NotRight")
  x_NotCheaper : ExcT K (He.ga K "Refusal") (He.ga K "NotCheaper")
  x_NotFitting : ExcT K (He.ga K "Refusal") (He.ga K "NotFitting")
  x_NotReadable : ExcT K (He.ga K "Refusal") (He.ga K "NotReadable")
  x_NoRoom : ExcT K (He.ga K "Refusal") (He.ga K "NoRoom")
  i_Refusal : ClsFn K (He.ga K "Refusal") "__init__" (He.ma K (He.ga K "Refusal") "__init__")
  v_Exception : PySem.W.findCls K (.type "Exception") (.type "type") "__init__" = some (.val (.builtin "Exception.__init__"))
  tp_REGISTERS : ∀ H, SqT K H (He.ga K "REGISTERS") [V.str "r0", V.str "r1", V.str "r2", V.str "r3", V.str "r4", V.str "r5", V.str "r6", V.str "r7"]
  tp_WITH_CONSTANT : ∀ H, SqT K H (He.ga K "WITH_CONSTANT") [V.str "set", V.str "adc"]
  tp_WITH_SECOND : ∀ H, SqT K H (He.ga K "WITH_SECOND") [V.str "mov", V.str "add", V.str "sub", V.str "swp"]
  tp_NAMES : ∀ H, SqT K H (He.ga K "NAMES") [V.str "a", V.str "b", V.str "c", V.str "d"]
  tp_CALLS : ∀ H, SqT K H (He.ga K "CALLS") [V.ref (He.ga K "answer_load"), V.ref (He.ga K "answer_code"), V.ref (He.ga K "answer_put"), V.ref (He.ga K "answer_cut"), V.ref (He.ga K "answer_judge"), V.ref (He.ga K "answer_rule"), V.ref (He.ga K "answer_drop"), V.ref (He.ga K "answer_say"), V.ref (He.ga K "answer_fits"), V.ref (He.ga K "answer_at"), V.ref (He.ga K "answer_step"), V.ref (He.ga K "answer_run"), V.ref (He.ga K "answer_trail"), V.ref (He.ga K "answer_eval"), V.ref (He.ga K "answer_form"), V.ref (He.ga K "answer_same"), V.ref (He.ga K "answer_state"), V.ref (He.ga K "answer_undo"), V.ref (He.ga K "answer_redo")]
  t_COSTS : ∃ es n, KDict K w (He.ga K "COSTS") es n
  tk_COSTS : He.dicW K (He.ga K "COSTS") = some (He.keysIn w.params ["set", "mov", "add", "sub", "adc", "neg", "swp"])
  tv_COSTS : ∀ q ∈ ([("set", V.int (1)), ("mov", V.int (1)), ("add", V.int (3)), ("sub", V.int (3)), ("adc", V.int (2)), ("neg", V.int (2)), ("swp", V.int (4))] : List (Str × V)), ∃ u, PySem.W.nsIn K (He.ga K "COSTS") q.1 = some (some u) ∧ RelV q.2 u
  d_Refusal_init : Def K "__init__" "Refusal.__init__" s_Refusal_init (He.ma K (He.ga K "Refusal") "__init__") p_Refusal_init
  d_OutOfBounds_init : Def K "__init__" "OutOfBounds.__init__" s_OutOfBounds_init (He.ma K (He.ga K "OutOfBounds") "__init__") p_OutOfBounds_init
  d_NotFormed_init : Def K "__init__" "NotFormed.__init__" s_NotFormed_init (He.ma K (He.ga K "NotFormed") "__init__") p_NotFormed_init
  d_NotThere_init : Def K "__init__" "NotThere.__init__" s_NotThere_init (He.ma K (He.ga K "NotThere") "__init__") p_NotThere_init
  d_NotRight_init : Def K "__init__" "NotRight.__init__" s_NotRight_init (He.ma K (He.ga K "NotRight") "__init__") p_NotRight_init
  d_NotCheaper_init : Def K "__init__" "NotCheaper.__init__" s_NotCheaper_init (He.ma K (He.ga K "NotCheaper") "__init__") p_NotCheaper_init
  d_NotFitting_init : Def K "__init__" "NotFitting.__init__" s_NotFitting_init (He.ma K (He.ga K "NotFitting") "__init__") p_NotFitting_init
  d_NotReadable_init : Def K "__init__" "NotReadable.__init__" s_NotReadable_init (He.ma K (He.ga K "NotReadable") "__init__") p_NotReadable_init
  d_NoRoom_init : Def K "__init__" "NoRoom.__init__" s_NoRoom_init (He.ma K (He.ga K "NoRoom") "__init__") p_NoRoom_init
  d_text_of : Def K "text_of" "text_of" s_text_of (He.ga K "text_of") p_text_of
  d_bytes_of : Def K "bytes_of" "bytes_of" s_bytes_of (He.ga K "bytes_of") p_bytes_of
  d_lines_of : Def K "lines_of" "lines_of" s_lines_of (He.ga K "lines_of") p_lines_of
  d_has_open_end : Def K "has_open_end" "has_open_end" s_has_open_end (He.ga K "has_open_end") p_has_open_end
  d_read_number : Def K "read_number" "read_number" s_read_number (He.ga K "read_number") p_read_number
  d_Instruction_init : Def K "__init__" "Instruction.__init__" s_Instruction_init (He.ma K (He.ga K "Instruction") "__init__") p_Instruction_init
  d_place_of : Def K "place_of" "place_of" s_place_of (He.ga K "place_of") p_place_of
  d_read_instruction : Def K "read_instruction" "read_instruction" s_read_instruction (He.ga K "read_instruction") p_read_instruction
  d_read_instructions : Def K "read_instructions" "read_instructions" s_read_instructions (He.ga K "read_instructions") p_read_instructions
  d_read_code_line : Def K "read_code_line" "read_code_line" s_read_code_line (He.ga K "read_code_line") p_read_code_line
  d_read_code : Def K "read_code" "read_code" s_read_code (He.ga K "read_code") p_read_code
  d_line_of : Def K "line_of" "line_of" s_line_of (He.ga K "line_of") p_line_of
  d_code_text : Def K "code_text" "code_text" s_code_text (He.ga K "code_text") p_code_text
  d_cost_of : Def K "cost_of" "cost_of" s_cost_of (He.ga K "cost_of") p_cost_of
  d_carry_out : Def K "carry_out" "carry_out" s_carry_out (He.ga K "carry_out") p_carry_out
  d_state_after : Def K "state_after" "state_after" s_state_after (He.ga K "state_after") p_state_after
  d_zero_and_ones : Def K "zero_and_ones" "zero_and_ones" s_zero_and_ones (He.ga K "zero_and_ones") p_zero_and_ones
  d_nine_states : Def K "nine_states" "nine_states" s_nine_states (He.ga K "nine_states") p_nine_states
  d_state_between : Def K "state_between" "state_between" s_state_between (He.ga K "state_between") p_state_between
  d_sum_at : Def K "sum_at" "sum_at" s_sum_at (He.ga K "sum_at") p_sum_at
  d_Moment_init : Def K "__init__" "Moment.__init__" s_Moment_init (He.ma K (He.ga K "Moment") "__init__") p_Moment_init
  d_are_alike : Def K "are_alike" "are_alike" s_are_alike (He.ga K "are_alike") p_are_alike
  d_History_init : Def K "__init__" "History.__init__" s_History_init (He.ma K (He.ga K "History") "__init__") p_History_init
  d_History_edited : Def K "edited" "History.edited" s_History_edited (He.ma K (He.ga K "History") "edited") p_History_edited
  d_History_step_back : Def K "step_back" "History.step_back" s_History_step_back (He.ma K (He.ga K "History") "step_back") p_History_step_back
  d_History_step_forth : Def K "step_forth" "History.step_forth" s_History_step_forth (He.ma K (He.ga K "History") "step_forth") p_History_step_forth
  d_Rule_init : Def K "__init__" "Rule.__init__" s_Rule_init (He.ma K (He.ga K "Rule") "__init__") p_Rule_init
  d_Constant_init : Def K "__init__" "Constant.__init__" s_Constant_init (He.ma K (He.ga K "Constant") "__init__") p_Constant_init
  d_Constant_worth : Def K "worth" "Constant.worth" s_Constant_worth (He.ma K (He.ga K "Constant") "worth") p_Constant_worth
  d_Fit_init : Def K "__init__" "Fit.__init__" s_Fit_init (He.ma K (He.ga K "Fit") "__init__") p_Fit_init
  d_Fit_put_name : Def K "put_name" "Fit.put_name" s_Fit_put_name (He.ma K (He.ga K "Fit") "put_name") p_Fit_put_name
  d_Fit_put_constant : Def K "put_constant" "Fit.put_constant" s_Fit_put_constant (He.ma K (He.ga K "Fit") "put_constant") p_Fit_put_constant
  d_Fit_told_x : Def K "told_x" "Fit.told_x" s_Fit_told_x (He.ma K (He.ga K "Fit") "told_x") p_Fit_told_x
  d_Fit_told_y : Def K "told_y" "Fit.told_y" s_Fit_told_y (He.ma K (He.ga K "Fit") "told_y") p_Fit_told_y
  d_read_left_constant : Def K "read_left_constant" "read_left_constant" s_read_left_constant (He.ga K "read_left_constant") p_read_left_constant
  d_times_at_end : Def K "times_at_end" "times_at_end" s_times_at_end (He.ga K "times_at_end") p_times_at_end
  d_read_right_constant : Def K "read_right_constant" "read_right_constant" s_read_right_constant (He.ga K "read_right_constant") p_read_right_constant
  d_read_rule : Def K "read_rule" "read_rule" s_read_rule (He.ga K "read_rule") p_read_rule
  d_parts_of : Def K "parts_of" "parts_of" s_parts_of (He.ga K "parts_of") p_parts_of
  d_is_formed : Def K "is_formed" "is_formed" s_is_formed (He.ga K "is_formed") p_is_formed
  d_filled_in : Def K "filled_in" "filled_in" s_filled_in (He.ga K "filled_in") p_filled_in
  d_seven_trials : Def K "seven_trials" "seven_trials" s_seven_trials (He.ga K "seven_trials") p_seven_trials
  d_state_on_trial : Def K "state_on_trial" "state_on_trial" s_state_on_trial (He.ga K "state_on_trial") p_state_on_trial
  d_trial_against : Def K "trial_against" "trial_against" s_trial_against (He.ga K "trial_against") p_trial_against
  d_read_sound_rule : Def K "read_sound_rule" "read_sound_rule" s_read_sound_rule (He.ga K "read_sound_rule") p_read_sound_rule
  d_takes : Def K "takes" "takes" s_takes (He.ga K "takes") p_takes
  d_fit_at : Def K "fit_at" "fit_at" s_fit_at (He.ga K "fit_at") p_fit_at
  d_put_to_work : Def K "put_to_work" "put_to_work" s_put_to_work (He.ga K "put_to_work") p_put_to_work
  d_Step_init : Def K "__init__" "Step.__init__" s_Step_init (He.ma K (He.ga K "Step") "__init__") p_Step_init
  d_next_step : Def K "next_step" "next_step" s_next_step (He.ga K "next_step") p_next_step
  d_moment_after : Def K "moment_after" "moment_after" s_moment_after (He.ga K "moment_after") p_moment_after
  d_moment_at_rest : Def K "moment_at_rest" "moment_at_rest" s_moment_at_rest (He.ga K "moment_at_rest") p_moment_at_rest
  d_read_whole_code : Def K "read_whole_code" "read_whole_code" s_read_whole_code (He.ga K "read_whole_code") p_read_whole_code
  d_Session_init : Def K "__init__" "Session.__init__" s_Session_init (He.ma K (He.ga K "Session") "__init__") p_Session_init
  d_Session_load : Def K "load" "Session.load" s_Session_load (He.ma K (He.ga K "Session") "load") p_Session_load
  d_Session_code : Def K "code" "Session.code" s_Session_code (He.ma K (He.ga K "Session") "code") p_Session_code
  d_Session_put : Def K "put" "Session.put" s_Session_put (He.ma K (He.ga K "Session") "put") p_Session_put
  d_Session_cut : Def K "cut" "Session.cut" s_Session_cut (He.ma K (He.ga K "Session") "cut") p_Session_cut
  d_Session_judge : Def K "judge" "Session.judge" s_Session_judge (He.ma K (He.ga K "Session") "judge") p_Session_judge
  d_Session_rule : Def K "rule" "Session.rule" s_Session_rule (He.ma K (He.ga K "Session") "rule") p_Session_rule
  d_Session_drop : Def K "drop" "Session.drop" s_Session_drop (He.ma K (He.ga K "Session") "drop") p_Session_drop
  d_Session_say : Def K "say" "Session.say" s_Session_say (He.ma K (He.ga K "Session") "say") p_Session_say
  d_Session_fits : Def K "fits" "Session.fits" s_Session_fits (He.ma K (He.ga K "Session") "fits") p_Session_fits
  d_Session_at : Def K "at" "Session.at" s_Session_at (He.ma K (He.ga K "Session") "at") p_Session_at
  d_Session_step : Def K "step" "Session.step" s_Session_step (He.ma K (He.ga K "Session") "step") p_Session_step
  d_Session_run : Def K "run" "Session.run" s_Session_run (He.ma K (He.ga K "Session") "run") p_Session_run
  d_Session_trail : Def K "trail" "Session.trail" s_Session_trail (He.ma K (He.ga K "Session") "trail") p_Session_trail
  d_Session_reckon : Def K "reckon" "Session.reckon" s_Session_reckon (He.ma K (He.ga K "Session") "reckon") p_Session_reckon
  d_Session_form : Def K "form" "Session.form" s_Session_form (He.ma K (He.ga K "Session") "form") p_Session_form
  d_Session_same : Def K "same" "Session.same" s_Session_same (He.ma K (He.ga K "Session") "same") p_Session_same
  d_Session_state : Def K "state" "Session.state" s_Session_state (He.ma K (He.ga K "Session") "state") p_Session_state
  d_Session_undo : Def K "undo" "Session.undo" s_Session_undo (He.ma K (He.ga K "Session") "undo") p_Session_undo
  d_Session_redo : Def K "redo" "Session.redo" s_Session_redo (He.ma K (He.ga K "Session") "redo") p_Session_redo
  d_Session_hand_in : Def K "hand_in" "Session.hand_in" s_Session_hand_in (He.ma K (He.ga K "Session") "hand_in") p_Session_hand_in
  d_Session_become : Def K "become" "Session.become" s_Session_become (He.ma K (He.ga K "Session") "become") p_Session_become
  d_Session_size : Def K "size" "Session.size" s_Session_size (He.ma K (He.ga K "Session") "size") p_Session_size
  d_Session_held_rule : Def K "held_rule" "Session.held_rule" s_Session_held_rule (He.ma K (He.ga K "Session") "held_rule") p_Session_held_rule
  d_Session_held_fit : Def K "held_fit" "Session.held_fit" s_Session_held_fit (He.ma K (He.ga K "Session") "held_fit") p_Session_held_fit
  d_Reader_init : Def K "__init__" "Reader.__init__" s_Reader_init (He.ma K (He.ga K "Reader") "__init__") p_Reader_init
  d_Reader_has_more : Def K "has_more" "Reader.has_more" s_Reader_has_more (He.ma K (He.ga K "Reader") "has_more") p_Reader_has_more
  d_Reader_take_number : Def K "take_number" "Reader.take_number" s_Reader_take_number (He.ma K (He.ga K "Reader") "take_number") p_Reader_take_number
  d_Reader_take_row : Def K "take_row" "Reader.take_row" s_Reader_take_row (He.ma K (He.ga K "Reader") "take_row") p_Reader_take_row
  d_answer_load : Def K "answer_load" "answer_load" s_answer_load (He.ga K "answer_load") p_answer_load
  d_answer_code : Def K "answer_code" "answer_code" s_answer_code (He.ga K "answer_code") p_answer_code
  d_answer_put : Def K "answer_put" "answer_put" s_answer_put (He.ga K "answer_put") p_answer_put
  d_answer_cut : Def K "answer_cut" "answer_cut" s_answer_cut (He.ga K "answer_cut") p_answer_cut
  d_answer_judge : Def K "answer_judge" "answer_judge" s_answer_judge (He.ga K "answer_judge") p_answer_judge
  d_answer_rule : Def K "answer_rule" "answer_rule" s_answer_rule (He.ga K "answer_rule") p_answer_rule
  d_answer_drop : Def K "answer_drop" "answer_drop" s_answer_drop (He.ga K "answer_drop") p_answer_drop
  d_answer_say : Def K "answer_say" "answer_say" s_answer_say (He.ga K "answer_say") p_answer_say
  d_answer_fits : Def K "answer_fits" "answer_fits" s_answer_fits (He.ga K "answer_fits") p_answer_fits
  d_answer_at : Def K "answer_at" "answer_at" s_answer_at (He.ga K "answer_at") p_answer_at
  d_answer_step : Def K "answer_step" "answer_step" s_answer_step (He.ga K "answer_step") p_answer_step
  d_answer_run : Def K "answer_run" "answer_run" s_answer_run (He.ga K "answer_run") p_answer_run
  d_answer_trail : Def K "answer_trail" "answer_trail" s_answer_trail (He.ga K "answer_trail") p_answer_trail
  d_answer_eval : Def K "answer_eval" "answer_eval" s_answer_eval (He.ga K "answer_eval") p_answer_eval
  d_answer_form : Def K "answer_form" "answer_form" s_answer_form (He.ga K "answer_form") p_answer_form
  d_answer_same : Def K "answer_same" "answer_same" s_answer_same (He.ga K "answer_same") p_answer_same
  d_answer_state : Def K "answer_state" "answer_state" s_answer_state (He.ga K "answer_state") p_answer_state
  d_answer_undo : Def K "answer_undo" "answer_undo" s_answer_undo (He.ga K "answer_undo") p_answer_undo
  d_answer_redo : Def K "answer_redo" "answer_redo" s_answer_redo (He.ga K "answer_redo") p_answer_redo
  d_next_answer : Def K "next_answer" "next_answer" s_next_answer (He.ga K "next_answer") p_next_answer
  d_answers : Def K "answers" "answers" s_answers (He.ga K "answers") p_answers
def hfa0 : List He.Fa := [.free "Exception",
  .free "all",
  .free "enumerate",
  .free "int",
  .free "len",
  .free "list",
  .free "ord",
  .free "range",
  .free "sorted",
  .free "str",
  .free "sum",
  .free "zip",
  .int "MOST_BYTES" (4096),
  .int "LARGEST" (4294967295),
  .int "LARGEST_DIGITS" (10),
  .int "MODULUS" (4294967296),
  .int "MOST_UNDONE" (16),
  .int "MOST_LEFT" (4),
  .int "TRIAL_NUMBERS" (6),
  .int "NO_REGISTER" (8),
  .int "MOST_INSTRUCTIONS" (128),
  .int "MOST_RULES" (32),
  .str "READABLE" "\n +-0123456789=>abcdefghijklmnopqrstuvwxyz",
  .str "UNREADABLE" "?",
  .str "PARTING" "=>",
  .glo "text_of",
  .glo "bytes_of",
  .glo "lines_of",
  .glo "has_open_end",
  .glo "read_number"]
def hfa1 : List He.Fa := [.glo "place_of",
  .glo "read_instruction",
  .glo "read_instructions",
  .glo "read_code_line",
  .glo "read_code",
  .glo "line_of",
  .glo "code_text",
  .glo "cost_of",
  .glo "carry_out",
  .glo "state_after",
  .glo "zero_and_ones",
  .glo "nine_states",
  .glo "state_between",
  .glo "sum_at",
  .glo "are_alike",
  .glo "read_left_constant",
  .glo "times_at_end",
  .glo "read_right_constant",
  .glo "read_rule",
  .glo "parts_of",
  .glo "is_formed",
  .glo "filled_in",
  .glo "seven_trials",
  .glo "state_on_trial",
  .glo "trial_against",
  .glo "read_sound_rule",
  .glo "takes",
  .glo "fit_at",
  .glo "put_to_work",
  .glo "next_step"]
def hfa2 : List He.Fa := [.glo "moment_after",
  .glo "moment_at_rest",
  .glo "read_whole_code",
  .glo "answer_load",
  .glo "answer_code",
  .glo "answer_put",
  .glo "answer_cut",
  .glo "answer_judge",
  .glo "answer_rule",
  .glo "answer_drop",
  .glo "answer_say",
  .glo "answer_fits",
  .glo "answer_at",
  .glo "answer_step",
  .glo "answer_run",
  .glo "answer_trail",
  .glo "answer_eval",
  .glo "answer_form",
  .glo "answer_same",
  .glo "answer_state",
  .glo "answer_undo",
  .glo "answer_redo",
  .glo "next_answer",
  .glo "answers",
  .glo "Refusal",
  .glo "OutOfBounds",
  .glo "NotFormed",
  .glo "NotThere",
  .glo "NotRight",
  .glo "NotCheaper"]
def hfa3 : List He.Fa := [.glo "NotFitting",
  .glo "NotReadable",
  .glo "NoRoom",
  .glo "Instruction",
  .glo "Moment",
  .glo "History",
  .glo "Rule",
  .glo "Constant",
  .glo "Fit",
  .glo "Step",
  .glo "Session",
  .glo "Reader",
  .glo "REGISTERS",
  .glo "WITH_CONSTANT",
  .glo "WITH_SECOND",
  .glo "NAMES",
  .glo "CALLS",
  .glo "COSTS",
  .keep "text_of",
  .keep "bytes_of",
  .keep "lines_of",
  .keep "has_open_end",
  .keep "read_number",
  .keep "place_of",
  .keep "read_instruction",
  .keep "read_instructions",
  .keep "read_code_line",
  .keep "read_code",
  .keep "line_of",
  .keep "code_text"]
def hfa4 : List He.Fa := [.keep "cost_of",
  .keep "carry_out",
  .keep "state_after",
  .keep "zero_and_ones",
  .keep "nine_states",
  .keep "state_between",
  .keep "sum_at",
  .keep "are_alike",
  .keep "read_left_constant",
  .keep "times_at_end",
  .keep "read_right_constant",
  .keep "read_rule",
  .keep "parts_of",
  .keep "is_formed",
  .keep "filled_in",
  .keep "seven_trials",
  .keep "state_on_trial",
  .keep "trial_against",
  .keep "read_sound_rule",
  .keep "takes",
  .keep "fit_at",
  .keep "put_to_work",
  .keep "next_step",
  .keep "moment_after",
  .keep "moment_at_rest",
  .keep "read_whole_code",
  .keep "answer_load",
  .keep "answer_code",
  .keep "answer_put",
  .keep "answer_cut"]
def hfa5 : List He.Fa := [.keep "answer_judge",
  .keep "answer_rule",
  .keep "answer_drop",
  .keep "answer_say",
  .keep "answer_fits",
  .keep "answer_at",
  .keep "answer_step",
  .keep "answer_run",
  .keep "answer_trail",
  .keep "answer_eval",
  .keep "answer_form",
  .keep "answer_same",
  .keep "answer_state",
  .keep "answer_undo",
  .keep "answer_redo",
  .keep "next_answer",
  .keep "answers",
  .cls "Instruction",
  .mkr "Instruction",
  .noat "Instruction" "word",
  .noat "Instruction" "first",
  .noat "Instruction" "second",
  .cls "Moment",
  .mkr "Moment",
  .noat "Moment" "instructions",
  .noat "Moment" "worked",
  .cls "History",
  .mkr "History",
  .meth "History" "edited",
  .meth "History" "step_back"]
def hfa6 : List He.Fa := [.meth "History" "step_forth",
  .noat "History" "before",
  .noat "History" "undone",
  .cls "Rule",
  .mkr "Rule",
  .noat "Rule" "left",
  .noat "Rule" "right",
  .noat "Rule" "text",
  .cls "Constant",
  .mkr "Constant",
  .meth "Constant" "worth",
  .noat "Constant" "number",
  .noat "Constant" "times_x",
  .noat "Constant" "times_y",
  .cls "Fit",
  .mkr "Fit",
  .meth "Fit" "put_name",
  .meth "Fit" "put_constant",
  .meth "Fit" "told_x",
  .meth "Fit" "told_y",
  .noat "Fit" "places",
  .noat "Fit" "x",
  .noat "Fit" "y",
  .cls "Step",
  .mkr "Step",
  .noat "Step" "number",
  .noat "Step" "place",
  .noat "Step" "fit",
  .cls "Session",
  .mkr "Session"]
def hfa7 : List He.Fa := [.meth "Session" "load",
  .meth "Session" "code",
  .meth "Session" "put",
  .meth "Session" "cut",
  .meth "Session" "judge",
  .meth "Session" "rule",
  .meth "Session" "drop",
  .meth "Session" "say",
  .meth "Session" "fits",
  .meth "Session" "at",
  .meth "Session" "step",
  .meth "Session" "run",
  .meth "Session" "trail",
  .meth "Session" "reckon",
  .meth "Session" "form",
  .meth "Session" "same",
  .meth "Session" "state",
  .meth "Session" "undo",
  .meth "Session" "redo",
  .meth "Session" "hand_in",
  .meth "Session" "become",
  .meth "Session" "size",
  .meth "Session" "held_rule",
  .meth "Session" "held_fit",
  .noat "Session" "now",
  .noat "Session" "history",
  .noat "Session" "held",
  .cls "Reader",
  .mkr "Reader",
  .meth "Reader" "has_more"]
def hfa8 : List He.Fa := [.meth "Reader" "take_number",
  .meth "Reader" "take_row",
  .noat "Reader" "numbers",
  .noat "Reader" "place"]
abbrev hfa : List He.Fa := hfa0 ++ hfa1 ++ hfa2 ++ hfa3 ++ hfa4 ++ hfa5 ++ hfa6 ++ hfa7 ++ hfa8
def hfn0 : List He.DefD := [⟨("Refusal", some "__init__"), "__init__", "Refusal.__init__", defArgs s_Refusal_init, defBody s_Refusal_init, defScope s_Refusal_init, [], []⟩,
  ⟨("OutOfBounds", some "__init__"), "__init__", "OutOfBounds.__init__", defArgs s_OutOfBounds_init, defBody s_OutOfBounds_init, defScope s_OutOfBounds_init, [], []⟩,
  ⟨("NotFormed", some "__init__"), "__init__", "NotFormed.__init__", defArgs s_NotFormed_init, defBody s_NotFormed_init, defScope s_NotFormed_init, [], []⟩,
  ⟨("NotThere", some "__init__"), "__init__", "NotThere.__init__", defArgs s_NotThere_init, defBody s_NotThere_init, defScope s_NotThere_init, [], []⟩,
  ⟨("NotRight", some "__init__"), "__init__", "NotRight.__init__", defArgs s_NotRight_init, defBody s_NotRight_init, defScope s_NotRight_init, [], []⟩,
  ⟨("NotCheaper", some "__init__"), "__init__", "NotCheaper.__init__", defArgs s_NotCheaper_init, defBody s_NotCheaper_init, defScope s_NotCheaper_init, [], []⟩,
  ⟨("NotFitting", some "__init__"), "__init__", "NotFitting.__init__", defArgs s_NotFitting_init, defBody s_NotFitting_init, defScope s_NotFitting_init, [], []⟩,
  ⟨("NotReadable", some "__init__"), "__init__", "NotReadable.__init__", defArgs s_NotReadable_init, defBody s_NotReadable_init, defScope s_NotReadable_init, [], []⟩,
  ⟨("NoRoom", some "__init__"), "__init__", "NoRoom.__init__", defArgs s_NoRoom_init, defBody s_NoRoom_init, defScope s_NoRoom_init, [], []⟩,
  ⟨("text_of", none), "text_of", "text_of", defArgs s_text_of, defBody s_text_of, defScope s_text_of, [], []⟩,
  ⟨("bytes_of", none), "bytes_of", "bytes_of", defArgs s_bytes_of, defBody s_bytes_of, defScope s_bytes_of, [], []⟩,
  ⟨("lines_of", none), "lines_of", "lines_of", defArgs s_lines_of, defBody s_lines_of, defScope s_lines_of, [], []⟩,
  ⟨("has_open_end", none), "has_open_end", "has_open_end", defArgs s_has_open_end, defBody s_has_open_end, defScope s_has_open_end, [], []⟩,
  ⟨("read_number", none), "read_number", "read_number", defArgs s_read_number, defBody s_read_number, defScope s_read_number, [], []⟩,
  ⟨("Instruction", some "__init__"), "__init__", "Instruction.__init__", defArgs s_Instruction_init, defBody s_Instruction_init, defScope s_Instruction_init, [], []⟩,
  ⟨("place_of", none), "place_of", "place_of", defArgs s_place_of, defBody s_place_of, defScope s_place_of, [], []⟩,
  ⟨("read_instruction", none), "read_instruction", "read_instruction", defArgs s_read_instruction, defBody s_read_instruction, defScope s_read_instruction, [], []⟩,
  ⟨("read_instructions", none), "read_instructions", "read_instructions", defArgs s_read_instructions, defBody s_read_instructions, defScope s_read_instructions, [], []⟩,
  ⟨("read_code_line", none), "read_code_line", "read_code_line", defArgs s_read_code_line, defBody s_read_code_line, defScope s_read_code_line, [], []⟩,
  ⟨("read_code", none), "read_code", "read_code", defArgs s_read_code, defBody s_read_code, defScope s_read_code, [], []⟩,
  ⟨("line_of", none), "line_of", "line_of", defArgs s_line_of, defBody s_line_of, defScope s_line_of, [], []⟩,
  ⟨("code_text", none), "code_text", "code_text", defArgs s_code_text, defBody s_code_text, defScope s_code_text, [], []⟩,
  ⟨("cost_of", none), "cost_of", "cost_of", defArgs s_cost_of, defBody s_cost_of, defScope s_cost_of, [], []⟩,
  ⟨("carry_out", none), "carry_out", "carry_out", defArgs s_carry_out, defBody s_carry_out, defScope s_carry_out, [], []⟩,
  ⟨("state_after", none), "state_after", "state_after", defArgs s_state_after, defBody s_state_after, defScope s_state_after, [], []⟩,
  ⟨("zero_and_ones", none), "zero_and_ones", "zero_and_ones", defArgs s_zero_and_ones, defBody s_zero_and_ones, defScope s_zero_and_ones, [], []⟩,
  ⟨("nine_states", none), "nine_states", "nine_states", defArgs s_nine_states, defBody s_nine_states, defScope s_nine_states, [], []⟩,
  ⟨("state_between", none), "state_between", "state_between", defArgs s_state_between, defBody s_state_between, defScope s_state_between, [], []⟩,
  ⟨("sum_at", none), "sum_at", "sum_at", defArgs s_sum_at, defBody s_sum_at, defScope s_sum_at, [], []⟩,
  ⟨("Moment", some "__init__"), "__init__", "Moment.__init__", defArgs s_Moment_init, defBody s_Moment_init, defScope s_Moment_init, [], []⟩]
def hfn1 : List He.DefD := [⟨("are_alike", none), "are_alike", "are_alike", defArgs s_are_alike, defBody s_are_alike, defScope s_are_alike, [], []⟩,
  ⟨("History", some "__init__"), "__init__", "History.__init__", defArgs s_History_init, defBody s_History_init, defScope s_History_init, [], []⟩,
  ⟨("History", some "edited"), "edited", "History.edited", defArgs s_History_edited, defBody s_History_edited, defScope s_History_edited, [], []⟩,
  ⟨("History", some "step_back"), "step_back", "History.step_back", defArgs s_History_step_back, defBody s_History_step_back, defScope s_History_step_back, [], []⟩,
  ⟨("History", some "step_forth"), "step_forth", "History.step_forth", defArgs s_History_step_forth, defBody s_History_step_forth, defScope s_History_step_forth, [], []⟩,
  ⟨("Rule", some "__init__"), "__init__", "Rule.__init__", defArgs s_Rule_init, defBody s_Rule_init, defScope s_Rule_init, [], []⟩,
  ⟨("Constant", some "__init__"), "__init__", "Constant.__init__", defArgs s_Constant_init, defBody s_Constant_init, defScope s_Constant_init, [], []⟩,
  ⟨("Constant", some "worth"), "worth", "Constant.worth", defArgs s_Constant_worth, defBody s_Constant_worth, defScope s_Constant_worth, [], []⟩,
  ⟨("Fit", some "__init__"), "__init__", "Fit.__init__", defArgs s_Fit_init, defBody s_Fit_init, defScope s_Fit_init, [], []⟩,
  ⟨("Fit", some "put_name"), "put_name", "Fit.put_name", defArgs s_Fit_put_name, defBody s_Fit_put_name, defScope s_Fit_put_name, [], []⟩,
  ⟨("Fit", some "put_constant"), "put_constant", "Fit.put_constant", defArgs s_Fit_put_constant, defBody s_Fit_put_constant, defScope s_Fit_put_constant, [], []⟩,
  ⟨("Fit", some "told_x"), "told_x", "Fit.told_x", defArgs s_Fit_told_x, defBody s_Fit_told_x, defScope s_Fit_told_x, [], []⟩,
  ⟨("Fit", some "told_y"), "told_y", "Fit.told_y", defArgs s_Fit_told_y, defBody s_Fit_told_y, defScope s_Fit_told_y, [], []⟩,
  ⟨("read_left_constant", none), "read_left_constant", "read_left_constant", defArgs s_read_left_constant, defBody s_read_left_constant, defScope s_read_left_constant, [], []⟩,
  ⟨("times_at_end", none), "times_at_end", "times_at_end", defArgs s_times_at_end, defBody s_times_at_end, defScope s_times_at_end, [], []⟩,
  ⟨("read_right_constant", none), "read_right_constant", "read_right_constant", defArgs s_read_right_constant, defBody s_read_right_constant, defScope s_read_right_constant, [], []⟩,
  ⟨("read_rule", none), "read_rule", "read_rule", defArgs s_read_rule, defBody s_read_rule, defScope s_read_rule, [], []⟩,
  ⟨("parts_of", none), "parts_of", "parts_of", defArgs s_parts_of, defBody s_parts_of, defScope s_parts_of, [], []⟩,
  ⟨("is_formed", none), "is_formed", "is_formed", defArgs s_is_formed, defBody s_is_formed, defScope s_is_formed, [], []⟩,
  ⟨("filled_in", none), "filled_in", "filled_in", defArgs s_filled_in, defBody s_filled_in, defScope s_filled_in, [], []⟩,
  ⟨("seven_trials", none), "seven_trials", "seven_trials", defArgs s_seven_trials, defBody s_seven_trials, defScope s_seven_trials, [], []⟩,
  ⟨("state_on_trial", none), "state_on_trial", "state_on_trial", defArgs s_state_on_trial, defBody s_state_on_trial, defScope s_state_on_trial, [], []⟩,
  ⟨("trial_against", none), "trial_against", "trial_against", defArgs s_trial_against, defBody s_trial_against, defScope s_trial_against, [], []⟩,
  ⟨("read_sound_rule", none), "read_sound_rule", "read_sound_rule", defArgs s_read_sound_rule, defBody s_read_sound_rule, defScope s_read_sound_rule, [], []⟩,
  ⟨("takes", none), "takes", "takes", defArgs s_takes, defBody s_takes, defScope s_takes, [], []⟩,
  ⟨("fit_at", none), "fit_at", "fit_at", defArgs s_fit_at, defBody s_fit_at, defScope s_fit_at, [], []⟩,
  ⟨("put_to_work", none), "put_to_work", "put_to_work", defArgs s_put_to_work, defBody s_put_to_work, defScope s_put_to_work, [], []⟩,
  ⟨("Step", some "__init__"), "__init__", "Step.__init__", defArgs s_Step_init, defBody s_Step_init, defScope s_Step_init, [], []⟩,
  ⟨("next_step", none), "next_step", "next_step", defArgs s_next_step, defBody s_next_step, defScope s_next_step, [], []⟩,
  ⟨("moment_after", none), "moment_after", "moment_after", defArgs s_moment_after, defBody s_moment_after, defScope s_moment_after, [], []⟩]
def hfn2 : List He.DefD := [⟨("moment_at_rest", none), "moment_at_rest", "moment_at_rest", defArgs s_moment_at_rest, defBody s_moment_at_rest, defScope s_moment_at_rest, [], []⟩,
  ⟨("read_whole_code", none), "read_whole_code", "read_whole_code", defArgs s_read_whole_code, defBody s_read_whole_code, defScope s_read_whole_code, [], []⟩,
  ⟨("Session", some "__init__"), "__init__", "Session.__init__", defArgs s_Session_init, defBody s_Session_init, defScope s_Session_init, [], []⟩,
  ⟨("Session", some "load"), "load", "Session.load", defArgs s_Session_load, defBody s_Session_load, defScope s_Session_load, [], []⟩,
  ⟨("Session", some "code"), "code", "Session.code", defArgs s_Session_code, defBody s_Session_code, defScope s_Session_code, [], []⟩,
  ⟨("Session", some "put"), "put", "Session.put", defArgs s_Session_put, defBody s_Session_put, defScope s_Session_put, [], []⟩,
  ⟨("Session", some "cut"), "cut", "Session.cut", defArgs s_Session_cut, defBody s_Session_cut, defScope s_Session_cut, [], []⟩,
  ⟨("Session", some "judge"), "judge", "Session.judge", defArgs s_Session_judge, defBody s_Session_judge, defScope s_Session_judge, [], []⟩,
  ⟨("Session", some "rule"), "rule", "Session.rule", defArgs s_Session_rule, defBody s_Session_rule, defScope s_Session_rule, [], []⟩,
  ⟨("Session", some "drop"), "drop", "Session.drop", defArgs s_Session_drop, defBody s_Session_drop, defScope s_Session_drop, [], []⟩,
  ⟨("Session", some "say"), "say", "Session.say", defArgs s_Session_say, defBody s_Session_say, defScope s_Session_say, [], []⟩,
  ⟨("Session", some "fits"), "fits", "Session.fits", defArgs s_Session_fits, defBody s_Session_fits, defScope s_Session_fits, [], []⟩,
  ⟨("Session", some "at"), "at", "Session.at", defArgs s_Session_at, defBody s_Session_at, defScope s_Session_at, [], []⟩,
  ⟨("Session", some "step"), "step", "Session.step", defArgs s_Session_step, defBody s_Session_step, defScope s_Session_step, [], []⟩,
  ⟨("Session", some "run"), "run", "Session.run", defArgs s_Session_run, defBody s_Session_run, defScope s_Session_run, [], []⟩,
  ⟨("Session", some "trail"), "trail", "Session.trail", defArgs s_Session_trail, defBody s_Session_trail, defScope s_Session_trail, [], []⟩,
  ⟨("Session", some "reckon"), "reckon", "Session.reckon", defArgs s_Session_reckon, defBody s_Session_reckon, defScope s_Session_reckon, [], []⟩,
  ⟨("Session", some "form"), "form", "Session.form", defArgs s_Session_form, defBody s_Session_form, defScope s_Session_form, [], []⟩,
  ⟨("Session", some "same"), "same", "Session.same", defArgs s_Session_same, defBody s_Session_same, defScope s_Session_same, [], []⟩,
  ⟨("Session", some "state"), "state", "Session.state", defArgs s_Session_state, defBody s_Session_state, defScope s_Session_state, [], []⟩,
  ⟨("Session", some "undo"), "undo", "Session.undo", defArgs s_Session_undo, defBody s_Session_undo, defScope s_Session_undo, [], []⟩,
  ⟨("Session", some "redo"), "redo", "Session.redo", defArgs s_Session_redo, defBody s_Session_redo, defScope s_Session_redo, [], []⟩,
  ⟨("Session", some "hand_in"), "hand_in", "Session.hand_in", defArgs s_Session_hand_in, defBody s_Session_hand_in, defScope s_Session_hand_in, [], []⟩,
  ⟨("Session", some "become"), "become", "Session.become", defArgs s_Session_become, defBody s_Session_become, defScope s_Session_become, [], []⟩,
  ⟨("Session", some "size"), "size", "Session.size", defArgs s_Session_size, defBody s_Session_size, defScope s_Session_size, [], []⟩,
  ⟨("Session", some "held_rule"), "held_rule", "Session.held_rule", defArgs s_Session_held_rule, defBody s_Session_held_rule, defScope s_Session_held_rule, [], []⟩,
  ⟨("Session", some "held_fit"), "held_fit", "Session.held_fit", defArgs s_Session_held_fit, defBody s_Session_held_fit, defScope s_Session_held_fit, [], []⟩,
  ⟨("Reader", some "__init__"), "__init__", "Reader.__init__", defArgs s_Reader_init, defBody s_Reader_init, defScope s_Reader_init, [], []⟩,
  ⟨("Reader", some "has_more"), "has_more", "Reader.has_more", defArgs s_Reader_has_more, defBody s_Reader_has_more, defScope s_Reader_has_more, [], []⟩,
  ⟨("Reader", some "take_number"), "take_number", "Reader.take_number", defArgs s_Reader_take_number, defBody s_Reader_take_number, defScope s_Reader_take_number, [], []⟩]
def hfn3 : List He.DefD := [⟨("Reader", some "take_row"), "take_row", "Reader.take_row", defArgs s_Reader_take_row, defBody s_Reader_take_row, defScope s_Reader_take_row, [], []⟩,
  ⟨("answer_load", none), "answer_load", "answer_load", defArgs s_answer_load, defBody s_answer_load, defScope s_answer_load, [], []⟩,
  ⟨("answer_code", none), "answer_code", "answer_code", defArgs s_answer_code, defBody s_answer_code, defScope s_answer_code, [], []⟩,
  ⟨("answer_put", none), "answer_put", "answer_put", defArgs s_answer_put, defBody s_answer_put, defScope s_answer_put, [], []⟩,
  ⟨("answer_cut", none), "answer_cut", "answer_cut", defArgs s_answer_cut, defBody s_answer_cut, defScope s_answer_cut, [], []⟩,
  ⟨("answer_judge", none), "answer_judge", "answer_judge", defArgs s_answer_judge, defBody s_answer_judge, defScope s_answer_judge, [], []⟩,
  ⟨("answer_rule", none), "answer_rule", "answer_rule", defArgs s_answer_rule, defBody s_answer_rule, defScope s_answer_rule, [], []⟩,
  ⟨("answer_drop", none), "answer_drop", "answer_drop", defArgs s_answer_drop, defBody s_answer_drop, defScope s_answer_drop, [], []⟩,
  ⟨("answer_say", none), "answer_say", "answer_say", defArgs s_answer_say, defBody s_answer_say, defScope s_answer_say, [], []⟩,
  ⟨("answer_fits", none), "answer_fits", "answer_fits", defArgs s_answer_fits, defBody s_answer_fits, defScope s_answer_fits, [], []⟩,
  ⟨("answer_at", none), "answer_at", "answer_at", defArgs s_answer_at, defBody s_answer_at, defScope s_answer_at, [], []⟩,
  ⟨("answer_step", none), "answer_step", "answer_step", defArgs s_answer_step, defBody s_answer_step, defScope s_answer_step, [], []⟩,
  ⟨("answer_run", none), "answer_run", "answer_run", defArgs s_answer_run, defBody s_answer_run, defScope s_answer_run, [], []⟩,
  ⟨("answer_trail", none), "answer_trail", "answer_trail", defArgs s_answer_trail, defBody s_answer_trail, defScope s_answer_trail, [], []⟩,
  ⟨("answer_eval", none), "answer_eval", "answer_eval", defArgs s_answer_eval, defBody s_answer_eval, defScope s_answer_eval, [], []⟩,
  ⟨("answer_form", none), "answer_form", "answer_form", defArgs s_answer_form, defBody s_answer_form, defScope s_answer_form, [], []⟩,
  ⟨("answer_same", none), "answer_same", "answer_same", defArgs s_answer_same, defBody s_answer_same, defScope s_answer_same, [], []⟩,
  ⟨("answer_state", none), "answer_state", "answer_state", defArgs s_answer_state, defBody s_answer_state, defScope s_answer_state, [], []⟩,
  ⟨("answer_undo", none), "answer_undo", "answer_undo", defArgs s_answer_undo, defBody s_answer_undo, defScope s_answer_undo, [], []⟩,
  ⟨("answer_redo", none), "answer_redo", "answer_redo", defArgs s_answer_redo, defBody s_answer_redo, defScope s_answer_redo, [], []⟩,
  ⟨("next_answer", none), "next_answer", "next_answer", defArgs s_next_answer, defBody s_next_answer, defScope s_next_answer, [], []⟩,
  ⟨("answers", none), "answers", "answers", defArgs s_answers, defBody s_answers, defScope s_answers, [], []⟩]
abbrev hfn : List He.DefD := hfn0 ++ hfn1 ++ hfn2 ++ hfn3
def hex0 : List (PySem.W.Frag → Bool) := [fun K => excTB K (He.ga K "Refusal") (He.ga K "Refusal"),
  fun K => excTB K (He.ga K "Refusal") (He.ga K "OutOfBounds"),
  fun K => excTB K (He.ga K "Refusal") (He.ga K "NotFormed"),
  fun K => excTB K (He.ga K "Refusal") (He.ga K "NotThere"),
  fun K => excTB K (He.ga K "Refusal") (He.ga K "NotRight"),
  fun K => excTB K (He.ga K "Refusal") (He.ga K "NotCheaper"),
  fun K => excTB K (He.ga K "Refusal") (He.ga K "NotFitting"),
  fun K => excTB K (He.ga K "Refusal") (He.ga K "NotReadable"),
  fun K => excTB K (He.ga K "Refusal") (He.ga K "NoRoom"),
  fun K => clsFnB K (He.ga K "Refusal") (He.ma K (He.ga K "Refusal") "__init__"),
  fun K => excInitB K,
  fun K => He.tupB K "REGISTERS" [.str "r0", .str "r1", .str "r2", .str "r3", .str "r4", .str "r5", .str "r6", .str "r7"],
  fun K => He.tupB K "WITH_CONSTANT" [.str "set", .str "adc"],
  fun K => He.tupB K "WITH_SECOND" [.str "mov", .str "add", .str "sub", .str "swp"],
  fun K => He.tupB K "NAMES" [.str "a", .str "b", .str "c", .str "d"],
  fun K => He.tupB K "CALLS" [.glo "answer_load", .glo "answer_code", .glo "answer_put", .glo "answer_cut", .glo "answer_judge", .glo "answer_rule", .glo "answer_drop", .glo "answer_say", .glo "answer_fits", .glo "answer_at", .glo "answer_step", .glo "answer_run", .glo "answer_trail", .glo "answer_eval", .glo "answer_form", .glo "answer_same", .glo "answer_state", .glo "answer_undo", .glo "answer_redo"],
  fun K => He.valsB K (He.ga K "COSTS") [("set", .int (1)), ("mov", .int (1)), ("add", .int (3)), ("sub", .int (3)), ("adc", .int (2)), ("neg", .int (2)), ("swp", .int (4))]]
abbrev hex : List (PySem.W.Frag → Bool) := hex0
def hts : List He.Tab := [(fun K => (He.ga K "COSTS"), ["set", "mov", "add", "sub", "adc", "neg", "swp"])]
def hexB (K : PySem.W.Frag) : Bool := hex.all fun b => b K
section
variable {w : World} {K : PySem.W.Frag} {h : Heap} {mg : Str → Option Value}
theorem tx_u_Exception (X : K.In h) (G : h.Ns mainGlobals mg) (c : SaysP hfa hfn hts hexB w K) : mg "Exception" = none := He.free_ok X G (c.t.d.fact 0 (f := .free "Exception") rfl)
theorem tx_u_all (X : K.In h) (G : h.Ns mainGlobals mg) (c : SaysP hfa hfn hts hexB w K) : mg "all" = none := He.free_ok X G (c.t.d.fact 1 (f := .free "all") rfl)
theorem tx_u_enumerate (X : K.In h) (G : h.Ns mainGlobals mg) (c : SaysP hfa hfn hts hexB w K) : mg "enumerate" = none := He.free_ok X G (c.t.d.fact 2 (f := .free "enumerate") rfl)
theorem tx_u_int (X : K.In h) (G : h.Ns mainGlobals mg) (c : SaysP hfa hfn hts hexB w K) : mg "int" = none := He.free_ok X G (c.t.d.fact 3 (f := .free "int") rfl)
theorem tx_u_len (X : K.In h) (G : h.Ns mainGlobals mg) (c : SaysP hfa hfn hts hexB w K) : mg "len" = none := He.free_ok X G (c.t.d.fact 4 (f := .free "len") rfl)
theorem tx_u_list (X : K.In h) (G : h.Ns mainGlobals mg) (c : SaysP hfa hfn hts hexB w K) : mg "list" = none := He.free_ok X G (c.t.d.fact 5 (f := .free "list") rfl)
theorem tx_u_ord (X : K.In h) (G : h.Ns mainGlobals mg) (c : SaysP hfa hfn hts hexB w K) : mg "ord" = none := He.free_ok X G (c.t.d.fact 6 (f := .free "ord") rfl)
theorem tx_u_range (X : K.In h) (G : h.Ns mainGlobals mg) (c : SaysP hfa hfn hts hexB w K) : mg "range" = none := He.free_ok X G (c.t.d.fact 7 (f := .free "range") rfl)
theorem tx_u_sorted (X : K.In h) (G : h.Ns mainGlobals mg) (c : SaysP hfa hfn hts hexB w K) : mg "sorted" = none := He.free_ok X G (c.t.d.fact 8 (f := .free "sorted") rfl)
theorem tx_u_str (X : K.In h) (G : h.Ns mainGlobals mg) (c : SaysP hfa hfn hts hexB w K) : mg "str" = none := He.free_ok X G (c.t.d.fact 9 (f := .free "str") rfl)
theorem tx_u_sum (X : K.In h) (G : h.Ns mainGlobals mg) (c : SaysP hfa hfn hts hexB w K) : mg "sum" = none := He.free_ok X G (c.t.d.fact 10 (f := .free "sum") rfl)
theorem tx_u_zip (X : K.In h) (G : h.Ns mainGlobals mg) (c : SaysP hfa hfn hts hexB w K) : mg "zip" = none := He.free_ok X G (c.t.d.fact 11 (f := .free "zip") rfl)
theorem tx_c_MOST_BYTES (X : K.In h) (G : h.Ns mainGlobals mg) (c : SaysP hfa hfn hts hexB w K) : ∃ t, mg "MOST_BYTES" = some (.int (4096) t) := He.int_ok X G (c.t.d.fact 12 (f := .int "MOST_BYTES" (4096)) rfl)
theorem tx_c_LARGEST (X : K.In h) (G : h.Ns mainGlobals mg) (c : SaysP hfa hfn hts hexB w K) : ∃ t, mg "LARGEST" = some (.int (4294967295) t) := He.int_ok X G (c.t.d.fact 13 (f := .int "LARGEST" (4294967295)) rfl)
theorem tx_c_LARGEST_DIGITS (X : K.In h) (G : h.Ns mainGlobals mg) (c : SaysP hfa hfn hts hexB w K) : ∃ t, mg "LARGEST_DIGITS" = some (.int (10) t) := He.int_ok X G (c.t.d.fact 14 (f := .int "LARGEST_DIGITS" (10)) rfl)
theorem tx_c_MODULUS (X : K.In h) (G : h.Ns mainGlobals mg) (c : SaysP hfa hfn hts hexB w K) : ∃ t, mg "MODULUS" = some (.int (4294967296) t) := He.int_ok X G (c.t.d.fact 15 (f := .int "MODULUS" (4294967296)) rfl)
theorem tx_c_MOST_UNDONE (X : K.In h) (G : h.Ns mainGlobals mg) (c : SaysP hfa hfn hts hexB w K) : ∃ t, mg "MOST_UNDONE" = some (.int (16) t) := He.int_ok X G (c.t.d.fact 16 (f := .int "MOST_UNDONE" (16)) rfl)
theorem tx_c_MOST_LEFT (X : K.In h) (G : h.Ns mainGlobals mg) (c : SaysP hfa hfn hts hexB w K) : ∃ t, mg "MOST_LEFT" = some (.int (4) t) := He.int_ok X G (c.t.d.fact 17 (f := .int "MOST_LEFT" (4)) rfl)
theorem tx_c_TRIAL_NUMBERS (X : K.In h) (G : h.Ns mainGlobals mg) (c : SaysP hfa hfn hts hexB w K) : ∃ t, mg "TRIAL_NUMBERS" = some (.int (6) t) := He.int_ok X G (c.t.d.fact 18 (f := .int "TRIAL_NUMBERS" (6)) rfl)
theorem tx_c_NO_REGISTER (X : K.In h) (G : h.Ns mainGlobals mg) (c : SaysP hfa hfn hts hexB w K) : ∃ t, mg "NO_REGISTER" = some (.int (8) t) := He.int_ok X G (c.t.d.fact 19 (f := .int "NO_REGISTER" (8)) rfl)
theorem tx_c_MOST_INSTRUCTIONS (X : K.In h) (G : h.Ns mainGlobals mg) (c : SaysP hfa hfn hts hexB w K) : ∃ t, mg "MOST_INSTRUCTIONS" = some (.int (128) t) := He.int_ok X G (c.t.d.fact 20 (f := .int "MOST_INSTRUCTIONS" (128)) rfl)
theorem tx_c_MOST_RULES (X : K.In h) (G : h.Ns mainGlobals mg) (c : SaysP hfa hfn hts hexB w K) : ∃ t, mg "MOST_RULES" = some (.int (32) t) := He.int_ok X G (c.t.d.fact 21 (f := .int "MOST_RULES" (32)) rfl)
theorem tx_c_READABLE (X : K.In h) (G : h.Ns mainGlobals mg) (c : SaysP hfa hfn hts hexB w K) : ∃ t, mg "READABLE" = some (.str "\n +-0123456789=>abcdefghijklmnopqrstuvwxyz" t) := He.str_ok X G (c.t.d.fact 22 (f := .str "READABLE" "\n +-0123456789=>abcdefghijklmnopqrstuvwxyz") rfl)
theorem tx_c_UNREADABLE (X : K.In h) (G : h.Ns mainGlobals mg) (c : SaysP hfa hfn hts hexB w K) : ∃ t, mg "UNREADABLE" = some (.str "?" t) := He.str_ok X G (c.t.d.fact 23 (f := .str "UNREADABLE" "?") rfl)
theorem tx_c_PARTING (X : K.In h) (G : h.Ns mainGlobals mg) (c : SaysP hfa hfn hts hexB w K) : ∃ t, mg "PARTING" = some (.str "=>" t) := He.str_ok X G (c.t.d.fact 24 (f := .str "PARTING" "=>") rfl)
theorem tx_g_text_of (X : K.In h) (G : h.Ns mainGlobals mg) (c : SaysP hfa hfn hts hexB w K) : mg "text_of" = some (.ref (He.ga K "text_of")) := He.glo_ok X G (c.t.d.fact 25 (f := .glo "text_of") rfl)
theorem tx_g_bytes_of (X : K.In h) (G : h.Ns mainGlobals mg) (c : SaysP hfa hfn hts hexB w K) : mg "bytes_of" = some (.ref (He.ga K "bytes_of")) := He.glo_ok X G (c.t.d.fact 26 (f := .glo "bytes_of") rfl)
theorem tx_g_lines_of (X : K.In h) (G : h.Ns mainGlobals mg) (c : SaysP hfa hfn hts hexB w K) : mg "lines_of" = some (.ref (He.ga K "lines_of")) := He.glo_ok X G (c.t.d.fact 27 (f := .glo "lines_of") rfl)
theorem tx_g_has_open_end (X : K.In h) (G : h.Ns mainGlobals mg) (c : SaysP hfa hfn hts hexB w K) : mg "has_open_end" = some (.ref (He.ga K "has_open_end")) := He.glo_ok X G (c.t.d.fact 28 (f := .glo "has_open_end") rfl)
theorem tx_g_read_number (X : K.In h) (G : h.Ns mainGlobals mg) (c : SaysP hfa hfn hts hexB w K) : mg "read_number" = some (.ref (He.ga K "read_number")) := He.glo_ok X G (c.t.d.fact 29 (f := .glo "read_number") rfl)
theorem tx_g_place_of (X : K.In h) (G : h.Ns mainGlobals mg) (c : SaysP hfa hfn hts hexB w K) : mg "place_of" = some (.ref (He.ga K "place_of")) := He.glo_ok X G (c.t.d.fact 30 (f := .glo "place_of") rfl)
theorem tx_g_read_instruction (X : K.In h) (G : h.Ns mainGlobals mg) (c : SaysP hfa hfn hts hexB w K) : mg "read_instruction" = some (.ref (He.ga K "read_instruction")) := He.glo_ok X G (c.t.d.fact 31 (f := .glo "read_instruction") rfl)
theorem tx_g_read_instructions (X : K.In h) (G : h.Ns mainGlobals mg) (c : SaysP hfa hfn hts hexB w K) : mg "read_instructions" = some (.ref (He.ga K "read_instructions")) := He.glo_ok X G (c.t.d.fact 32 (f := .glo "read_instructions") rfl)
theorem tx_g_read_code_line (X : K.In h) (G : h.Ns mainGlobals mg) (c : SaysP hfa hfn hts hexB w K) : mg "read_code_line" = some (.ref (He.ga K "read_code_line")) := He.glo_ok X G (c.t.d.fact 33 (f := .glo "read_code_line") rfl)
theorem tx_g_read_code (X : K.In h) (G : h.Ns mainGlobals mg) (c : SaysP hfa hfn hts hexB w K) : mg "read_code" = some (.ref (He.ga K "read_code")) := He.glo_ok X G (c.t.d.fact 34 (f := .glo "read_code") rfl)
theorem tx_g_line_of (X : K.In h) (G : h.Ns mainGlobals mg) (c : SaysP hfa hfn hts hexB w K) : mg "line_of" = some (.ref (He.ga K "line_of")) := He.glo_ok X G (c.t.d.fact 35 (f := .glo "line_of") rfl)
theorem tx_g_code_text (X : K.In h) (G : h.Ns mainGlobals mg) (c : SaysP hfa hfn hts hexB w K) : mg "code_text" = some (.ref (He.ga K "code_text")) := He.glo_ok X G (c.t.d.fact 36 (f := .glo "code_text") rfl)
theorem tx_g_cost_of (X : K.In h) (G : h.Ns mainGlobals mg) (c : SaysP hfa hfn hts hexB w K) : mg "cost_of" = some (.ref (He.ga K "cost_of")) := He.glo_ok X G (c.t.d.fact 37 (f := .glo "cost_of") rfl)
theorem tx_g_carry_out (X : K.In h) (G : h.Ns mainGlobals mg) (c : SaysP hfa hfn hts hexB w K) : mg "carry_out" = some (.ref (He.ga K "carry_out")) := He.glo_ok X G (c.t.d.fact 38 (f := .glo "carry_out") rfl)
theorem tx_g_state_after (X : K.In h) (G : h.Ns mainGlobals mg) (c : SaysP hfa hfn hts hexB w K) : mg "state_after" = some (.ref (He.ga K "state_after")) := He.glo_ok X G (c.t.d.fact 39 (f := .glo "state_after") rfl)
theorem tx_g_zero_and_ones (X : K.In h) (G : h.Ns mainGlobals mg) (c : SaysP hfa hfn hts hexB w K) : mg "zero_and_ones" = some (.ref (He.ga K "zero_and_ones")) := He.glo_ok X G (c.t.d.fact 40 (f := .glo "zero_and_ones") rfl)
theorem tx_g_nine_states (X : K.In h) (G : h.Ns mainGlobals mg) (c : SaysP hfa hfn hts hexB w K) : mg "nine_states" = some (.ref (He.ga K "nine_states")) := He.glo_ok X G (c.t.d.fact 41 (f := .glo "nine_states") rfl)
theorem tx_g_state_between (X : K.In h) (G : h.Ns mainGlobals mg) (c : SaysP hfa hfn hts hexB w K) : mg "state_between" = some (.ref (He.ga K "state_between")) := He.glo_ok X G (c.t.d.fact 42 (f := .glo "state_between") rfl)
theorem tx_g_sum_at (X : K.In h) (G : h.Ns mainGlobals mg) (c : SaysP hfa hfn hts hexB w K) : mg "sum_at" = some (.ref (He.ga K "sum_at")) := He.glo_ok X G (c.t.d.fact 43 (f := .glo "sum_at") rfl)
theorem tx_g_are_alike (X : K.In h) (G : h.Ns mainGlobals mg) (c : SaysP hfa hfn hts hexB w K) : mg "are_alike" = some (.ref (He.ga K "are_alike")) := He.glo_ok X G (c.t.d.fact 44 (f := .glo "are_alike") rfl)
theorem tx_g_read_left_constant (X : K.In h) (G : h.Ns mainGlobals mg) (c : SaysP hfa hfn hts hexB w K) : mg "read_left_constant" = some (.ref (He.ga K "read_left_constant")) := He.glo_ok X G (c.t.d.fact 45 (f := .glo "read_left_constant") rfl)
theorem tx_g_times_at_end (X : K.In h) (G : h.Ns mainGlobals mg) (c : SaysP hfa hfn hts hexB w K) : mg "times_at_end" = some (.ref (He.ga K "times_at_end")) := He.glo_ok X G (c.t.d.fact 46 (f := .glo "times_at_end") rfl)
theorem tx_g_read_right_constant (X : K.In h) (G : h.Ns mainGlobals mg) (c : SaysP hfa hfn hts hexB w K) : mg "read_right_constant" = some (.ref (He.ga K "read_right_constant")) := He.glo_ok X G (c.t.d.fact 47 (f := .glo "read_right_constant") rfl)
theorem tx_g_read_rule (X : K.In h) (G : h.Ns mainGlobals mg) (c : SaysP hfa hfn hts hexB w K) : mg "read_rule" = some (.ref (He.ga K "read_rule")) := He.glo_ok X G (c.t.d.fact 48 (f := .glo "read_rule") rfl)
theorem tx_g_parts_of (X : K.In h) (G : h.Ns mainGlobals mg) (c : SaysP hfa hfn hts hexB w K) : mg "parts_of" = some (.ref (He.ga K "parts_of")) := He.glo_ok X G (c.t.d.fact 49 (f := .glo "parts_of") rfl)
theorem tx_g_is_formed (X : K.In h) (G : h.Ns mainGlobals mg) (c : SaysP hfa hfn hts hexB w K) : mg "is_formed" = some (.ref (He.ga K "is_formed")) := He.glo_ok X G (c.t.d.fact 50 (f := .glo "is_formed") rfl)
theorem tx_g_filled_in (X : K.In h) (G : h.Ns mainGlobals mg) (c : SaysP hfa hfn hts hexB w K) : mg "filled_in" = some (.ref (He.ga K "filled_in")) := He.glo_ok X G (c.t.d.fact 51 (f := .glo "filled_in") rfl)
theorem tx_g_seven_trials (X : K.In h) (G : h.Ns mainGlobals mg) (c : SaysP hfa hfn hts hexB w K) : mg "seven_trials" = some (.ref (He.ga K "seven_trials")) := He.glo_ok X G (c.t.d.fact 52 (f := .glo "seven_trials") rfl)
theorem tx_g_state_on_trial (X : K.In h) (G : h.Ns mainGlobals mg) (c : SaysP hfa hfn hts hexB w K) : mg "state_on_trial" = some (.ref (He.ga K "state_on_trial")) := He.glo_ok X G (c.t.d.fact 53 (f := .glo "state_on_trial") rfl)
theorem tx_g_trial_against (X : K.In h) (G : h.Ns mainGlobals mg) (c : SaysP hfa hfn hts hexB w K) : mg "trial_against" = some (.ref (He.ga K "trial_against")) := He.glo_ok X G (c.t.d.fact 54 (f := .glo "trial_against") rfl)
theorem tx_g_read_sound_rule (X : K.In h) (G : h.Ns mainGlobals mg) (c : SaysP hfa hfn hts hexB w K) : mg "read_sound_rule" = some (.ref (He.ga K "read_sound_rule")) := He.glo_ok X G (c.t.d.fact 55 (f := .glo "read_sound_rule") rfl)
theorem tx_g_takes (X : K.In h) (G : h.Ns mainGlobals mg) (c : SaysP hfa hfn hts hexB w K) : mg "takes" = some (.ref (He.ga K "takes")) := He.glo_ok X G (c.t.d.fact 56 (f := .glo "takes") rfl)
theorem tx_g_fit_at (X : K.In h) (G : h.Ns mainGlobals mg) (c : SaysP hfa hfn hts hexB w K) : mg "fit_at" = some (.ref (He.ga K "fit_at")) := He.glo_ok X G (c.t.d.fact 57 (f := .glo "fit_at") rfl)
theorem tx_g_put_to_work (X : K.In h) (G : h.Ns mainGlobals mg) (c : SaysP hfa hfn hts hexB w K) : mg "put_to_work" = some (.ref (He.ga K "put_to_work")) := He.glo_ok X G (c.t.d.fact 58 (f := .glo "put_to_work") rfl)
theorem tx_g_next_step (X : K.In h) (G : h.Ns mainGlobals mg) (c : SaysP hfa hfn hts hexB w K) : mg "next_step" = some (.ref (He.ga K "next_step")) := He.glo_ok X G (c.t.d.fact 59 (f := .glo "next_step") rfl)
theorem tx_g_moment_after (X : K.In h) (G : h.Ns mainGlobals mg) (c : SaysP hfa hfn hts hexB w K) : mg "moment_after" = some (.ref (He.ga K "moment_after")) := He.glo_ok X G (c.t.d.fact 60 (f := .glo "moment_after") rfl)
theorem tx_g_moment_at_rest (X : K.In h) (G : h.Ns mainGlobals mg) (c : SaysP hfa hfn hts hexB w K) : mg "moment_at_rest" = some (.ref (He.ga K "moment_at_rest")) := He.glo_ok X G (c.t.d.fact 61 (f := .glo "moment_at_rest") rfl)
theorem tx_g_read_whole_code (X : K.In h) (G : h.Ns mainGlobals mg) (c : SaysP hfa hfn hts hexB w K) : mg "read_whole_code" = some (.ref (He.ga K "read_whole_code")) := He.glo_ok X G (c.t.d.fact 62 (f := .glo "read_whole_code") rfl)
theorem tx_g_answer_load (X : K.In h) (G : h.Ns mainGlobals mg) (c : SaysP hfa hfn hts hexB w K) : mg "answer_load" = some (.ref (He.ga K "answer_load")) := He.glo_ok X G (c.t.d.fact 63 (f := .glo "answer_load") rfl)
theorem tx_g_answer_code (X : K.In h) (G : h.Ns mainGlobals mg) (c : SaysP hfa hfn hts hexB w K) : mg "answer_code" = some (.ref (He.ga K "answer_code")) := He.glo_ok X G (c.t.d.fact 64 (f := .glo "answer_code") rfl)
theorem tx_g_answer_put (X : K.In h) (G : h.Ns mainGlobals mg) (c : SaysP hfa hfn hts hexB w K) : mg "answer_put" = some (.ref (He.ga K "answer_put")) := He.glo_ok X G (c.t.d.fact 65 (f := .glo "answer_put") rfl)
theorem tx_g_answer_cut (X : K.In h) (G : h.Ns mainGlobals mg) (c : SaysP hfa hfn hts hexB w K) : mg "answer_cut" = some (.ref (He.ga K "answer_cut")) := He.glo_ok X G (c.t.d.fact 66 (f := .glo "answer_cut") rfl)
theorem tx_g_answer_judge (X : K.In h) (G : h.Ns mainGlobals mg) (c : SaysP hfa hfn hts hexB w K) : mg "answer_judge" = some (.ref (He.ga K "answer_judge")) := He.glo_ok X G (c.t.d.fact 67 (f := .glo "answer_judge") rfl)
theorem tx_g_answer_rule (X : K.In h) (G : h.Ns mainGlobals mg) (c : SaysP hfa hfn hts hexB w K) : mg "answer_rule" = some (.ref (He.ga K "answer_rule")) := He.glo_ok X G (c.t.d.fact 68 (f := .glo "answer_rule") rfl)
theorem tx_g_answer_drop (X : K.In h) (G : h.Ns mainGlobals mg) (c : SaysP hfa hfn hts hexB w K) : mg "answer_drop" = some (.ref (He.ga K "answer_drop")) := He.glo_ok X G (c.t.d.fact 69 (f := .glo "answer_drop") rfl)
theorem tx_g_answer_say (X : K.In h) (G : h.Ns mainGlobals mg) (c : SaysP hfa hfn hts hexB w K) : mg "answer_say" = some (.ref (He.ga K "answer_say")) := He.glo_ok X G (c.t.d.fact 70 (f := .glo "answer_say") rfl)
theorem tx_g_answer_fits (X : K.In h) (G : h.Ns mainGlobals mg) (c : SaysP hfa hfn hts hexB w K) : mg "answer_fits" = some (.ref (He.ga K "answer_fits")) := He.glo_ok X G (c.t.d.fact 71 (f := .glo "answer_fits") rfl)
theorem tx_g_answer_at (X : K.In h) (G : h.Ns mainGlobals mg) (c : SaysP hfa hfn hts hexB w K) : mg "answer_at" = some (.ref (He.ga K "answer_at")) := He.glo_ok X G (c.t.d.fact 72 (f := .glo "answer_at") rfl)
theorem tx_g_answer_step (X : K.In h) (G : h.Ns mainGlobals mg) (c : SaysP hfa hfn hts hexB w K) : mg "answer_step" = some (.ref (He.ga K "answer_step")) := He.glo_ok X G (c.t.d.fact 73 (f := .glo "answer_step") rfl)
theorem tx_g_answer_run (X : K.In h) (G : h.Ns mainGlobals mg) (c : SaysP hfa hfn hts hexB w K) : mg "answer_run" = some (.ref (He.ga K "answer_run")) := He.glo_ok X G (c.t.d.fact 74 (f := .glo "answer_run") rfl)
theorem tx_g_answer_trail (X : K.In h) (G : h.Ns mainGlobals mg) (c : SaysP hfa hfn hts hexB w K) : mg "answer_trail" = some (.ref (He.ga K "answer_trail")) := He.glo_ok X G (c.t.d.fact 75 (f := .glo "answer_trail") rfl)
theorem tx_g_answer_eval (X : K.In h) (G : h.Ns mainGlobals mg) (c : SaysP hfa hfn hts hexB w K) : mg "answer_eval" = some (.ref (He.ga K "answer_eval")) := He.glo_ok X G (c.t.d.fact 76 (f := .glo "answer_eval") rfl)
theorem tx_g_answer_form (X : K.In h) (G : h.Ns mainGlobals mg) (c : SaysP hfa hfn hts hexB w K) : mg "answer_form" = some (.ref (He.ga K "answer_form")) := He.glo_ok X G (c.t.d.fact 77 (f := .glo "answer_form") rfl)
theorem tx_g_answer_same (X : K.In h) (G : h.Ns mainGlobals mg) (c : SaysP hfa hfn hts hexB w K) : mg "answer_same" = some (.ref (He.ga K "answer_same")) := He.glo_ok X G (c.t.d.fact 78 (f := .glo "answer_same") rfl)
theorem tx_g_answer_state (X : K.In h) (G : h.Ns mainGlobals mg) (c : SaysP hfa hfn hts hexB w K) : mg "answer_state" = some (.ref (He.ga K "answer_state")) := He.glo_ok X G (c.t.d.fact 79 (f := .glo "answer_state") rfl)
theorem tx_g_answer_undo (X : K.In h) (G : h.Ns mainGlobals mg) (c : SaysP hfa hfn hts hexB w K) : mg "answer_undo" = some (.ref (He.ga K "answer_undo")) := He.glo_ok X G (c.t.d.fact 80 (f := .glo "answer_undo") rfl)
theorem tx_g_answer_redo (X : K.In h) (G : h.Ns mainGlobals mg) (c : SaysP hfa hfn hts hexB w K) : mg "answer_redo" = some (.ref (He.ga K "answer_redo")) := He.glo_ok X G (c.t.d.fact 81 (f := .glo "answer_redo") rfl)
theorem tx_g_next_answer (X : K.In h) (G : h.Ns mainGlobals mg) (c : SaysP hfa hfn hts hexB w K) : mg "next_answer" = some (.ref (He.ga K "next_answer")) := He.glo_ok X G (c.t.d.fact 82 (f := .glo "next_answer") rfl)
theorem tx_g_answers (X : K.In h) (G : h.Ns mainGlobals mg) (c : SaysP hfa hfn hts hexB w K) : mg "answers" = some (.ref (He.ga K "answers")) := He.glo_ok X G (c.t.d.fact 83 (f := .glo "answers") rfl)
theorem tx_g_Refusal (X : K.In h) (G : h.Ns mainGlobals mg) (c : SaysP hfa hfn hts hexB w K) : mg "Refusal" = some (.ref (He.ga K "Refusal")) := He.glo_ok X G (c.t.d.fact 84 (f := .glo "Refusal") rfl)
theorem tx_g_OutOfBounds (X : K.In h) (G : h.Ns mainGlobals mg) (c : SaysP hfa hfn hts hexB w K) : mg "OutOfBounds" = some (.ref (He.ga K "OutOfBounds")) := He.glo_ok X G (c.t.d.fact 85 (f := .glo "OutOfBounds") rfl)
theorem tx_g_NotFormed (X : K.In h) (G : h.Ns mainGlobals mg) (c : SaysP hfa hfn hts hexB w K) : mg "NotFormed" = some (.ref (He.ga K "NotFormed")) := He.glo_ok X G (c.t.d.fact 86 (f := .glo "NotFormed") rfl)
theorem tx_g_NotThere (X : K.In h) (G : h.Ns mainGlobals mg) (c : SaysP hfa hfn hts hexB w K) : mg "NotThere" = some (.ref (He.ga K "NotThere")) := He.glo_ok X G (c.t.d.fact 87 (f := .glo "NotThere") rfl)
theorem tx_g_NotRight (X : K.In h) (G : h.Ns mainGlobals mg) (c : SaysP hfa hfn hts hexB w K) : mg "NotRight" = some (.ref (He.ga K "NotRight")) := He.glo_ok X G (c.t.d.fact 88 (f := .glo "NotRight") rfl)
theorem tx_g_NotCheaper (X : K.In h) (G : h.Ns mainGlobals mg) (c : SaysP hfa hfn hts hexB w K) : mg "NotCheaper" = some (.ref (He.ga K "NotCheaper")) := He.glo_ok X G (c.t.d.fact 89 (f := .glo "NotCheaper") rfl)
theorem tx_g_NotFitting (X : K.In h) (G : h.Ns mainGlobals mg) (c : SaysP hfa hfn hts hexB w K) : mg "NotFitting" = some (.ref (He.ga K "NotFitting")) := He.glo_ok X G (c.t.d.fact 90 (f := .glo "NotFitting") rfl)
theorem tx_g_NotReadable (X : K.In h) (G : h.Ns mainGlobals mg) (c : SaysP hfa hfn hts hexB w K) : mg "NotReadable" = some (.ref (He.ga K "NotReadable")) := He.glo_ok X G (c.t.d.fact 91 (f := .glo "NotReadable") rfl)
theorem tx_g_NoRoom (X : K.In h) (G : h.Ns mainGlobals mg) (c : SaysP hfa hfn hts hexB w K) : mg "NoRoom" = some (.ref (He.ga K "NoRoom")) := He.glo_ok X G (c.t.d.fact 92 (f := .glo "NoRoom") rfl)
theorem tx_g_Instruction (X : K.In h) (G : h.Ns mainGlobals mg) (c : SaysP hfa hfn hts hexB w K) : mg "Instruction" = some (.ref (He.ga K "Instruction")) := He.glo_ok X G (c.t.d.fact 93 (f := .glo "Instruction") rfl)
theorem tx_g_Moment (X : K.In h) (G : h.Ns mainGlobals mg) (c : SaysP hfa hfn hts hexB w K) : mg "Moment" = some (.ref (He.ga K "Moment")) := He.glo_ok X G (c.t.d.fact 94 (f := .glo "Moment") rfl)
theorem tx_g_History (X : K.In h) (G : h.Ns mainGlobals mg) (c : SaysP hfa hfn hts hexB w K) : mg "History" = some (.ref (He.ga K "History")) := He.glo_ok X G (c.t.d.fact 95 (f := .glo "History") rfl)
theorem tx_g_Rule (X : K.In h) (G : h.Ns mainGlobals mg) (c : SaysP hfa hfn hts hexB w K) : mg "Rule" = some (.ref (He.ga K "Rule")) := He.glo_ok X G (c.t.d.fact 96 (f := .glo "Rule") rfl)
theorem tx_g_Constant (X : K.In h) (G : h.Ns mainGlobals mg) (c : SaysP hfa hfn hts hexB w K) : mg "Constant" = some (.ref (He.ga K "Constant")) := He.glo_ok X G (c.t.d.fact 97 (f := .glo "Constant") rfl)
theorem tx_g_Fit (X : K.In h) (G : h.Ns mainGlobals mg) (c : SaysP hfa hfn hts hexB w K) : mg "Fit" = some (.ref (He.ga K "Fit")) := He.glo_ok X G (c.t.d.fact 98 (f := .glo "Fit") rfl)
theorem tx_g_Step (X : K.In h) (G : h.Ns mainGlobals mg) (c : SaysP hfa hfn hts hexB w K) : mg "Step" = some (.ref (He.ga K "Step")) := He.glo_ok X G (c.t.d.fact 99 (f := .glo "Step") rfl)
theorem tx_g_Session (X : K.In h) (G : h.Ns mainGlobals mg) (c : SaysP hfa hfn hts hexB w K) : mg "Session" = some (.ref (He.ga K "Session")) := He.glo_ok X G (c.t.d.fact 100 (f := .glo "Session") rfl)
theorem tx_g_Reader (X : K.In h) (G : h.Ns mainGlobals mg) (c : SaysP hfa hfn hts hexB w K) : mg "Reader" = some (.ref (He.ga K "Reader")) := He.glo_ok X G (c.t.d.fact 101 (f := .glo "Reader") rfl)
theorem tx_g_REGISTERS (X : K.In h) (G : h.Ns mainGlobals mg) (c : SaysP hfa hfn hts hexB w K) : mg "REGISTERS" = some (.ref (He.ga K "REGISTERS")) := He.glo_ok X G (c.t.d.fact 102 (f := .glo "REGISTERS") rfl)
theorem tx_g_WITH_CONSTANT (X : K.In h) (G : h.Ns mainGlobals mg) (c : SaysP hfa hfn hts hexB w K) : mg "WITH_CONSTANT" = some (.ref (He.ga K "WITH_CONSTANT")) := He.glo_ok X G (c.t.d.fact 103 (f := .glo "WITH_CONSTANT") rfl)
theorem tx_g_WITH_SECOND (X : K.In h) (G : h.Ns mainGlobals mg) (c : SaysP hfa hfn hts hexB w K) : mg "WITH_SECOND" = some (.ref (He.ga K "WITH_SECOND")) := He.glo_ok X G (c.t.d.fact 104 (f := .glo "WITH_SECOND") rfl)
theorem tx_g_NAMES (X : K.In h) (G : h.Ns mainGlobals mg) (c : SaysP hfa hfn hts hexB w K) : mg "NAMES" = some (.ref (He.ga K "NAMES")) := He.glo_ok X G (c.t.d.fact 105 (f := .glo "NAMES") rfl)
theorem tx_g_CALLS (X : K.In h) (G : h.Ns mainGlobals mg) (c : SaysP hfa hfn hts hexB w K) : mg "CALLS" = some (.ref (He.ga K "CALLS")) := He.glo_ok X G (c.t.d.fact 106 (f := .glo "CALLS") rfl)
theorem tx_g_COSTS (X : K.In h) (G : h.Ns mainGlobals mg) (c : SaysP hfa hfn hts hexB w K) : mg "COSTS" = some (.ref (He.ga K "COSTS")) := He.glo_ok X G (c.t.d.fact 107 (f := .glo "COSTS") rfl)
theorem tx_kp_text_of (X : K.In h) (G : h.Ns mainGlobals mg) (c : SaysP hfa hfn hts hexB w K) : PySem.W.keepIn K (.ref (He.ga K "text_of")) = true := He.keep_ok (c.t.d.fact 108 (f := .keep "text_of") rfl)
theorem tx_kp_bytes_of (X : K.In h) (G : h.Ns mainGlobals mg) (c : SaysP hfa hfn hts hexB w K) : PySem.W.keepIn K (.ref (He.ga K "bytes_of")) = true := He.keep_ok (c.t.d.fact 109 (f := .keep "bytes_of") rfl)
theorem tx_kp_lines_of (X : K.In h) (G : h.Ns mainGlobals mg) (c : SaysP hfa hfn hts hexB w K) : PySem.W.keepIn K (.ref (He.ga K "lines_of")) = true := He.keep_ok (c.t.d.fact 110 (f := .keep "lines_of") rfl)
theorem tx_kp_has_open_end (X : K.In h) (G : h.Ns mainGlobals mg) (c : SaysP hfa hfn hts hexB w K) : PySem.W.keepIn K (.ref (He.ga K "has_open_end")) = true := He.keep_ok (c.t.d.fact 111 (f := .keep "has_open_end") rfl)
theorem tx_kp_read_number (X : K.In h) (G : h.Ns mainGlobals mg) (c : SaysP hfa hfn hts hexB w K) : PySem.W.keepIn K (.ref (He.ga K "read_number")) = true := He.keep_ok (c.t.d.fact 112 (f := .keep "read_number") rfl)
theorem tx_kp_place_of (X : K.In h) (G : h.Ns mainGlobals mg) (c : SaysP hfa hfn hts hexB w K) : PySem.W.keepIn K (.ref (He.ga K "place_of")) = true := He.keep_ok (c.t.d.fact 113 (f := .keep "place_of") rfl)
theorem tx_kp_read_instruction (X : K.In h) (G : h.Ns mainGlobals mg) (c : SaysP hfa hfn hts hexB w K) : PySem.W.keepIn K (.ref (He.ga K "read_instruction")) = true := He.keep_ok (c.t.d.fact 114 (f := .keep "read_instruction") rfl)
theorem tx_kp_read_instructions (X : K.In h) (G : h.Ns mainGlobals mg) (c : SaysP hfa hfn hts hexB w K) : PySem.W.keepIn K (.ref (He.ga K "read_instructions")) = true := He.keep_ok (c.t.d.fact 115 (f := .keep "read_instructions") rfl)
theorem tx_kp_read_code_line (X : K.In h) (G : h.Ns mainGlobals mg) (c : SaysP hfa hfn hts hexB w K) : PySem.W.keepIn K (.ref (He.ga K "read_code_line")) = true := He.keep_ok (c.t.d.fact 116 (f := .keep "read_code_line") rfl)
theorem tx_kp_read_code (X : K.In h) (G : h.Ns mainGlobals mg) (c : SaysP hfa hfn hts hexB w K) : PySem.W.keepIn K (.ref (He.ga K "read_code")) = true := He.keep_ok (c.t.d.fact 117 (f := .keep "read_code") rfl)
theorem tx_kp_line_of (X : K.In h) (G : h.Ns mainGlobals mg) (c : SaysP hfa hfn hts hexB w K) : PySem.W.keepIn K (.ref (He.ga K "line_of")) = true := He.keep_ok (c.t.d.fact 118 (f := .keep "line_of") rfl)
theorem tx_kp_code_text (X : K.In h) (G : h.Ns mainGlobals mg) (c : SaysP hfa hfn hts hexB w K) : PySem.W.keepIn K (.ref (He.ga K "code_text")) = true := He.keep_ok (c.t.d.fact 119 (f := .keep "code_text") rfl)
theorem tx_kp_cost_of (X : K.In h) (G : h.Ns mainGlobals mg) (c : SaysP hfa hfn hts hexB w K) : PySem.W.keepIn K (.ref (He.ga K "cost_of")) = true := He.keep_ok (c.t.d.fact 120 (f := .keep "cost_of") rfl)
theorem tx_kp_carry_out (X : K.In h) (G : h.Ns mainGlobals mg) (c : SaysP hfa hfn hts hexB w K) : PySem.W.keepIn K (.ref (He.ga K "carry_out")) = true := He.keep_ok (c.t.d.fact 121 (f := .keep "carry_out") rfl)
theorem tx_kp_state_after (X : K.In h) (G : h.Ns mainGlobals mg) (c : SaysP hfa hfn hts hexB w K) : PySem.W.keepIn K (.ref (He.ga K "state_after")) = true := He.keep_ok (c.t.d.fact 122 (f := .keep "state_after") rfl)
theorem tx_kp_zero_and_ones (X : K.In h) (G : h.Ns mainGlobals mg) (c : SaysP hfa hfn hts hexB w K) : PySem.W.keepIn K (.ref (He.ga K "zero_and_ones")) = true := He.keep_ok (c.t.d.fact 123 (f := .keep "zero_and_ones") rfl)
theorem tx_kp_nine_states (X : K.In h) (G : h.Ns mainGlobals mg) (c : SaysP hfa hfn hts hexB w K) : PySem.W.keepIn K (.ref (He.ga K "nine_states")) = true := He.keep_ok (c.t.d.fact 124 (f := .keep "nine_states") rfl)
theorem tx_kp_state_between (X : K.In h) (G : h.Ns mainGlobals mg) (c : SaysP hfa hfn hts hexB w K) : PySem.W.keepIn K (.ref (He.ga K "state_between")) = true := He.keep_ok (c.t.d.fact 125 (f := .keep "state_between") rfl)
theorem tx_kp_sum_at (X : K.In h) (G : h.Ns mainGlobals mg) (c : SaysP hfa hfn hts hexB w K) : PySem.W.keepIn K (.ref (He.ga K "sum_at")) = true := He.keep_ok (c.t.d.fact 126 (f := .keep "sum_at") rfl)
theorem tx_kp_are_alike (X : K.In h) (G : h.Ns mainGlobals mg) (c : SaysP hfa hfn hts hexB w K) : PySem.W.keepIn K (.ref (He.ga K "are_alike")) = true := He.keep_ok (c.t.d.fact 127 (f := .keep "are_alike") rfl)
theorem tx_kp_read_left_constant (X : K.In h) (G : h.Ns mainGlobals mg) (c : SaysP hfa hfn hts hexB w K) : PySem.W.keepIn K (.ref (He.ga K "read_left_constant")) = true := He.keep_ok (c.t.d.fact 128 (f := .keep "read_left_constant") rfl)
theorem tx_kp_times_at_end (X : K.In h) (G : h.Ns mainGlobals mg) (c : SaysP hfa hfn hts hexB w K) : PySem.W.keepIn K (.ref (He.ga K "times_at_end")) = true := He.keep_ok (c.t.d.fact 129 (f := .keep "times_at_end") rfl)
theorem tx_kp_read_right_constant (X : K.In h) (G : h.Ns mainGlobals mg) (c : SaysP hfa hfn hts hexB w K) : PySem.W.keepIn K (.ref (He.ga K "read_right_constant")) = true := He.keep_ok (c.t.d.fact 130 (f := .keep "read_right_constant") rfl)
theorem tx_kp_read_rule (X : K.In h) (G : h.Ns mainGlobals mg) (c : SaysP hfa hfn hts hexB w K) : PySem.W.keepIn K (.ref (He.ga K "read_rule")) = true := He.keep_ok (c.t.d.fact 131 (f := .keep "read_rule") rfl)
theorem tx_kp_parts_of (X : K.In h) (G : h.Ns mainGlobals mg) (c : SaysP hfa hfn hts hexB w K) : PySem.W.keepIn K (.ref (He.ga K "parts_of")) = true := He.keep_ok (c.t.d.fact 132 (f := .keep "parts_of") rfl)
theorem tx_kp_is_formed (X : K.In h) (G : h.Ns mainGlobals mg) (c : SaysP hfa hfn hts hexB w K) : PySem.W.keepIn K (.ref (He.ga K "is_formed")) = true := He.keep_ok (c.t.d.fact 133 (f := .keep "is_formed") rfl)
theorem tx_kp_filled_in (X : K.In h) (G : h.Ns mainGlobals mg) (c : SaysP hfa hfn hts hexB w K) : PySem.W.keepIn K (.ref (He.ga K "filled_in")) = true := He.keep_ok (c.t.d.fact 134 (f := .keep "filled_in") rfl)
theorem tx_kp_seven_trials (X : K.In h) (G : h.Ns mainGlobals mg) (c : SaysP hfa hfn hts hexB w K) : PySem.W.keepIn K (.ref (He.ga K "seven_trials")) = true := He.keep_ok (c.t.d.fact 135 (f := .keep "seven_trials") rfl)
theorem tx_kp_state_on_trial (X : K.In h) (G : h.Ns mainGlobals mg) (c : SaysP hfa hfn hts hexB w K) : PySem.W.keepIn K (.ref (He.ga K "state_on_trial")) = true := He.keep_ok (c.t.d.fact 136 (f := .keep "state_on_trial") rfl)
theorem tx_kp_trial_against (X : K.In h) (G : h.Ns mainGlobals mg) (c : SaysP hfa hfn hts hexB w K) : PySem.W.keepIn K (.ref (He.ga K "trial_against")) = true := He.keep_ok (c.t.d.fact 137 (f := .keep "trial_against") rfl)
theorem tx_kp_read_sound_rule (X : K.In h) (G : h.Ns mainGlobals mg) (c : SaysP hfa hfn hts hexB w K) : PySem.W.keepIn K (.ref (He.ga K "read_sound_rule")) = true := He.keep_ok (c.t.d.fact 138 (f := .keep "read_sound_rule") rfl)
theorem tx_kp_takes (X : K.In h) (G : h.Ns mainGlobals mg) (c : SaysP hfa hfn hts hexB w K) : PySem.W.keepIn K (.ref (He.ga K "takes")) = true := He.keep_ok (c.t.d.fact 139 (f := .keep "takes") rfl)
theorem tx_kp_fit_at (X : K.In h) (G : h.Ns mainGlobals mg) (c : SaysP hfa hfn hts hexB w K) : PySem.W.keepIn K (.ref (He.ga K "fit_at")) = true := He.keep_ok (c.t.d.fact 140 (f := .keep "fit_at") rfl)
theorem tx_kp_put_to_work (X : K.In h) (G : h.Ns mainGlobals mg) (c : SaysP hfa hfn hts hexB w K) : PySem.W.keepIn K (.ref (He.ga K "put_to_work")) = true := He.keep_ok (c.t.d.fact 141 (f := .keep "put_to_work") rfl)
theorem tx_kp_next_step (X : K.In h) (G : h.Ns mainGlobals mg) (c : SaysP hfa hfn hts hexB w K) : PySem.W.keepIn K (.ref (He.ga K "next_step")) = true := He.keep_ok (c.t.d.fact 142 (f := .keep "next_step") rfl)
theorem tx_kp_moment_after (X : K.In h) (G : h.Ns mainGlobals mg) (c : SaysP hfa hfn hts hexB w K) : PySem.W.keepIn K (.ref (He.ga K "moment_after")) = true := He.keep_ok (c.t.d.fact 143 (f := .keep "moment_after") rfl)
theorem tx_kp_moment_at_rest (X : K.In h) (G : h.Ns mainGlobals mg) (c : SaysP hfa hfn hts hexB w K) : PySem.W.keepIn K (.ref (He.ga K "moment_at_rest")) = true := He.keep_ok (c.t.d.fact 144 (f := .keep "moment_at_rest") rfl)
theorem tx_kp_read_whole_code (X : K.In h) (G : h.Ns mainGlobals mg) (c : SaysP hfa hfn hts hexB w K) : PySem.W.keepIn K (.ref (He.ga K "read_whole_code")) = true := He.keep_ok (c.t.d.fact 145 (f := .keep "read_whole_code") rfl)
theorem tx_kp_answer_load (X : K.In h) (G : h.Ns mainGlobals mg) (c : SaysP hfa hfn hts hexB w K) : PySem.W.keepIn K (.ref (He.ga K "answer_load")) = true := He.keep_ok (c.t.d.fact 146 (f := .keep "answer_load") rfl)
theorem tx_kp_answer_code (X : K.In h) (G : h.Ns mainGlobals mg) (c : SaysP hfa hfn hts hexB w K) : PySem.W.keepIn K (.ref (He.ga K "answer_code")) = true := He.keep_ok (c.t.d.fact 147 (f := .keep "answer_code") rfl)
theorem tx_kp_answer_put (X : K.In h) (G : h.Ns mainGlobals mg) (c : SaysP hfa hfn hts hexB w K) : PySem.W.keepIn K (.ref (He.ga K "answer_put")) = true := He.keep_ok (c.t.d.fact 148 (f := .keep "answer_put") rfl)
theorem tx_kp_answer_cut (X : K.In h) (G : h.Ns mainGlobals mg) (c : SaysP hfa hfn hts hexB w K) : PySem.W.keepIn K (.ref (He.ga K "answer_cut")) = true := He.keep_ok (c.t.d.fact 149 (f := .keep "answer_cut") rfl)
theorem tx_kp_answer_judge (X : K.In h) (G : h.Ns mainGlobals mg) (c : SaysP hfa hfn hts hexB w K) : PySem.W.keepIn K (.ref (He.ga K "answer_judge")) = true := He.keep_ok (c.t.d.fact 150 (f := .keep "answer_judge") rfl)
theorem tx_kp_answer_rule (X : K.In h) (G : h.Ns mainGlobals mg) (c : SaysP hfa hfn hts hexB w K) : PySem.W.keepIn K (.ref (He.ga K "answer_rule")) = true := He.keep_ok (c.t.d.fact 151 (f := .keep "answer_rule") rfl)
theorem tx_kp_answer_drop (X : K.In h) (G : h.Ns mainGlobals mg) (c : SaysP hfa hfn hts hexB w K) : PySem.W.keepIn K (.ref (He.ga K "answer_drop")) = true := He.keep_ok (c.t.d.fact 152 (f := .keep "answer_drop") rfl)
theorem tx_kp_answer_say (X : K.In h) (G : h.Ns mainGlobals mg) (c : SaysP hfa hfn hts hexB w K) : PySem.W.keepIn K (.ref (He.ga K "answer_say")) = true := He.keep_ok (c.t.d.fact 153 (f := .keep "answer_say") rfl)
theorem tx_kp_answer_fits (X : K.In h) (G : h.Ns mainGlobals mg) (c : SaysP hfa hfn hts hexB w K) : PySem.W.keepIn K (.ref (He.ga K "answer_fits")) = true := He.keep_ok (c.t.d.fact 154 (f := .keep "answer_fits") rfl)
theorem tx_kp_answer_at (X : K.In h) (G : h.Ns mainGlobals mg) (c : SaysP hfa hfn hts hexB w K) : PySem.W.keepIn K (.ref (He.ga K "answer_at")) = true := He.keep_ok (c.t.d.fact 155 (f := .keep "answer_at") rfl)
theorem tx_kp_answer_step (X : K.In h) (G : h.Ns mainGlobals mg) (c : SaysP hfa hfn hts hexB w K) : PySem.W.keepIn K (.ref (He.ga K "answer_step")) = true := He.keep_ok (c.t.d.fact 156 (f := .keep "answer_step") rfl)
theorem tx_kp_answer_run (X : K.In h) (G : h.Ns mainGlobals mg) (c : SaysP hfa hfn hts hexB w K) : PySem.W.keepIn K (.ref (He.ga K "answer_run")) = true := He.keep_ok (c.t.d.fact 157 (f := .keep "answer_run") rfl)
theorem tx_kp_answer_trail (X : K.In h) (G : h.Ns mainGlobals mg) (c : SaysP hfa hfn hts hexB w K) : PySem.W.keepIn K (.ref (He.ga K "answer_trail")) = true := He.keep_ok (c.t.d.fact 158 (f := .keep "answer_trail") rfl)
theorem tx_kp_answer_eval (X : K.In h) (G : h.Ns mainGlobals mg) (c : SaysP hfa hfn hts hexB w K) : PySem.W.keepIn K (.ref (He.ga K "answer_eval")) = true := He.keep_ok (c.t.d.fact 159 (f := .keep "answer_eval") rfl)
theorem tx_kp_answer_form (X : K.In h) (G : h.Ns mainGlobals mg) (c : SaysP hfa hfn hts hexB w K) : PySem.W.keepIn K (.ref (He.ga K "answer_form")) = true := He.keep_ok (c.t.d.fact 160 (f := .keep "answer_form") rfl)
theorem tx_kp_answer_same (X : K.In h) (G : h.Ns mainGlobals mg) (c : SaysP hfa hfn hts hexB w K) : PySem.W.keepIn K (.ref (He.ga K "answer_same")) = true := He.keep_ok (c.t.d.fact 161 (f := .keep "answer_same") rfl)
theorem tx_kp_answer_state (X : K.In h) (G : h.Ns mainGlobals mg) (c : SaysP hfa hfn hts hexB w K) : PySem.W.keepIn K (.ref (He.ga K "answer_state")) = true := He.keep_ok (c.t.d.fact 162 (f := .keep "answer_state") rfl)
theorem tx_kp_answer_undo (X : K.In h) (G : h.Ns mainGlobals mg) (c : SaysP hfa hfn hts hexB w K) : PySem.W.keepIn K (.ref (He.ga K "answer_undo")) = true := He.keep_ok (c.t.d.fact 163 (f := .keep "answer_undo") rfl)
theorem tx_kp_answer_redo (X : K.In h) (G : h.Ns mainGlobals mg) (c : SaysP hfa hfn hts hexB w K) : PySem.W.keepIn K (.ref (He.ga K "answer_redo")) = true := He.keep_ok (c.t.d.fact 164 (f := .keep "answer_redo") rfl)
theorem tx_kp_next_answer (X : K.In h) (G : h.Ns mainGlobals mg) (c : SaysP hfa hfn hts hexB w K) : PySem.W.keepIn K (.ref (He.ga K "next_answer")) = true := He.keep_ok (c.t.d.fact 165 (f := .keep "next_answer") rfl)
theorem tx_kp_answers (X : K.In h) (G : h.Ns mainGlobals mg) (c : SaysP hfa hfn hts hexB w K) : PySem.W.keepIn K (.ref (He.ga K "answers")) = true := He.keep_ok (c.t.d.fact 166 (f := .keep "answers") rfl)
theorem tx_cl_Instruction (X : K.In h) (G : h.Ns mainGlobals mg) (c : SaysP hfa hfn hts hexB w K) : Cls K (He.ga K "Instruction") := He.cls_ok (c.t.d.fact 167 (f := .cls "Instruction") rfl)
theorem tx_k_Instruction (X : K.In h) (G : h.Ns mainGlobals mg) (c : SaysP hfa hfn hts hexB w K) : Mk K (He.ga K "Instruction") (He.ma K (He.ga K "Instruction") "__init__") := He.mkr_ok (c.t.d.fact 168 (f := .mkr "Instruction") rfl)
theorem tx_nF_Instruction_word (X : K.In h) (G : h.Ns mainGlobals mg) (c : SaysP hfa hfn hts hexB w K) : NoAttr K (He.ga K "Instruction") "word" := He.noat_ok (c.t.d.fact 169 (f := .noat "Instruction" "word") rfl)
theorem tx_nF_Instruction_first (X : K.In h) (G : h.Ns mainGlobals mg) (c : SaysP hfa hfn hts hexB w K) : NoAttr K (He.ga K "Instruction") "first" := He.noat_ok (c.t.d.fact 170 (f := .noat "Instruction" "first") rfl)
theorem tx_nF_Instruction_second (X : K.In h) (G : h.Ns mainGlobals mg) (c : SaysP hfa hfn hts hexB w K) : NoAttr K (He.ga K "Instruction") "second" := He.noat_ok (c.t.d.fact 171 (f := .noat "Instruction" "second") rfl)
theorem tx_cl_Moment (X : K.In h) (G : h.Ns mainGlobals mg) (c : SaysP hfa hfn hts hexB w K) : Cls K (He.ga K "Moment") := He.cls_ok (c.t.d.fact 172 (f := .cls "Moment") rfl)
theorem tx_k_Moment (X : K.In h) (G : h.Ns mainGlobals mg) (c : SaysP hfa hfn hts hexB w K) : Mk K (He.ga K "Moment") (He.ma K (He.ga K "Moment") "__init__") := He.mkr_ok (c.t.d.fact 173 (f := .mkr "Moment") rfl)
theorem tx_nF_Moment_instructions (X : K.In h) (G : h.Ns mainGlobals mg) (c : SaysP hfa hfn hts hexB w K) : NoAttr K (He.ga K "Moment") "instructions" := He.noat_ok (c.t.d.fact 174 (f := .noat "Moment" "instructions") rfl)
theorem tx_nF_Moment_worked (X : K.In h) (G : h.Ns mainGlobals mg) (c : SaysP hfa hfn hts hexB w K) : NoAttr K (He.ga K "Moment") "worked" := He.noat_ok (c.t.d.fact 175 (f := .noat "Moment" "worked") rfl)
theorem tx_cl_History (X : K.In h) (G : h.Ns mainGlobals mg) (c : SaysP hfa hfn hts hexB w K) : Cls K (He.ga K "History") := He.cls_ok (c.t.d.fact 176 (f := .cls "History") rfl)
theorem tx_k_History (X : K.In h) (G : h.Ns mainGlobals mg) (c : SaysP hfa hfn hts hexB w K) : Mk K (He.ga K "History") (He.ma K (He.ga K "History") "__init__") := He.mkr_ok (c.t.d.fact 177 (f := .mkr "History") rfl)
theorem tx_m_History_edited (X : K.In h) (G : h.Ns mainGlobals mg) (c : SaysP hfa hfn hts hexB w K) : Meth K (He.ga K "History") "edited" (He.ma K (He.ga K "History") "edited") := He.meth_ok (c.t.d.fact 178 (f := .meth "History" "edited") rfl)
theorem tx_m_History_step_back (X : K.In h) (G : h.Ns mainGlobals mg) (c : SaysP hfa hfn hts hexB w K) : Meth K (He.ga K "History") "step_back" (He.ma K (He.ga K "History") "step_back") := He.meth_ok (c.t.d.fact 179 (f := .meth "History" "step_back") rfl)
theorem tx_m_History_step_forth (X : K.In h) (G : h.Ns mainGlobals mg) (c : SaysP hfa hfn hts hexB w K) : Meth K (He.ga K "History") "step_forth" (He.ma K (He.ga K "History") "step_forth") := He.meth_ok (c.t.d.fact 180 (f := .meth "History" "step_forth") rfl)
theorem tx_nF_History_before (X : K.In h) (G : h.Ns mainGlobals mg) (c : SaysP hfa hfn hts hexB w K) : NoAttr K (He.ga K "History") "before" := He.noat_ok (c.t.d.fact 181 (f := .noat "History" "before") rfl)
theorem tx_nF_History_undone (X : K.In h) (G : h.Ns mainGlobals mg) (c : SaysP hfa hfn hts hexB w K) : NoAttr K (He.ga K "History") "undone" := He.noat_ok (c.t.d.fact 182 (f := .noat "History" "undone") rfl)
theorem tx_cl_Rule (X : K.In h) (G : h.Ns mainGlobals mg) (c : SaysP hfa hfn hts hexB w K) : Cls K (He.ga K "Rule") := He.cls_ok (c.t.d.fact 183 (f := .cls "Rule") rfl)
theorem tx_k_Rule (X : K.In h) (G : h.Ns mainGlobals mg) (c : SaysP hfa hfn hts hexB w K) : Mk K (He.ga K "Rule") (He.ma K (He.ga K "Rule") "__init__") := He.mkr_ok (c.t.d.fact 184 (f := .mkr "Rule") rfl)
theorem tx_nF_Rule_left (X : K.In h) (G : h.Ns mainGlobals mg) (c : SaysP hfa hfn hts hexB w K) : NoAttr K (He.ga K "Rule") "left" := He.noat_ok (c.t.d.fact 185 (f := .noat "Rule" "left") rfl)
theorem tx_nF_Rule_right (X : K.In h) (G : h.Ns mainGlobals mg) (c : SaysP hfa hfn hts hexB w K) : NoAttr K (He.ga K "Rule") "right" := He.noat_ok (c.t.d.fact 186 (f := .noat "Rule" "right") rfl)
theorem tx_nF_Rule_text (X : K.In h) (G : h.Ns mainGlobals mg) (c : SaysP hfa hfn hts hexB w K) : NoAttr K (He.ga K "Rule") "text" := He.noat_ok (c.t.d.fact 187 (f := .noat "Rule" "text") rfl)
theorem tx_cl_Constant (X : K.In h) (G : h.Ns mainGlobals mg) (c : SaysP hfa hfn hts hexB w K) : Cls K (He.ga K "Constant") := He.cls_ok (c.t.d.fact 188 (f := .cls "Constant") rfl)
theorem tx_k_Constant (X : K.In h) (G : h.Ns mainGlobals mg) (c : SaysP hfa hfn hts hexB w K) : Mk K (He.ga K "Constant") (He.ma K (He.ga K "Constant") "__init__") := He.mkr_ok (c.t.d.fact 189 (f := .mkr "Constant") rfl)
theorem tx_m_Constant_worth (X : K.In h) (G : h.Ns mainGlobals mg) (c : SaysP hfa hfn hts hexB w K) : Meth K (He.ga K "Constant") "worth" (He.ma K (He.ga K "Constant") "worth") := He.meth_ok (c.t.d.fact 190 (f := .meth "Constant" "worth") rfl)
theorem tx_nF_Constant_number (X : K.In h) (G : h.Ns mainGlobals mg) (c : SaysP hfa hfn hts hexB w K) : NoAttr K (He.ga K "Constant") "number" := He.noat_ok (c.t.d.fact 191 (f := .noat "Constant" "number") rfl)
theorem tx_nF_Constant_times_x (X : K.In h) (G : h.Ns mainGlobals mg) (c : SaysP hfa hfn hts hexB w K) : NoAttr K (He.ga K "Constant") "times_x" := He.noat_ok (c.t.d.fact 192 (f := .noat "Constant" "times_x") rfl)
theorem tx_nF_Constant_times_y (X : K.In h) (G : h.Ns mainGlobals mg) (c : SaysP hfa hfn hts hexB w K) : NoAttr K (He.ga K "Constant") "times_y" := He.noat_ok (c.t.d.fact 193 (f := .noat "Constant" "times_y") rfl)
theorem tx_cl_Fit (X : K.In h) (G : h.Ns mainGlobals mg) (c : SaysP hfa hfn hts hexB w K) : Cls K (He.ga K "Fit") := He.cls_ok (c.t.d.fact 194 (f := .cls "Fit") rfl)
theorem tx_k_Fit (X : K.In h) (G : h.Ns mainGlobals mg) (c : SaysP hfa hfn hts hexB w K) : Mk K (He.ga K "Fit") (He.ma K (He.ga K "Fit") "__init__") := He.mkr_ok (c.t.d.fact 195 (f := .mkr "Fit") rfl)
theorem tx_m_Fit_put_name (X : K.In h) (G : h.Ns mainGlobals mg) (c : SaysP hfa hfn hts hexB w K) : Meth K (He.ga K "Fit") "put_name" (He.ma K (He.ga K "Fit") "put_name") := He.meth_ok (c.t.d.fact 196 (f := .meth "Fit" "put_name") rfl)
theorem tx_m_Fit_put_constant (X : K.In h) (G : h.Ns mainGlobals mg) (c : SaysP hfa hfn hts hexB w K) : Meth K (He.ga K "Fit") "put_constant" (He.ma K (He.ga K "Fit") "put_constant") := He.meth_ok (c.t.d.fact 197 (f := .meth "Fit" "put_constant") rfl)
theorem tx_m_Fit_told_x (X : K.In h) (G : h.Ns mainGlobals mg) (c : SaysP hfa hfn hts hexB w K) : Meth K (He.ga K "Fit") "told_x" (He.ma K (He.ga K "Fit") "told_x") := He.meth_ok (c.t.d.fact 198 (f := .meth "Fit" "told_x") rfl)
theorem tx_m_Fit_told_y (X : K.In h) (G : h.Ns mainGlobals mg) (c : SaysP hfa hfn hts hexB w K) : Meth K (He.ga K "Fit") "told_y" (He.ma K (He.ga K "Fit") "told_y") := He.meth_ok (c.t.d.fact 199 (f := .meth "Fit" "told_y") rfl)
theorem tx_nF_Fit_places (X : K.In h) (G : h.Ns mainGlobals mg) (c : SaysP hfa hfn hts hexB w K) : NoAttr K (He.ga K "Fit") "places" := He.noat_ok (c.t.d.fact 200 (f := .noat "Fit" "places") rfl)
theorem tx_nF_Fit_x (X : K.In h) (G : h.Ns mainGlobals mg) (c : SaysP hfa hfn hts hexB w K) : NoAttr K (He.ga K "Fit") "x" := He.noat_ok (c.t.d.fact 201 (f := .noat "Fit" "x") rfl)
theorem tx_nF_Fit_y (X : K.In h) (G : h.Ns mainGlobals mg) (c : SaysP hfa hfn hts hexB w K) : NoAttr K (He.ga K "Fit") "y" := He.noat_ok (c.t.d.fact 202 (f := .noat "Fit" "y") rfl)
theorem tx_cl_Step (X : K.In h) (G : h.Ns mainGlobals mg) (c : SaysP hfa hfn hts hexB w K) : Cls K (He.ga K "Step") := He.cls_ok (c.t.d.fact 203 (f := .cls "Step") rfl)
theorem tx_k_Step (X : K.In h) (G : h.Ns mainGlobals mg) (c : SaysP hfa hfn hts hexB w K) : Mk K (He.ga K "Step") (He.ma K (He.ga K "Step") "__init__") := He.mkr_ok (c.t.d.fact 204 (f := .mkr "Step") rfl)
theorem tx_nF_Step_number (X : K.In h) (G : h.Ns mainGlobals mg) (c : SaysP hfa hfn hts hexB w K) : NoAttr K (He.ga K "Step") "number" := He.noat_ok (c.t.d.fact 205 (f := .noat "Step" "number") rfl)
theorem tx_nF_Step_place (X : K.In h) (G : h.Ns mainGlobals mg) (c : SaysP hfa hfn hts hexB w K) : NoAttr K (He.ga K "Step") "place" := He.noat_ok (c.t.d.fact 206 (f := .noat "Step" "place") rfl)
theorem tx_nF_Step_fit (X : K.In h) (G : h.Ns mainGlobals mg) (c : SaysP hfa hfn hts hexB w K) : NoAttr K (He.ga K "Step") "fit" := He.noat_ok (c.t.d.fact 207 (f := .noat "Step" "fit") rfl)
theorem tx_cl_Session (X : K.In h) (G : h.Ns mainGlobals mg) (c : SaysP hfa hfn hts hexB w K) : Cls K (He.ga K "Session") := He.cls_ok (c.t.d.fact 208 (f := .cls "Session") rfl)
theorem tx_k_Session (X : K.In h) (G : h.Ns mainGlobals mg) (c : SaysP hfa hfn hts hexB w K) : Mk K (He.ga K "Session") (He.ma K (He.ga K "Session") "__init__") := He.mkr_ok (c.t.d.fact 209 (f := .mkr "Session") rfl)
theorem tx_m_Session_load (X : K.In h) (G : h.Ns mainGlobals mg) (c : SaysP hfa hfn hts hexB w K) : Meth K (He.ga K "Session") "load" (He.ma K (He.ga K "Session") "load") := He.meth_ok (c.t.d.fact 210 (f := .meth "Session" "load") rfl)
theorem tx_m_Session_code (X : K.In h) (G : h.Ns mainGlobals mg) (c : SaysP hfa hfn hts hexB w K) : Meth K (He.ga K "Session") "code" (He.ma K (He.ga K "Session") "code") := He.meth_ok (c.t.d.fact 211 (f := .meth "Session" "code") rfl)
theorem tx_m_Session_put (X : K.In h) (G : h.Ns mainGlobals mg) (c : SaysP hfa hfn hts hexB w K) : Meth K (He.ga K "Session") "put" (He.ma K (He.ga K "Session") "put") := He.meth_ok (c.t.d.fact 212 (f := .meth "Session" "put") rfl)
theorem tx_m_Session_cut (X : K.In h) (G : h.Ns mainGlobals mg) (c : SaysP hfa hfn hts hexB w K) : Meth K (He.ga K "Session") "cut" (He.ma K (He.ga K "Session") "cut") := He.meth_ok (c.t.d.fact 213 (f := .meth "Session" "cut") rfl)
theorem tx_m_Session_judge (X : K.In h) (G : h.Ns mainGlobals mg) (c : SaysP hfa hfn hts hexB w K) : Meth K (He.ga K "Session") "judge" (He.ma K (He.ga K "Session") "judge") := He.meth_ok (c.t.d.fact 214 (f := .meth "Session" "judge") rfl)
theorem tx_m_Session_rule (X : K.In h) (G : h.Ns mainGlobals mg) (c : SaysP hfa hfn hts hexB w K) : Meth K (He.ga K "Session") "rule" (He.ma K (He.ga K "Session") "rule") := He.meth_ok (c.t.d.fact 215 (f := .meth "Session" "rule") rfl)
theorem tx_m_Session_drop (X : K.In h) (G : h.Ns mainGlobals mg) (c : SaysP hfa hfn hts hexB w K) : Meth K (He.ga K "Session") "drop" (He.ma K (He.ga K "Session") "drop") := He.meth_ok (c.t.d.fact 216 (f := .meth "Session" "drop") rfl)
theorem tx_m_Session_say (X : K.In h) (G : h.Ns mainGlobals mg) (c : SaysP hfa hfn hts hexB w K) : Meth K (He.ga K "Session") "say" (He.ma K (He.ga K "Session") "say") := He.meth_ok (c.t.d.fact 217 (f := .meth "Session" "say") rfl)
theorem tx_m_Session_fits (X : K.In h) (G : h.Ns mainGlobals mg) (c : SaysP hfa hfn hts hexB w K) : Meth K (He.ga K "Session") "fits" (He.ma K (He.ga K "Session") "fits") := He.meth_ok (c.t.d.fact 218 (f := .meth "Session" "fits") rfl)
theorem tx_m_Session_at (X : K.In h) (G : h.Ns mainGlobals mg) (c : SaysP hfa hfn hts hexB w K) : Meth K (He.ga K "Session") "at" (He.ma K (He.ga K "Session") "at") := He.meth_ok (c.t.d.fact 219 (f := .meth "Session" "at") rfl)
theorem tx_m_Session_step (X : K.In h) (G : h.Ns mainGlobals mg) (c : SaysP hfa hfn hts hexB w K) : Meth K (He.ga K "Session") "step" (He.ma K (He.ga K "Session") "step") := He.meth_ok (c.t.d.fact 220 (f := .meth "Session" "step") rfl)
theorem tx_m_Session_run (X : K.In h) (G : h.Ns mainGlobals mg) (c : SaysP hfa hfn hts hexB w K) : Meth K (He.ga K "Session") "run" (He.ma K (He.ga K "Session") "run") := He.meth_ok (c.t.d.fact 221 (f := .meth "Session" "run") rfl)
theorem tx_m_Session_trail (X : K.In h) (G : h.Ns mainGlobals mg) (c : SaysP hfa hfn hts hexB w K) : Meth K (He.ga K "Session") "trail" (He.ma K (He.ga K "Session") "trail") := He.meth_ok (c.t.d.fact 222 (f := .meth "Session" "trail") rfl)
theorem tx_m_Session_reckon (X : K.In h) (G : h.Ns mainGlobals mg) (c : SaysP hfa hfn hts hexB w K) : Meth K (He.ga K "Session") "reckon" (He.ma K (He.ga K "Session") "reckon") := He.meth_ok (c.t.d.fact 223 (f := .meth "Session" "reckon") rfl)
theorem tx_m_Session_form (X : K.In h) (G : h.Ns mainGlobals mg) (c : SaysP hfa hfn hts hexB w K) : Meth K (He.ga K "Session") "form" (He.ma K (He.ga K "Session") "form") := He.meth_ok (c.t.d.fact 224 (f := .meth "Session" "form") rfl)
theorem tx_m_Session_same (X : K.In h) (G : h.Ns mainGlobals mg) (c : SaysP hfa hfn hts hexB w K) : Meth K (He.ga K "Session") "same" (He.ma K (He.ga K "Session") "same") := He.meth_ok (c.t.d.fact 225 (f := .meth "Session" "same") rfl)
theorem tx_m_Session_state (X : K.In h) (G : h.Ns mainGlobals mg) (c : SaysP hfa hfn hts hexB w K) : Meth K (He.ga K "Session") "state" (He.ma K (He.ga K "Session") "state") := He.meth_ok (c.t.d.fact 226 (f := .meth "Session" "state") rfl)
theorem tx_m_Session_undo (X : K.In h) (G : h.Ns mainGlobals mg) (c : SaysP hfa hfn hts hexB w K) : Meth K (He.ga K "Session") "undo" (He.ma K (He.ga K "Session") "undo") := He.meth_ok (c.t.d.fact 227 (f := .meth "Session" "undo") rfl)
theorem tx_m_Session_redo (X : K.In h) (G : h.Ns mainGlobals mg) (c : SaysP hfa hfn hts hexB w K) : Meth K (He.ga K "Session") "redo" (He.ma K (He.ga K "Session") "redo") := He.meth_ok (c.t.d.fact 228 (f := .meth "Session" "redo") rfl)
theorem tx_m_Session_hand_in (X : K.In h) (G : h.Ns mainGlobals mg) (c : SaysP hfa hfn hts hexB w K) : Meth K (He.ga K "Session") "hand_in" (He.ma K (He.ga K "Session") "hand_in") := He.meth_ok (c.t.d.fact 229 (f := .meth "Session" "hand_in") rfl)
theorem tx_m_Session_become (X : K.In h) (G : h.Ns mainGlobals mg) (c : SaysP hfa hfn hts hexB w K) : Meth K (He.ga K "Session") "become" (He.ma K (He.ga K "Session") "become") := He.meth_ok (c.t.d.fact 230 (f := .meth "Session" "become") rfl)
theorem tx_m_Session_size (X : K.In h) (G : h.Ns mainGlobals mg) (c : SaysP hfa hfn hts hexB w K) : Meth K (He.ga K "Session") "size" (He.ma K (He.ga K "Session") "size") := He.meth_ok (c.t.d.fact 231 (f := .meth "Session" "size") rfl)
theorem tx_m_Session_held_rule (X : K.In h) (G : h.Ns mainGlobals mg) (c : SaysP hfa hfn hts hexB w K) : Meth K (He.ga K "Session") "held_rule" (He.ma K (He.ga K "Session") "held_rule") := He.meth_ok (c.t.d.fact 232 (f := .meth "Session" "held_rule") rfl)
theorem tx_m_Session_held_fit (X : K.In h) (G : h.Ns mainGlobals mg) (c : SaysP hfa hfn hts hexB w K) : Meth K (He.ga K "Session") "held_fit" (He.ma K (He.ga K "Session") "held_fit") := He.meth_ok (c.t.d.fact 233 (f := .meth "Session" "held_fit") rfl)
theorem tx_nF_Session_now (X : K.In h) (G : h.Ns mainGlobals mg) (c : SaysP hfa hfn hts hexB w K) : NoAttr K (He.ga K "Session") "now" := He.noat_ok (c.t.d.fact 234 (f := .noat "Session" "now") rfl)
theorem tx_nF_Session_history (X : K.In h) (G : h.Ns mainGlobals mg) (c : SaysP hfa hfn hts hexB w K) : NoAttr K (He.ga K "Session") "history" := He.noat_ok (c.t.d.fact 235 (f := .noat "Session" "history") rfl)
theorem tx_nF_Session_held (X : K.In h) (G : h.Ns mainGlobals mg) (c : SaysP hfa hfn hts hexB w K) : NoAttr K (He.ga K "Session") "held" := He.noat_ok (c.t.d.fact 236 (f := .noat "Session" "held") rfl)
theorem tx_cl_Reader (X : K.In h) (G : h.Ns mainGlobals mg) (c : SaysP hfa hfn hts hexB w K) : Cls K (He.ga K "Reader") := He.cls_ok (c.t.d.fact 237 (f := .cls "Reader") rfl)
theorem tx_k_Reader (X : K.In h) (G : h.Ns mainGlobals mg) (c : SaysP hfa hfn hts hexB w K) : Mk K (He.ga K "Reader") (He.ma K (He.ga K "Reader") "__init__") := He.mkr_ok (c.t.d.fact 238 (f := .mkr "Reader") rfl)
theorem tx_m_Reader_has_more (X : K.In h) (G : h.Ns mainGlobals mg) (c : SaysP hfa hfn hts hexB w K) : Meth K (He.ga K "Reader") "has_more" (He.ma K (He.ga K "Reader") "has_more") := He.meth_ok (c.t.d.fact 239 (f := .meth "Reader" "has_more") rfl)
theorem tx_m_Reader_take_number (X : K.In h) (G : h.Ns mainGlobals mg) (c : SaysP hfa hfn hts hexB w K) : Meth K (He.ga K "Reader") "take_number" (He.ma K (He.ga K "Reader") "take_number") := He.meth_ok (c.t.d.fact 240 (f := .meth "Reader" "take_number") rfl)
theorem tx_m_Reader_take_row (X : K.In h) (G : h.Ns mainGlobals mg) (c : SaysP hfa hfn hts hexB w K) : Meth K (He.ga K "Reader") "take_row" (He.ma K (He.ga K "Reader") "take_row") := He.meth_ok (c.t.d.fact 241 (f := .meth "Reader" "take_row") rfl)
theorem tx_nF_Reader_numbers (X : K.In h) (G : h.Ns mainGlobals mg) (c : SaysP hfa hfn hts hexB w K) : NoAttr K (He.ga K "Reader") "numbers" := He.noat_ok (c.t.d.fact 242 (f := .noat "Reader" "numbers") rfl)
theorem tx_nF_Reader_place (X : K.In h) (G : h.Ns mainGlobals mg) (c : SaysP hfa hfn hts hexB w K) : NoAttr K (He.ga K "Reader") "place" := He.noat_ok (c.t.d.fact 243 (f := .noat "Reader" "place") rfl)
theorem tx_x_Refusal (X : K.In h) (G : h.Ns mainGlobals mg) (c : SaysP hfa hfn hts hexB w K) : ExcT K (He.ga K "Refusal") (He.ga K "Refusal") := excTB_ok (all_at c.more 0 (x := fun K => excTB K (He.ga K "Refusal") (He.ga K "Refusal")) rfl)
theorem tx_x_OutOfBounds (X : K.In h) (G : h.Ns mainGlobals mg) (c : SaysP hfa hfn hts hexB w K) : ExcT K (He.ga K "Refusal") (He.ga K "OutOfBounds") := excTB_ok (all_at c.more 1 (x := fun K => excTB K (He.ga K "Refusal") (He.ga K "OutOfBounds")) rfl)
theorem tx_x_NotFormed (X : K.In h) (G : h.Ns mainGlobals mg) (c : SaysP hfa hfn hts hexB w K) : ExcT K (He.ga K "Refusal") (He.ga K "NotFormed") := excTB_ok (all_at c.more 2 (x := fun K => excTB K (He.ga K "Refusal") (He.ga K "NotFormed")) rfl)
theorem tx_x_NotThere (X : K.In h) (G : h.Ns mainGlobals mg) (c : SaysP hfa hfn hts hexB w K) : ExcT K (He.ga K "Refusal") (He.ga K "NotThere") := excTB_ok (all_at c.more 3 (x := fun K => excTB K (He.ga K "Refusal") (He.ga K "NotThere")) rfl)
theorem tx_x_NotRight (X : K.In h) (G : h.Ns mainGlobals mg) (c : SaysP hfa hfn hts hexB w K) : ExcT K (He.ga K "Refusal") (He.ga K "NotRight") := excTB_ok (all_at c.more 4 (x := fun K => excTB K (He.ga K "Refusal") (He.ga K "NotRight")) rfl)
theorem tx_x_NotCheaper (X : K.In h) (G : h.Ns mainGlobals mg) (c : SaysP hfa hfn hts hexB w K) : ExcT K (He.ga K "Refusal") (He.ga K "NotCheaper") := excTB_ok (all_at c.more 5 (x := fun K => excTB K (He.ga K "Refusal") (He.ga K "NotCheaper")) rfl)
theorem tx_x_NotFitting (X : K.In h) (G : h.Ns mainGlobals mg) (c : SaysP hfa hfn hts hexB w K) : ExcT K (He.ga K "Refusal") (He.ga K "NotFitting") := excTB_ok (all_at c.more 6 (x := fun K => excTB K (He.ga K "Refusal") (He.ga K "NotFitting")) rfl)
theorem tx_x_NotReadable (X : K.In h) (G : h.Ns mainGlobals mg) (c : SaysP hfa hfn hts hexB w K) : ExcT K (He.ga K "Refusal") (He.ga K "NotReadable") := excTB_ok (all_at c.more 7 (x := fun K => excTB K (He.ga K "Refusal") (He.ga K "NotReadable")) rfl)
theorem tx_x_NoRoom (X : K.In h) (G : h.Ns mainGlobals mg) (c : SaysP hfa hfn hts hexB w K) : ExcT K (He.ga K "Refusal") (He.ga K "NoRoom") := excTB_ok (all_at c.more 8 (x := fun K => excTB K (He.ga K "Refusal") (He.ga K "NoRoom")) rfl)
theorem tx_i_Refusal (X : K.In h) (G : h.Ns mainGlobals mg) (c : SaysP hfa hfn hts hexB w K) : ClsFn K (He.ga K "Refusal") "__init__" (He.ma K (He.ga K "Refusal") "__init__") := clsFnB_ok (all_at c.more 9 (x := fun K => clsFnB K (He.ga K "Refusal") (He.ma K (He.ga K "Refusal") "__init__")) rfl)
theorem tx_v_Exception (X : K.In h) (G : h.Ns mainGlobals mg) (c : SaysP hfa hfn hts hexB w K) : PySem.W.findCls K (.type "Exception") (.type "type") "__init__" = some (.val (.builtin "Exception.__init__")) := excInitB_ok (all_at c.more 10 (x := fun K => excInitB K) rfl)
theorem tx_tp_REGISTERS (X : K.In h) (G : h.Ns mainGlobals mg) (c : SaysP hfa hfn hts hexB w K) : ∀ H, SqT K H (He.ga K "REGISTERS") [V.str "r0", V.str "r1", V.str "r2", V.str "r3", V.str "r4", V.str "r5", V.str "r6", V.str "r7"] := fun H => He.tupB_ok (all_at c.more 11 (x := fun K => He.tupB K "REGISTERS" [.str "r0", .str "r1", .str "r2", .str "r3", .str "r4", .str "r5", .str "r6", .str "r7"]) rfl) H
theorem tx_tp_WITH_CONSTANT (X : K.In h) (G : h.Ns mainGlobals mg) (c : SaysP hfa hfn hts hexB w K) : ∀ H, SqT K H (He.ga K "WITH_CONSTANT") [V.str "set", V.str "adc"] := fun H => He.tupB_ok (all_at c.more 12 (x := fun K => He.tupB K "WITH_CONSTANT" [.str "set", .str "adc"]) rfl) H
theorem tx_tp_WITH_SECOND (X : K.In h) (G : h.Ns mainGlobals mg) (c : SaysP hfa hfn hts hexB w K) : ∀ H, SqT K H (He.ga K "WITH_SECOND") [V.str "mov", V.str "add", V.str "sub", V.str "swp"] := fun H => He.tupB_ok (all_at c.more 13 (x := fun K => He.tupB K "WITH_SECOND" [.str "mov", .str "add", .str "sub", .str "swp"]) rfl) H
theorem tx_tp_NAMES (X : K.In h) (G : h.Ns mainGlobals mg) (c : SaysP hfa hfn hts hexB w K) : ∀ H, SqT K H (He.ga K "NAMES") [V.str "a", V.str "b", V.str "c", V.str "d"] := fun H => He.tupB_ok (all_at c.more 14 (x := fun K => He.tupB K "NAMES" [.str "a", .str "b", .str "c", .str "d"]) rfl) H
theorem tx_tp_CALLS (X : K.In h) (G : h.Ns mainGlobals mg) (c : SaysP hfa hfn hts hexB w K) : ∀ H, SqT K H (He.ga K "CALLS") [V.ref (He.ga K "answer_load"), V.ref (He.ga K "answer_code"), V.ref (He.ga K "answer_put"), V.ref (He.ga K "answer_cut"), V.ref (He.ga K "answer_judge"), V.ref (He.ga K "answer_rule"), V.ref (He.ga K "answer_drop"), V.ref (He.ga K "answer_say"), V.ref (He.ga K "answer_fits"), V.ref (He.ga K "answer_at"), V.ref (He.ga K "answer_step"), V.ref (He.ga K "answer_run"), V.ref (He.ga K "answer_trail"), V.ref (He.ga K "answer_eval"), V.ref (He.ga K "answer_form"), V.ref (He.ga K "answer_same"), V.ref (He.ga K "answer_state"), V.ref (He.ga K "answer_undo"), V.ref (He.ga K "answer_redo")] := fun H => He.tupB_ok (all_at c.more 15 (x := fun K => He.tupB K "CALLS" [.glo "answer_load", .glo "answer_code", .glo "answer_put", .glo "answer_cut", .glo "answer_judge", .glo "answer_rule", .glo "answer_drop", .glo "answer_say", .glo "answer_fits", .glo "answer_at", .glo "answer_step", .glo "answer_run", .glo "answer_trail", .glo "answer_eval", .glo "answer_form", .glo "answer_same", .glo "answer_state", .glo "answer_undo", .glo "answer_redo"]) rfl) H
theorem tx_t_COSTS (X : K.In h) (G : h.Ns mainGlobals mg) (c : SaysP hfa hfn hts hexB w K) : ∃ es n, KDict K w (He.ga K "COSTS") es n := c.t.tab 0 (t := (fun K => (He.ga K "COSTS"), ["set", "mov", "add", "sub", "adc", "neg", "swp"])) rfl
theorem tx_tk_COSTS (X : K.In h) (G : h.Ns mainGlobals mg) (c : SaysP hfa hfn hts hexB w K) : He.dicW K (He.ga K "COSTS") = some (He.keysIn w.params ["set", "mov", "add", "sub", "adc", "neg", "swp"]) := SaysT_dic c.t 0 (t := (fun K => (He.ga K "COSTS"), ["set", "mov", "add", "sub", "adc", "neg", "swp"])) rfl
theorem tx_tv_COSTS (X : K.In h) (G : h.Ns mainGlobals mg) (c : SaysP hfa hfn hts hexB w K) : ∀ q ∈ ([("set", V.int (1)), ("mov", V.int (1)), ("add", V.int (3)), ("sub", V.int (3)), ("adc", V.int (2)), ("neg", V.int (2)), ("swp", V.int (4))] : List (Str × V)), ∃ u, PySem.W.nsIn K (He.ga K "COSTS") q.1 = some (some u) ∧ RelV q.2 u := vals_all (all_at c.more 16 (x := fun K => He.valsB K (He.ga K "COSTS") [("set", .int (1)), ("mov", .int (1)), ("add", .int (3)), ("sub", .int (3)), ("adc", .int (2)), ("neg", .int (2)), ("swp", .int (4))]) rfl)
theorem tx_d_Refusal_init (X : K.In h) (G : h.Ns mainGlobals mg) (c : SaysP hfa hfn hts hexB w K) : Def K "__init__" "Refusal.__init__" s_Refusal_init (He.ma K (He.ga K "Refusal") "__init__") p_Refusal_init := def_of (c.t.d.def_ 0 (d := ⟨("Refusal", some "__init__"), "__init__", "Refusal.__init__", defArgs s_Refusal_init, defBody s_Refusal_init, defScope s_Refusal_init, [], []⟩) rfl) fun _ _ _ _ _ _ us hl => match us, hl with | [_, _], _ => rfl
theorem tx_d_OutOfBounds_init (X : K.In h) (G : h.Ns mainGlobals mg) (c : SaysP hfa hfn hts hexB w K) : Def K "__init__" "OutOfBounds.__init__" s_OutOfBounds_init (He.ma K (He.ga K "OutOfBounds") "__init__") p_OutOfBounds_init := def_of (c.t.d.def_ 1 (d := ⟨("OutOfBounds", some "__init__"), "__init__", "OutOfBounds.__init__", defArgs s_OutOfBounds_init, defBody s_OutOfBounds_init, defScope s_OutOfBounds_init, [], []⟩) rfl) fun _ _ _ _ _ _ us hl => match us, hl with | [_], _ => rfl
theorem tx_d_NotFormed_init (X : K.In h) (G : h.Ns mainGlobals mg) (c : SaysP hfa hfn hts hexB w K) : Def K "__init__" "NotFormed.__init__" s_NotFormed_init (He.ma K (He.ga K "NotFormed") "__init__") p_NotFormed_init := def_of (c.t.d.def_ 2 (d := ⟨("NotFormed", some "__init__"), "__init__", "NotFormed.__init__", defArgs s_NotFormed_init, defBody s_NotFormed_init, defScope s_NotFormed_init, [], []⟩) rfl) fun _ _ _ _ _ _ us hl => match us, hl with | [_], _ => rfl
theorem tx_d_NotThere_init (X : K.In h) (G : h.Ns mainGlobals mg) (c : SaysP hfa hfn hts hexB w K) : Def K "__init__" "NotThere.__init__" s_NotThere_init (He.ma K (He.ga K "NotThere") "__init__") p_NotThere_init := def_of (c.t.d.def_ 3 (d := ⟨("NotThere", some "__init__"), "__init__", "NotThere.__init__", defArgs s_NotThere_init, defBody s_NotThere_init, defScope s_NotThere_init, [], []⟩) rfl) fun _ _ _ _ _ _ us hl => match us, hl with | [_], _ => rfl
theorem tx_d_NotRight_init (X : K.In h) (G : h.Ns mainGlobals mg) (c : SaysP hfa hfn hts hexB w K) : Def K "__init__" "NotRight.__init__" s_NotRight_init (He.ma K (He.ga K "NotRight") "__init__") p_NotRight_init := def_of (c.t.d.def_ 4 (d := ⟨("NotRight", some "__init__"), "__init__", "NotRight.__init__", defArgs s_NotRight_init, defBody s_NotRight_init, defScope s_NotRight_init, [], []⟩) rfl) fun _ _ _ _ _ _ us hl => match us, hl with | [_, _], _ => rfl
theorem tx_d_NotCheaper_init (X : K.In h) (G : h.Ns mainGlobals mg) (c : SaysP hfa hfn hts hexB w K) : Def K "__init__" "NotCheaper.__init__" s_NotCheaper_init (He.ma K (He.ga K "NotCheaper") "__init__") p_NotCheaper_init := def_of (c.t.d.def_ 5 (d := ⟨("NotCheaper", some "__init__"), "__init__", "NotCheaper.__init__", defArgs s_NotCheaper_init, defBody s_NotCheaper_init, defScope s_NotCheaper_init, [], []⟩) rfl) fun _ _ _ _ _ _ us hl => match us, hl with | [_], _ => rfl
theorem tx_d_NotFitting_init (X : K.In h) (G : h.Ns mainGlobals mg) (c : SaysP hfa hfn hts hexB w K) : Def K "__init__" "NotFitting.__init__" s_NotFitting_init (He.ma K (He.ga K "NotFitting") "__init__") p_NotFitting_init := def_of (c.t.d.def_ 6 (d := ⟨("NotFitting", some "__init__"), "__init__", "NotFitting.__init__", defArgs s_NotFitting_init, defBody s_NotFitting_init, defScope s_NotFitting_init, [], []⟩) rfl) fun _ _ _ _ _ _ us hl => match us, hl with | [_], _ => rfl
theorem tx_d_NotReadable_init (X : K.In h) (G : h.Ns mainGlobals mg) (c : SaysP hfa hfn hts hexB w K) : Def K "__init__" "NotReadable.__init__" s_NotReadable_init (He.ma K (He.ga K "NotReadable") "__init__") p_NotReadable_init := def_of (c.t.d.def_ 7 (d := ⟨("NotReadable", some "__init__"), "__init__", "NotReadable.__init__", defArgs s_NotReadable_init, defBody s_NotReadable_init, defScope s_NotReadable_init, [], []⟩) rfl) fun _ _ _ _ _ _ us hl => match us, hl with | [_, _], _ => rfl
theorem tx_d_NoRoom_init (X : K.In h) (G : h.Ns mainGlobals mg) (c : SaysP hfa hfn hts hexB w K) : Def K "__init__" "NoRoom.__init__" s_NoRoom_init (He.ma K (He.ga K "NoRoom") "__init__") p_NoRoom_init := def_of (c.t.d.def_ 8 (d := ⟨("NoRoom", some "__init__"), "__init__", "NoRoom.__init__", defArgs s_NoRoom_init, defBody s_NoRoom_init, defScope s_NoRoom_init, [], []⟩) rfl) fun _ _ _ _ _ _ us hl => match us, hl with | [_], _ => rfl
theorem tx_d_text_of (X : K.In h) (G : h.Ns mainGlobals mg) (c : SaysP hfa hfn hts hexB w K) : Def K "text_of" "text_of" s_text_of (He.ga K "text_of") p_text_of := def_of (c.t.d.def_ 9 (d := ⟨("text_of", none), "text_of", "text_of", defArgs s_text_of, defBody s_text_of, defScope s_text_of, [], []⟩) rfl) fun _ _ _ _ _ _ us hl => match us, hl with | [_], _ => rfl
theorem tx_d_bytes_of (X : K.In h) (G : h.Ns mainGlobals mg) (c : SaysP hfa hfn hts hexB w K) : Def K "bytes_of" "bytes_of" s_bytes_of (He.ga K "bytes_of") p_bytes_of := def_of (c.t.d.def_ 10 (d := ⟨("bytes_of", none), "bytes_of", "bytes_of", defArgs s_bytes_of, defBody s_bytes_of, defScope s_bytes_of, [], []⟩) rfl) fun _ _ _ _ _ _ us hl => match us, hl with | [_], _ => rfl
theorem tx_d_lines_of (X : K.In h) (G : h.Ns mainGlobals mg) (c : SaysP hfa hfn hts hexB w K) : Def K "lines_of" "lines_of" s_lines_of (He.ga K "lines_of") p_lines_of := def_of (c.t.d.def_ 11 (d := ⟨("lines_of", none), "lines_of", "lines_of", defArgs s_lines_of, defBody s_lines_of, defScope s_lines_of, [], []⟩) rfl) fun _ _ _ _ _ _ us hl => match us, hl with | [_], _ => rfl
theorem tx_d_has_open_end (X : K.In h) (G : h.Ns mainGlobals mg) (c : SaysP hfa hfn hts hexB w K) : Def K "has_open_end" "has_open_end" s_has_open_end (He.ga K "has_open_end") p_has_open_end := def_of (c.t.d.def_ 12 (d := ⟨("has_open_end", none), "has_open_end", "has_open_end", defArgs s_has_open_end, defBody s_has_open_end, defScope s_has_open_end, [], []⟩) rfl) fun _ _ _ _ _ _ us hl => match us, hl with | [_], _ => rfl
theorem tx_d_read_number (X : K.In h) (G : h.Ns mainGlobals mg) (c : SaysP hfa hfn hts hexB w K) : Def K "read_number" "read_number" s_read_number (He.ga K "read_number") p_read_number := def_of (c.t.d.def_ 13 (d := ⟨("read_number", none), "read_number", "read_number", defArgs s_read_number, defBody s_read_number, defScope s_read_number, [], []⟩) rfl) fun _ _ _ _ _ _ us hl => match us, hl with | [_], _ => rfl
theorem tx_d_Instruction_init (X : K.In h) (G : h.Ns mainGlobals mg) (c : SaysP hfa hfn hts hexB w K) : Def K "__init__" "Instruction.__init__" s_Instruction_init (He.ma K (He.ga K "Instruction") "__init__") p_Instruction_init := def_of (c.t.d.def_ 14 (d := ⟨("Instruction", some "__init__"), "__init__", "Instruction.__init__", defArgs s_Instruction_init, defBody s_Instruction_init, defScope s_Instruction_init, [], []⟩) rfl) fun _ _ _ _ _ _ us hl => match us, hl with | [_, _, _, _], _ => rfl
theorem tx_d_place_of (X : K.In h) (G : h.Ns mainGlobals mg) (c : SaysP hfa hfn hts hexB w K) : Def K "place_of" "place_of" s_place_of (He.ga K "place_of") p_place_of := def_of (c.t.d.def_ 15 (d := ⟨("place_of", none), "place_of", "place_of", defArgs s_place_of, defBody s_place_of, defScope s_place_of, [], []⟩) rfl) fun _ _ _ _ _ _ us hl => match us, hl with | [_, _], _ => rfl
theorem tx_d_read_instruction (X : K.In h) (G : h.Ns mainGlobals mg) (c : SaysP hfa hfn hts hexB w K) : Def K "read_instruction" "read_instruction" s_read_instruction (He.ga K "read_instruction") p_read_instruction := def_of (c.t.d.def_ 16 (d := ⟨("read_instruction", none), "read_instruction", "read_instruction", defArgs s_read_instruction, defBody s_read_instruction, defScope s_read_instruction, [], []⟩) rfl) fun _ _ _ _ _ _ us hl => match us, hl with | [_, _, _], _ => rfl
theorem tx_d_read_instructions (X : K.In h) (G : h.Ns mainGlobals mg) (c : SaysP hfa hfn hts hexB w K) : Def K "read_instructions" "read_instructions" s_read_instructions (He.ga K "read_instructions") p_read_instructions := def_of (c.t.d.def_ 17 (d := ⟨("read_instructions", none), "read_instructions", "read_instructions", defArgs s_read_instructions, defBody s_read_instructions, defScope s_read_instructions, [], []⟩) rfl) fun _ _ _ _ _ _ us hl => match us, hl with | [_, _, _, _], _ => rfl
theorem tx_d_read_code_line (X : K.In h) (G : h.Ns mainGlobals mg) (c : SaysP hfa hfn hts hexB w K) : Def K "read_code_line" "read_code_line" s_read_code_line (He.ga K "read_code_line") p_read_code_line := def_of (c.t.d.def_ 18 (d := ⟨("read_code_line", none), "read_code_line", "read_code_line", defArgs s_read_code_line, defBody s_read_code_line, defScope s_read_code_line, [], []⟩) rfl) fun _ _ _ _ _ _ us hl => match us, hl with | [_], _ => rfl
theorem tx_d_read_code (X : K.In h) (G : h.Ns mainGlobals mg) (c : SaysP hfa hfn hts hexB w K) : Def K "read_code" "read_code" s_read_code (He.ga K "read_code") p_read_code := def_of (c.t.d.def_ 19 (d := ⟨("read_code", none), "read_code", "read_code", defArgs s_read_code, defBody s_read_code, defScope s_read_code, [], []⟩) rfl) fun _ _ _ _ _ _ us hl => match us, hl with | [_], _ => rfl
theorem tx_d_line_of (X : K.In h) (G : h.Ns mainGlobals mg) (c : SaysP hfa hfn hts hexB w K) : Def K "line_of" "line_of" s_line_of (He.ga K "line_of") p_line_of := def_of (c.t.d.def_ 20 (d := ⟨("line_of", none), "line_of", "line_of", defArgs s_line_of, defBody s_line_of, defScope s_line_of, [], []⟩) rfl) fun _ _ _ _ _ _ us hl => match us, hl with | [_], _ => rfl
theorem tx_d_code_text (X : K.In h) (G : h.Ns mainGlobals mg) (c : SaysP hfa hfn hts hexB w K) : Def K "code_text" "code_text" s_code_text (He.ga K "code_text") p_code_text := def_of (c.t.d.def_ 21 (d := ⟨("code_text", none), "code_text", "code_text", defArgs s_code_text, defBody s_code_text, defScope s_code_text, [], []⟩) rfl) fun _ _ _ _ _ _ us hl => match us, hl with | [_], _ => rfl
theorem tx_d_cost_of (X : K.In h) (G : h.Ns mainGlobals mg) (c : SaysP hfa hfn hts hexB w K) : Def K "cost_of" "cost_of" s_cost_of (He.ga K "cost_of") p_cost_of := def_of (c.t.d.def_ 22 (d := ⟨("cost_of", none), "cost_of", "cost_of", defArgs s_cost_of, defBody s_cost_of, defScope s_cost_of, [], []⟩) rfl) fun _ _ _ _ _ _ us hl => match us, hl with | [_], _ => rfl
theorem tx_d_carry_out (X : K.In h) (G : h.Ns mainGlobals mg) (c : SaysP hfa hfn hts hexB w K) : Def K "carry_out" "carry_out" s_carry_out (He.ga K "carry_out") p_carry_out := def_of (c.t.d.def_ 23 (d := ⟨("carry_out", none), "carry_out", "carry_out", defArgs s_carry_out, defBody s_carry_out, defScope s_carry_out, [], []⟩) rfl) fun _ _ _ _ _ _ us hl => match us, hl with | [_, _], _ => rfl
theorem tx_d_state_after (X : K.In h) (G : h.Ns mainGlobals mg) (c : SaysP hfa hfn hts hexB w K) : Def K "state_after" "state_after" s_state_after (He.ga K "state_after") p_state_after := def_of (c.t.d.def_ 24 (d := ⟨("state_after", none), "state_after", "state_after", defArgs s_state_after, defBody s_state_after, defScope s_state_after, [], []⟩) rfl) fun _ _ _ _ _ _ us hl => match us, hl with | [_, _], _ => rfl
theorem tx_d_zero_and_ones (X : K.In h) (G : h.Ns mainGlobals mg) (c : SaysP hfa hfn hts hexB w K) : Def K "zero_and_ones" "zero_and_ones" s_zero_and_ones (He.ga K "zero_and_ones") p_zero_and_ones := def_of (c.t.d.def_ 25 (d := ⟨("zero_and_ones", none), "zero_and_ones", "zero_and_ones", defArgs s_zero_and_ones, defBody s_zero_and_ones, defScope s_zero_and_ones, [], []⟩) rfl) fun _ _ _ _ _ _ us hl => match us, hl with | [_], _ => rfl
theorem tx_d_nine_states (X : K.In h) (G : h.Ns mainGlobals mg) (c : SaysP hfa hfn hts hexB w K) : Def K "nine_states" "nine_states" s_nine_states (He.ga K "nine_states") p_nine_states := def_of (c.t.d.def_ 26 (d := ⟨("nine_states", none), "nine_states", "nine_states", defArgs s_nine_states, defBody s_nine_states, defScope s_nine_states, [], []⟩) rfl) fun _ _ _ _ _ _ us hl => match us, hl with | [], _ => rfl
theorem tx_d_state_between (X : K.In h) (G : h.Ns mainGlobals mg) (c : SaysP hfa hfn hts hexB w K) : Def K "state_between" "state_between" s_state_between (He.ga K "state_between") p_state_between := def_of (c.t.d.def_ 27 (d := ⟨("state_between", none), "state_between", "state_between", defArgs s_state_between, defBody s_state_between, defScope s_state_between, [], []⟩) rfl) fun _ _ _ _ _ _ us hl => match us, hl with | [_, _], _ => rfl
theorem tx_d_sum_at (X : K.In h) (G : h.Ns mainGlobals mg) (c : SaysP hfa hfn hts hexB w K) : Def K "sum_at" "sum_at" s_sum_at (He.ga K "sum_at") p_sum_at := def_of (c.t.d.def_ 28 (d := ⟨("sum_at", none), "sum_at", "sum_at", defArgs s_sum_at, defBody s_sum_at, defScope s_sum_at, [], []⟩) rfl) fun _ _ _ _ _ _ us hl => match us, hl with | [_, _], _ => rfl
theorem tx_d_Moment_init (X : K.In h) (G : h.Ns mainGlobals mg) (c : SaysP hfa hfn hts hexB w K) : Def K "__init__" "Moment.__init__" s_Moment_init (He.ma K (He.ga K "Moment") "__init__") p_Moment_init := def_of (c.t.d.def_ 29 (d := ⟨("Moment", some "__init__"), "__init__", "Moment.__init__", defArgs s_Moment_init, defBody s_Moment_init, defScope s_Moment_init, [], []⟩) rfl) fun _ _ _ _ _ _ us hl => match us, hl with | [_, _, _], _ => rfl
theorem tx_d_are_alike (X : K.In h) (G : h.Ns mainGlobals mg) (c : SaysP hfa hfn hts hexB w K) : Def K "are_alike" "are_alike" s_are_alike (He.ga K "are_alike") p_are_alike := def_of (c.t.d.def_ 30 (d := ⟨("are_alike", none), "are_alike", "are_alike", defArgs s_are_alike, defBody s_are_alike, defScope s_are_alike, [], []⟩) rfl) fun _ _ _ _ _ _ us hl => match us, hl with | [_, _], _ => rfl
theorem tx_d_History_init (X : K.In h) (G : h.Ns mainGlobals mg) (c : SaysP hfa hfn hts hexB w K) : Def K "__init__" "History.__init__" s_History_init (He.ma K (He.ga K "History") "__init__") p_History_init := def_of (c.t.d.def_ 31 (d := ⟨("History", some "__init__"), "__init__", "History.__init__", defArgs s_History_init, defBody s_History_init, defScope s_History_init, [], []⟩) rfl) fun _ _ _ _ _ _ us hl => match us, hl with | [_], _ => rfl
theorem tx_d_History_edited (X : K.In h) (G : h.Ns mainGlobals mg) (c : SaysP hfa hfn hts hexB w K) : Def K "edited" "History.edited" s_History_edited (He.ma K (He.ga K "History") "edited") p_History_edited := def_of (c.t.d.def_ 32 (d := ⟨("History", some "edited"), "edited", "History.edited", defArgs s_History_edited, defBody s_History_edited, defScope s_History_edited, [], []⟩) rfl) fun _ _ _ _ _ _ us hl => match us, hl with | [_, _], _ => rfl
theorem tx_d_History_step_back (X : K.In h) (G : h.Ns mainGlobals mg) (c : SaysP hfa hfn hts hexB w K) : Def K "step_back" "History.step_back" s_History_step_back (He.ma K (He.ga K "History") "step_back") p_History_step_back := def_of (c.t.d.def_ 33 (d := ⟨("History", some "step_back"), "step_back", "History.step_back", defArgs s_History_step_back, defBody s_History_step_back, defScope s_History_step_back, [], []⟩) rfl) fun _ _ _ _ _ _ us hl => match us, hl with | [_, _], _ => rfl
theorem tx_d_History_step_forth (X : K.In h) (G : h.Ns mainGlobals mg) (c : SaysP hfa hfn hts hexB w K) : Def K "step_forth" "History.step_forth" s_History_step_forth (He.ma K (He.ga K "History") "step_forth") p_History_step_forth := def_of (c.t.d.def_ 34 (d := ⟨("History", some "step_forth"), "step_forth", "History.step_forth", defArgs s_History_step_forth, defBody s_History_step_forth, defScope s_History_step_forth, [], []⟩) rfl) fun _ _ _ _ _ _ us hl => match us, hl with | [_, _], _ => rfl
theorem tx_d_Rule_init (X : K.In h) (G : h.Ns mainGlobals mg) (c : SaysP hfa hfn hts hexB w K) : Def K "__init__" "Rule.__init__" s_Rule_init (He.ma K (He.ga K "Rule") "__init__") p_Rule_init := def_of (c.t.d.def_ 35 (d := ⟨("Rule", some "__init__"), "__init__", "Rule.__init__", defArgs s_Rule_init, defBody s_Rule_init, defScope s_Rule_init, [], []⟩) rfl) fun _ _ _ _ _ _ us hl => match us, hl with | [_, _, _, _], _ => rfl
theorem tx_d_Constant_init (X : K.In h) (G : h.Ns mainGlobals mg) (c : SaysP hfa hfn hts hexB w K) : Def K "__init__" "Constant.__init__" s_Constant_init (He.ma K (He.ga K "Constant") "__init__") p_Constant_init := def_of (c.t.d.def_ 36 (d := ⟨("Constant", some "__init__"), "__init__", "Constant.__init__", defArgs s_Constant_init, defBody s_Constant_init, defScope s_Constant_init, [], []⟩) rfl) fun _ _ _ _ _ _ us hl => match us, hl with | [_, _, _, _], _ => rfl
theorem tx_d_Constant_worth (X : K.In h) (G : h.Ns mainGlobals mg) (c : SaysP hfa hfn hts hexB w K) : Def K "worth" "Constant.worth" s_Constant_worth (He.ma K (He.ga K "Constant") "worth") p_Constant_worth := def_of (c.t.d.def_ 37 (d := ⟨("Constant", some "worth"), "worth", "Constant.worth", defArgs s_Constant_worth, defBody s_Constant_worth, defScope s_Constant_worth, [], []⟩) rfl) fun _ _ _ _ _ _ us hl => match us, hl with | [_, _, _], _ => rfl
theorem tx_d_Fit_init (X : K.In h) (G : h.Ns mainGlobals mg) (c : SaysP hfa hfn hts hexB w K) : Def K "__init__" "Fit.__init__" s_Fit_init (He.ma K (He.ga K "Fit") "__init__") p_Fit_init := def_of (c.t.d.def_ 38 (d := ⟨("Fit", some "__init__"), "__init__", "Fit.__init__", defArgs s_Fit_init, defBody s_Fit_init, defScope s_Fit_init, [], []⟩) rfl) fun _ _ _ _ _ _ us hl => match us, hl with | [_], _ => rfl
theorem tx_d_Fit_put_name (X : K.In h) (G : h.Ns mainGlobals mg) (c : SaysP hfa hfn hts hexB w K) : Def K "put_name" "Fit.put_name" s_Fit_put_name (He.ma K (He.ga K "Fit") "put_name") p_Fit_put_name := def_of (c.t.d.def_ 39 (d := ⟨("Fit", some "put_name"), "put_name", "Fit.put_name", defArgs s_Fit_put_name, defBody s_Fit_put_name, defScope s_Fit_put_name, [], []⟩) rfl) fun _ _ _ _ _ _ us hl => match us, hl with | [_, _, _], _ => rfl
theorem tx_d_Fit_put_constant (X : K.In h) (G : h.Ns mainGlobals mg) (c : SaysP hfa hfn hts hexB w K) : Def K "put_constant" "Fit.put_constant" s_Fit_put_constant (He.ma K (He.ga K "Fit") "put_constant") p_Fit_put_constant := def_of (c.t.d.def_ 40 (d := ⟨("Fit", some "put_constant"), "put_constant", "Fit.put_constant", defArgs s_Fit_put_constant, defBody s_Fit_put_constant, defScope s_Fit_put_constant, [], []⟩) rfl) fun _ _ _ _ _ _ us hl => match us, hl with | [_, _, _], _ => rfl
theorem tx_d_Fit_told_x (X : K.In h) (G : h.Ns mainGlobals mg) (c : SaysP hfa hfn hts hexB w K) : Def K "told_x" "Fit.told_x" s_Fit_told_x (He.ma K (He.ga K "Fit") "told_x") p_Fit_told_x := def_of (c.t.d.def_ 41 (d := ⟨("Fit", some "told_x"), "told_x", "Fit.told_x", defArgs s_Fit_told_x, defBody s_Fit_told_x, defScope s_Fit_told_x, [], []⟩) rfl) fun _ _ _ _ _ _ us hl => match us, hl with | [_], _ => rfl
theorem tx_d_Fit_told_y (X : K.In h) (G : h.Ns mainGlobals mg) (c : SaysP hfa hfn hts hexB w K) : Def K "told_y" "Fit.told_y" s_Fit_told_y (He.ma K (He.ga K "Fit") "told_y") p_Fit_told_y := def_of (c.t.d.def_ 42 (d := ⟨("Fit", some "told_y"), "told_y", "Fit.told_y", defArgs s_Fit_told_y, defBody s_Fit_told_y, defScope s_Fit_told_y, [], []⟩) rfl) fun _ _ _ _ _ _ us hl => match us, hl with | [_], _ => rfl
theorem tx_d_read_left_constant (X : K.In h) (G : h.Ns mainGlobals mg) (c : SaysP hfa hfn hts hexB w K) : Def K "read_left_constant" "read_left_constant" s_read_left_constant (He.ga K "read_left_constant") p_read_left_constant := def_of (c.t.d.def_ 43 (d := ⟨("read_left_constant", none), "read_left_constant", "read_left_constant", defArgs s_read_left_constant, defBody s_read_left_constant, defScope s_read_left_constant, [], []⟩) rfl) fun _ _ _ _ _ _ us hl => match us, hl with | [_], _ => rfl
theorem tx_d_times_at_end (X : K.In h) (G : h.Ns mainGlobals mg) (c : SaysP hfa hfn hts hexB w K) : Def K "times_at_end" "times_at_end" s_times_at_end (He.ga K "times_at_end") p_times_at_end := def_of (c.t.d.def_ 44 (d := ⟨("times_at_end", none), "times_at_end", "times_at_end", defArgs s_times_at_end, defBody s_times_at_end, defScope s_times_at_end, [], []⟩) rfl) fun _ _ _ _ _ _ us hl => match us, hl with | [_, _], _ => rfl
theorem tx_d_read_right_constant (X : K.In h) (G : h.Ns mainGlobals mg) (c : SaysP hfa hfn hts hexB w K) : Def K "read_right_constant" "read_right_constant" s_read_right_constant (He.ga K "read_right_constant") p_read_right_constant := def_of (c.t.d.def_ 45 (d := ⟨("read_right_constant", none), "read_right_constant", "read_right_constant", defArgs s_read_right_constant, defBody s_read_right_constant, defScope s_read_right_constant, [], []⟩) rfl) fun _ _ _ _ _ _ us hl => match us, hl with | [_], _ => rfl
theorem tx_d_read_rule (X : K.In h) (G : h.Ns mainGlobals mg) (c : SaysP hfa hfn hts hexB w K) : Def K "read_rule" "read_rule" s_read_rule (He.ga K "read_rule") p_read_rule := def_of (c.t.d.def_ 46 (d := ⟨("read_rule", none), "read_rule", "read_rule", defArgs s_read_rule, defBody s_read_rule, defScope s_read_rule, [], []⟩) rfl) fun _ _ _ _ _ _ us hl => match us, hl with | [_], _ => rfl
theorem tx_d_parts_of (X : K.In h) (G : h.Ns mainGlobals mg) (c : SaysP hfa hfn hts hexB w K) : Def K "parts_of" "parts_of" s_parts_of (He.ga K "parts_of") p_parts_of := def_of (c.t.d.def_ 47 (d := ⟨("parts_of", none), "parts_of", "parts_of", defArgs s_parts_of, defBody s_parts_of, defScope s_parts_of, [], []⟩) rfl) fun _ _ _ _ _ _ us hl => match us, hl with | [_], _ => rfl
theorem tx_d_is_formed (X : K.In h) (G : h.Ns mainGlobals mg) (c : SaysP hfa hfn hts hexB w K) : Def K "is_formed" "is_formed" s_is_formed (He.ga K "is_formed") p_is_formed := def_of (c.t.d.def_ 48 (d := ⟨("is_formed", none), "is_formed", "is_formed", defArgs s_is_formed, defBody s_is_formed, defScope s_is_formed, [], []⟩) rfl) fun _ _ _ _ _ _ us hl => match us, hl with | [_], _ => rfl
theorem tx_d_filled_in (X : K.In h) (G : h.Ns mainGlobals mg) (c : SaysP hfa hfn hts hexB w K) : Def K "filled_in" "filled_in" s_filled_in (He.ga K "filled_in") p_filled_in := def_of (c.t.d.def_ 49 (d := ⟨("filled_in", none), "filled_in", "filled_in", defArgs s_filled_in, defBody s_filled_in, defScope s_filled_in, [], []⟩) rfl) fun _ _ _ _ _ _ us hl => match us, hl with | [_, _, _, _], _ => rfl
theorem tx_d_seven_trials (X : K.In h) (G : h.Ns mainGlobals mg) (c : SaysP hfa hfn hts hexB w K) : Def K "seven_trials" "seven_trials" s_seven_trials (He.ga K "seven_trials") p_seven_trials := def_of (c.t.d.def_ 50 (d := ⟨("seven_trials", none), "seven_trials", "seven_trials", defArgs s_seven_trials, defBody s_seven_trials, defScope s_seven_trials, [], []⟩) rfl) fun _ _ _ _ _ _ us hl => match us, hl with | [], _ => rfl
theorem tx_d_state_on_trial (X : K.In h) (G : h.Ns mainGlobals mg) (c : SaysP hfa hfn hts hexB w K) : Def K "state_on_trial" "state_on_trial" s_state_on_trial (He.ga K "state_on_trial") p_state_on_trial := def_of (c.t.d.def_ 51 (d := ⟨("state_on_trial", none), "state_on_trial", "state_on_trial", defArgs s_state_on_trial, defBody s_state_on_trial, defScope s_state_on_trial, [], []⟩) rfl) fun _ _ _ _ _ _ us hl => match us, hl with | [_, _], _ => rfl
theorem tx_d_trial_against (X : K.In h) (G : h.Ns mainGlobals mg) (c : SaysP hfa hfn hts hexB w K) : Def K "trial_against" "trial_against" s_trial_against (He.ga K "trial_against") p_trial_against := def_of (c.t.d.def_ 52 (d := ⟨("trial_against", none), "trial_against", "trial_against", defArgs s_trial_against, defBody s_trial_against, defScope s_trial_against, [], []⟩) rfl) fun _ _ _ _ _ _ us hl => match us, hl with | [_], _ => rfl
theorem tx_d_read_sound_rule (X : K.In h) (G : h.Ns mainGlobals mg) (c : SaysP hfa hfn hts hexB w K) : Def K "read_sound_rule" "read_sound_rule" s_read_sound_rule (He.ga K "read_sound_rule") p_read_sound_rule := def_of (c.t.d.def_ 53 (d := ⟨("read_sound_rule", none), "read_sound_rule", "read_sound_rule", defArgs s_read_sound_rule, defBody s_read_sound_rule, defScope s_read_sound_rule, [], []⟩) rfl) fun _ _ _ _ _ _ us hl => match us, hl with | [_], _ => rfl
theorem tx_d_takes (X : K.In h) (G : h.Ns mainGlobals mg) (c : SaysP hfa hfn hts hexB w K) : Def K "takes" "takes" s_takes (He.ga K "takes") p_takes := def_of (c.t.d.def_ 54 (d := ⟨("takes", none), "takes", "takes", defArgs s_takes, defBody s_takes, defScope s_takes, [], []⟩) rfl) fun _ _ _ _ _ _ us hl => match us, hl with | [_, _, _], _ => rfl
theorem tx_d_fit_at (X : K.In h) (G : h.Ns mainGlobals mg) (c : SaysP hfa hfn hts hexB w K) : Def K "fit_at" "fit_at" s_fit_at (He.ga K "fit_at") p_fit_at := def_of (c.t.d.def_ 55 (d := ⟨("fit_at", none), "fit_at", "fit_at", defArgs s_fit_at, defBody s_fit_at, defScope s_fit_at, [], []⟩) rfl) fun _ _ _ _ _ _ us hl => match us, hl with | [_, _, _], _ => rfl
theorem tx_d_put_to_work (X : K.In h) (G : h.Ns mainGlobals mg) (c : SaysP hfa hfn hts hexB w K) : Def K "put_to_work" "put_to_work" s_put_to_work (He.ga K "put_to_work") p_put_to_work := def_of (c.t.d.def_ 56 (d := ⟨("put_to_work", none), "put_to_work", "put_to_work", defArgs s_put_to_work, defBody s_put_to_work, defScope s_put_to_work, [], []⟩) rfl) fun _ _ _ _ _ _ us hl => match us, hl with | [_, _, _, _], _ => rfl
theorem tx_d_Step_init (X : K.In h) (G : h.Ns mainGlobals mg) (c : SaysP hfa hfn hts hexB w K) : Def K "__init__" "Step.__init__" s_Step_init (He.ma K (He.ga K "Step") "__init__") p_Step_init := def_of (c.t.d.def_ 57 (d := ⟨("Step", some "__init__"), "__init__", "Step.__init__", defArgs s_Step_init, defBody s_Step_init, defScope s_Step_init, [], []⟩) rfl) fun _ _ _ _ _ _ us hl => match us, hl with | [_, _, _, _], _ => rfl
theorem tx_d_next_step (X : K.In h) (G : h.Ns mainGlobals mg) (c : SaysP hfa hfn hts hexB w K) : Def K "next_step" "next_step" s_next_step (He.ga K "next_step") p_next_step := def_of (c.t.d.def_ 58 (d := ⟨("next_step", none), "next_step", "next_step", defArgs s_next_step, defBody s_next_step, defScope s_next_step, [], []⟩) rfl) fun _ _ _ _ _ _ us hl => match us, hl with | [_, _], _ => rfl
theorem tx_d_moment_after (X : K.In h) (G : h.Ns mainGlobals mg) (c : SaysP hfa hfn hts hexB w K) : Def K "moment_after" "moment_after" s_moment_after (He.ga K "moment_after") p_moment_after := def_of (c.t.d.def_ 59 (d := ⟨("moment_after", none), "moment_after", "moment_after", defArgs s_moment_after, defBody s_moment_after, defScope s_moment_after, [], []⟩) rfl) fun _ _ _ _ _ _ us hl => match us, hl with | [_, _, _], _ => rfl
theorem tx_d_moment_at_rest (X : K.In h) (G : h.Ns mainGlobals mg) (c : SaysP hfa hfn hts hexB w K) : Def K "moment_at_rest" "moment_at_rest" s_moment_at_rest (He.ga K "moment_at_rest") p_moment_at_rest := def_of (c.t.d.def_ 60 (d := ⟨("moment_at_rest", none), "moment_at_rest", "moment_at_rest", defArgs s_moment_at_rest, defBody s_moment_at_rest, defScope s_moment_at_rest, [], []⟩) rfl) fun _ _ _ _ _ _ us hl => match us, hl with | [_, _], _ => rfl
theorem tx_d_read_whole_code (X : K.In h) (G : h.Ns mainGlobals mg) (c : SaysP hfa hfn hts hexB w K) : Def K "read_whole_code" "read_whole_code" s_read_whole_code (He.ga K "read_whole_code") p_read_whole_code := def_of (c.t.d.def_ 61 (d := ⟨("read_whole_code", none), "read_whole_code", "read_whole_code", defArgs s_read_whole_code, defBody s_read_whole_code, defScope s_read_whole_code, [], []⟩) rfl) fun _ _ _ _ _ _ us hl => match us, hl with | [_], _ => rfl
theorem tx_d_Session_init (X : K.In h) (G : h.Ns mainGlobals mg) (c : SaysP hfa hfn hts hexB w K) : Def K "__init__" "Session.__init__" s_Session_init (He.ma K (He.ga K "Session") "__init__") p_Session_init := def_of (c.t.d.def_ 62 (d := ⟨("Session", some "__init__"), "__init__", "Session.__init__", defArgs s_Session_init, defBody s_Session_init, defScope s_Session_init, [], []⟩) rfl) fun _ _ _ _ _ _ us hl => match us, hl with | [_], _ => rfl
theorem tx_d_Session_load (X : K.In h) (G : h.Ns mainGlobals mg) (c : SaysP hfa hfn hts hexB w K) : Def K "load" "Session.load" s_Session_load (He.ma K (He.ga K "Session") "load") p_Session_load := def_of (c.t.d.def_ 63 (d := ⟨("Session", some "load"), "load", "Session.load", defArgs s_Session_load, defBody s_Session_load, defScope s_Session_load, [], []⟩) rfl) fun _ _ _ _ _ _ us hl => match us, hl with | [_, _], _ => rfl
theorem tx_d_Session_code (X : K.In h) (G : h.Ns mainGlobals mg) (c : SaysP hfa hfn hts hexB w K) : Def K "code" "Session.code" s_Session_code (He.ma K (He.ga K "Session") "code") p_Session_code := def_of (c.t.d.def_ 64 (d := ⟨("Session", some "code"), "code", "Session.code", defArgs s_Session_code, defBody s_Session_code, defScope s_Session_code, [], []⟩) rfl) fun _ _ _ _ _ _ us hl => match us, hl with | [_], _ => rfl
theorem tx_d_Session_put (X : K.In h) (G : h.Ns mainGlobals mg) (c : SaysP hfa hfn hts hexB w K) : Def K "put" "Session.put" s_Session_put (He.ma K (He.ga K "Session") "put") p_Session_put := def_of (c.t.d.def_ 65 (d := ⟨("Session", some "put"), "put", "Session.put", defArgs s_Session_put, defBody s_Session_put, defScope s_Session_put, [], []⟩) rfl) fun _ _ _ _ _ _ us hl => match us, hl with | [_, _, _], _ => rfl
theorem tx_d_Session_cut (X : K.In h) (G : h.Ns mainGlobals mg) (c : SaysP hfa hfn hts hexB w K) : Def K "cut" "Session.cut" s_Session_cut (He.ma K (He.ga K "Session") "cut") p_Session_cut := def_of (c.t.d.def_ 66 (d := ⟨("Session", some "cut"), "cut", "Session.cut", defArgs s_Session_cut, defBody s_Session_cut, defScope s_Session_cut, [], []⟩) rfl) fun _ _ _ _ _ _ us hl => match us, hl with | [_, _], _ => rfl
theorem tx_d_Session_judge (X : K.In h) (G : h.Ns mainGlobals mg) (c : SaysP hfa hfn hts hexB w K) : Def K "judge" "Session.judge" s_Session_judge (He.ma K (He.ga K "Session") "judge") p_Session_judge := def_of (c.t.d.def_ 67 (d := ⟨("Session", some "judge"), "judge", "Session.judge", defArgs s_Session_judge, defBody s_Session_judge, defScope s_Session_judge, [], []⟩) rfl) fun _ _ _ _ _ _ us hl => match us, hl with | [_, _], _ => rfl
theorem tx_d_Session_rule (X : K.In h) (G : h.Ns mainGlobals mg) (c : SaysP hfa hfn hts hexB w K) : Def K "rule" "Session.rule" s_Session_rule (He.ma K (He.ga K "Session") "rule") p_Session_rule := def_of (c.t.d.def_ 68 (d := ⟨("Session", some "rule"), "rule", "Session.rule", defArgs s_Session_rule, defBody s_Session_rule, defScope s_Session_rule, [], []⟩) rfl) fun _ _ _ _ _ _ us hl => match us, hl with | [_, _], _ => rfl
theorem tx_d_Session_drop (X : K.In h) (G : h.Ns mainGlobals mg) (c : SaysP hfa hfn hts hexB w K) : Def K "drop" "Session.drop" s_Session_drop (He.ma K (He.ga K "Session") "drop") p_Session_drop := def_of (c.t.d.def_ 69 (d := ⟨("Session", some "drop"), "drop", "Session.drop", defArgs s_Session_drop, defBody s_Session_drop, defScope s_Session_drop, [], []⟩) rfl) fun _ _ _ _ _ _ us hl => match us, hl with | [_, _], _ => rfl
theorem tx_d_Session_say (X : K.In h) (G : h.Ns mainGlobals mg) (c : SaysP hfa hfn hts hexB w K) : Def K "say" "Session.say" s_Session_say (He.ma K (He.ga K "Session") "say") p_Session_say := def_of (c.t.d.def_ 70 (d := ⟨("Session", some "say"), "say", "Session.say", defArgs s_Session_say, defBody s_Session_say, defScope s_Session_say, [], []⟩) rfl) fun _ _ _ _ _ _ us hl => match us, hl with | [_, _], _ => rfl
theorem tx_d_Session_fits (X : K.In h) (G : h.Ns mainGlobals mg) (c : SaysP hfa hfn hts hexB w K) : Def K "fits" "Session.fits" s_Session_fits (He.ma K (He.ga K "Session") "fits") p_Session_fits := def_of (c.t.d.def_ 71 (d := ⟨("Session", some "fits"), "fits", "Session.fits", defArgs s_Session_fits, defBody s_Session_fits, defScope s_Session_fits, [], []⟩) rfl) fun _ _ _ _ _ _ us hl => match us, hl with | [_, _, _], _ => rfl
theorem tx_d_Session_at (X : K.In h) (G : h.Ns mainGlobals mg) (c : SaysP hfa hfn hts hexB w K) : Def K "at" "Session.at" s_Session_at (He.ma K (He.ga K "Session") "at") p_Session_at := def_of (c.t.d.def_ 72 (d := ⟨("Session", some "at"), "at", "Session.at", defArgs s_Session_at, defBody s_Session_at, defScope s_Session_at, [], []⟩) rfl) fun _ _ _ _ _ _ us hl => match us, hl with | [_, _, _], _ => rfl
theorem tx_d_Session_step (X : K.In h) (G : h.Ns mainGlobals mg) (c : SaysP hfa hfn hts hexB w K) : Def K "step" "Session.step" s_Session_step (He.ma K (He.ga K "Session") "step") p_Session_step := def_of (c.t.d.def_ 73 (d := ⟨("Session", some "step"), "step", "Session.step", defArgs s_Session_step, defBody s_Session_step, defScope s_Session_step, [], []⟩) rfl) fun _ _ _ _ _ _ us hl => match us, hl with | [_], _ => rfl
theorem tx_d_Session_run (X : K.In h) (G : h.Ns mainGlobals mg) (c : SaysP hfa hfn hts hexB w K) : Def K "run" "Session.run" s_Session_run (He.ma K (He.ga K "Session") "run") p_Session_run := def_of (c.t.d.def_ 74 (d := ⟨("Session", some "run"), "run", "Session.run", defArgs s_Session_run, defBody s_Session_run, defScope s_Session_run, [], []⟩) rfl) fun _ _ _ _ _ _ us hl => match us, hl with | [_], _ => rfl
theorem tx_d_Session_trail (X : K.In h) (G : h.Ns mainGlobals mg) (c : SaysP hfa hfn hts hexB w K) : Def K "trail" "Session.trail" s_Session_trail (He.ma K (He.ga K "Session") "trail") p_Session_trail := def_of (c.t.d.def_ 75 (d := ⟨("Session", some "trail"), "trail", "Session.trail", defArgs s_Session_trail, defBody s_Session_trail, defScope s_Session_trail, [], []⟩) rfl) fun _ _ _ _ _ _ us hl => match us, hl with | [_], _ => rfl
theorem tx_d_Session_reckon (X : K.In h) (G : h.Ns mainGlobals mg) (c : SaysP hfa hfn hts hexB w K) : Def K "reckon" "Session.reckon" s_Session_reckon (He.ma K (He.ga K "Session") "reckon") p_Session_reckon := def_of (c.t.d.def_ 76 (d := ⟨("Session", some "reckon"), "reckon", "Session.reckon", defArgs s_Session_reckon, defBody s_Session_reckon, defScope s_Session_reckon, [], []⟩) rfl) fun _ _ _ _ _ _ us hl => match us, hl with | [_, _], _ => rfl
theorem tx_d_Session_form (X : K.In h) (G : h.Ns mainGlobals mg) (c : SaysP hfa hfn hts hexB w K) : Def K "form" "Session.form" s_Session_form (He.ma K (He.ga K "Session") "form") p_Session_form := def_of (c.t.d.def_ 77 (d := ⟨("Session", some "form"), "form", "Session.form", defArgs s_Session_form, defBody s_Session_form, defScope s_Session_form, [], []⟩) rfl) fun _ _ _ _ _ _ us hl => match us, hl with | [_, _], _ => rfl
theorem tx_d_Session_same (X : K.In h) (G : h.Ns mainGlobals mg) (c : SaysP hfa hfn hts hexB w K) : Def K "same" "Session.same" s_Session_same (He.ma K (He.ga K "Session") "same") p_Session_same := def_of (c.t.d.def_ 78 (d := ⟨("Session", some "same"), "same", "Session.same", defArgs s_Session_same, defBody s_Session_same, defScope s_Session_same, [], []⟩) rfl) fun _ _ _ _ _ _ us hl => match us, hl with | [_, _], _ => rfl
theorem tx_d_Session_state (X : K.In h) (G : h.Ns mainGlobals mg) (c : SaysP hfa hfn hts hexB w K) : Def K "state" "Session.state" s_Session_state (He.ma K (He.ga K "Session") "state") p_Session_state := def_of (c.t.d.def_ 79 (d := ⟨("Session", some "state"), "state", "Session.state", defArgs s_Session_state, defBody s_Session_state, defScope s_Session_state, [], []⟩) rfl) fun _ _ _ _ _ _ us hl => match us, hl with | [_], _ => rfl
theorem tx_d_Session_undo (X : K.In h) (G : h.Ns mainGlobals mg) (c : SaysP hfa hfn hts hexB w K) : Def K "undo" "Session.undo" s_Session_undo (He.ma K (He.ga K "Session") "undo") p_Session_undo := def_of (c.t.d.def_ 80 (d := ⟨("Session", some "undo"), "undo", "Session.undo", defArgs s_Session_undo, defBody s_Session_undo, defScope s_Session_undo, [], []⟩) rfl) fun _ _ _ _ _ _ us hl => match us, hl with | [_], _ => rfl
theorem tx_d_Session_redo (X : K.In h) (G : h.Ns mainGlobals mg) (c : SaysP hfa hfn hts hexB w K) : Def K "redo" "Session.redo" s_Session_redo (He.ma K (He.ga K "Session") "redo") p_Session_redo := def_of (c.t.d.def_ 81 (d := ⟨("Session", some "redo"), "redo", "Session.redo", defArgs s_Session_redo, defBody s_Session_redo, defScope s_Session_redo, [], []⟩) rfl) fun _ _ _ _ _ _ us hl => match us, hl with | [_], _ => rfl
theorem tx_d_Session_hand_in (X : K.In h) (G : h.Ns mainGlobals mg) (c : SaysP hfa hfn hts hexB w K) : Def K "hand_in" "Session.hand_in" s_Session_hand_in (He.ma K (He.ga K "Session") "hand_in") p_Session_hand_in := def_of (c.t.d.def_ 82 (d := ⟨("Session", some "hand_in"), "hand_in", "Session.hand_in", defArgs s_Session_hand_in, defBody s_Session_hand_in, defScope s_Session_hand_in, [], []⟩) rfl) fun _ _ _ _ _ _ us hl => match us, hl with | [_, _], _ => rfl
theorem tx_d_Session_become (X : K.In h) (G : h.Ns mainGlobals mg) (c : SaysP hfa hfn hts hexB w K) : Def K "become" "Session.become" s_Session_become (He.ma K (He.ga K "Session") "become") p_Session_become := def_of (c.t.d.def_ 83 (d := ⟨("Session", some "become"), "become", "Session.become", defArgs s_Session_become, defBody s_Session_become, defScope s_Session_become, [], []⟩) rfl) fun _ _ _ _ _ _ us hl => match us, hl with | [_, _], _ => rfl
theorem tx_d_Session_size (X : K.In h) (G : h.Ns mainGlobals mg) (c : SaysP hfa hfn hts hexB w K) : Def K "size" "Session.size" s_Session_size (He.ma K (He.ga K "Session") "size") p_Session_size := def_of (c.t.d.def_ 84 (d := ⟨("Session", some "size"), "size", "Session.size", defArgs s_Session_size, defBody s_Session_size, defScope s_Session_size, [], []⟩) rfl) fun _ _ _ _ _ _ us hl => match us, hl with | [_], _ => rfl
theorem tx_d_Session_held_rule (X : K.In h) (G : h.Ns mainGlobals mg) (c : SaysP hfa hfn hts hexB w K) : Def K "held_rule" "Session.held_rule" s_Session_held_rule (He.ma K (He.ga K "Session") "held_rule") p_Session_held_rule := def_of (c.t.d.def_ 85 (d := ⟨("Session", some "held_rule"), "held_rule", "Session.held_rule", defArgs s_Session_held_rule, defBody s_Session_held_rule, defScope s_Session_held_rule, [], []⟩) rfl) fun _ _ _ _ _ _ us hl => match us, hl with | [_, _], _ => rfl
theorem tx_d_Session_held_fit (X : K.In h) (G : h.Ns mainGlobals mg) (c : SaysP hfa hfn hts hexB w K) : Def K "held_fit" "Session.held_fit" s_Session_held_fit (He.ma K (He.ga K "Session") "held_fit") p_Session_held_fit := def_of (c.t.d.def_ 86 (d := ⟨("Session", some "held_fit"), "held_fit", "Session.held_fit", defArgs s_Session_held_fit, defBody s_Session_held_fit, defScope s_Session_held_fit, [], []⟩) rfl) fun _ _ _ _ _ _ us hl => match us, hl with | [_, _, _], _ => rfl
theorem tx_d_Reader_init (X : K.In h) (G : h.Ns mainGlobals mg) (c : SaysP hfa hfn hts hexB w K) : Def K "__init__" "Reader.__init__" s_Reader_init (He.ma K (He.ga K "Reader") "__init__") p_Reader_init := def_of (c.t.d.def_ 87 (d := ⟨("Reader", some "__init__"), "__init__", "Reader.__init__", defArgs s_Reader_init, defBody s_Reader_init, defScope s_Reader_init, [], []⟩) rfl) fun _ _ _ _ _ _ us hl => match us, hl with | [_, _], _ => rfl
theorem tx_d_Reader_has_more (X : K.In h) (G : h.Ns mainGlobals mg) (c : SaysP hfa hfn hts hexB w K) : Def K "has_more" "Reader.has_more" s_Reader_has_more (He.ma K (He.ga K "Reader") "has_more") p_Reader_has_more := def_of (c.t.d.def_ 88 (d := ⟨("Reader", some "has_more"), "has_more", "Reader.has_more", defArgs s_Reader_has_more, defBody s_Reader_has_more, defScope s_Reader_has_more, [], []⟩) rfl) fun _ _ _ _ _ _ us hl => match us, hl with | [_], _ => rfl
theorem tx_d_Reader_take_number (X : K.In h) (G : h.Ns mainGlobals mg) (c : SaysP hfa hfn hts hexB w K) : Def K "take_number" "Reader.take_number" s_Reader_take_number (He.ma K (He.ga K "Reader") "take_number") p_Reader_take_number := def_of (c.t.d.def_ 89 (d := ⟨("Reader", some "take_number"), "take_number", "Reader.take_number", defArgs s_Reader_take_number, defBody s_Reader_take_number, defScope s_Reader_take_number, [], []⟩) rfl) fun _ _ _ _ _ _ us hl => match us, hl with | [_], _ => rfl
theorem tx_d_Reader_take_row (X : K.In h) (G : h.Ns mainGlobals mg) (c : SaysP hfa hfn hts hexB w K) : Def K "take_row" "Reader.take_row" s_Reader_take_row (He.ma K (He.ga K "Reader") "take_row") p_Reader_take_row := def_of (c.t.d.def_ 90 (d := ⟨("Reader", some "take_row"), "take_row", "Reader.take_row", defArgs s_Reader_take_row, defBody s_Reader_take_row, defScope s_Reader_take_row, [], []⟩) rfl) fun _ _ _ _ _ _ us hl => match us, hl with | [_], _ => rfl
theorem tx_d_answer_load (X : K.In h) (G : h.Ns mainGlobals mg) (c : SaysP hfa hfn hts hexB w K) : Def K "answer_load" "answer_load" s_answer_load (He.ga K "answer_load") p_answer_load := def_of (c.t.d.def_ 91 (d := ⟨("answer_load", none), "answer_load", "answer_load", defArgs s_answer_load, defBody s_answer_load, defScope s_answer_load, [], []⟩) rfl) fun _ _ _ _ _ _ us hl => match us, hl with | [_, _], _ => rfl
theorem tx_d_answer_code (X : K.In h) (G : h.Ns mainGlobals mg) (c : SaysP hfa hfn hts hexB w K) : Def K "answer_code" "answer_code" s_answer_code (He.ga K "answer_code") p_answer_code := def_of (c.t.d.def_ 92 (d := ⟨("answer_code", none), "answer_code", "answer_code", defArgs s_answer_code, defBody s_answer_code, defScope s_answer_code, [], []⟩) rfl) fun _ _ _ _ _ _ us hl => match us, hl with | [_, _], _ => rfl
theorem tx_d_answer_put (X : K.In h) (G : h.Ns mainGlobals mg) (c : SaysP hfa hfn hts hexB w K) : Def K "answer_put" "answer_put" s_answer_put (He.ga K "answer_put") p_answer_put := def_of (c.t.d.def_ 93 (d := ⟨("answer_put", none), "answer_put", "answer_put", defArgs s_answer_put, defBody s_answer_put, defScope s_answer_put, [], []⟩) rfl) fun _ _ _ _ _ _ us hl => match us, hl with | [_, _], _ => rfl
theorem tx_d_answer_cut (X : K.In h) (G : h.Ns mainGlobals mg) (c : SaysP hfa hfn hts hexB w K) : Def K "answer_cut" "answer_cut" s_answer_cut (He.ga K "answer_cut") p_answer_cut := def_of (c.t.d.def_ 94 (d := ⟨("answer_cut", none), "answer_cut", "answer_cut", defArgs s_answer_cut, defBody s_answer_cut, defScope s_answer_cut, [], []⟩) rfl) fun _ _ _ _ _ _ us hl => match us, hl with | [_, _], _ => rfl
theorem tx_d_answer_judge (X : K.In h) (G : h.Ns mainGlobals mg) (c : SaysP hfa hfn hts hexB w K) : Def K "answer_judge" "answer_judge" s_answer_judge (He.ga K "answer_judge") p_answer_judge := def_of (c.t.d.def_ 95 (d := ⟨("answer_judge", none), "answer_judge", "answer_judge", defArgs s_answer_judge, defBody s_answer_judge, defScope s_answer_judge, [], []⟩) rfl) fun _ _ _ _ _ _ us hl => match us, hl with | [_, _], _ => rfl
theorem tx_d_answer_rule (X : K.In h) (G : h.Ns mainGlobals mg) (c : SaysP hfa hfn hts hexB w K) : Def K "answer_rule" "answer_rule" s_answer_rule (He.ga K "answer_rule") p_answer_rule := def_of (c.t.d.def_ 96 (d := ⟨("answer_rule", none), "answer_rule", "answer_rule", defArgs s_answer_rule, defBody s_answer_rule, defScope s_answer_rule, [], []⟩) rfl) fun _ _ _ _ _ _ us hl => match us, hl with | [_, _], _ => rfl
theorem tx_d_answer_drop (X : K.In h) (G : h.Ns mainGlobals mg) (c : SaysP hfa hfn hts hexB w K) : Def K "answer_drop" "answer_drop" s_answer_drop (He.ga K "answer_drop") p_answer_drop := def_of (c.t.d.def_ 97 (d := ⟨("answer_drop", none), "answer_drop", "answer_drop", defArgs s_answer_drop, defBody s_answer_drop, defScope s_answer_drop, [], []⟩) rfl) fun _ _ _ _ _ _ us hl => match us, hl with | [_, _], _ => rfl
theorem tx_d_answer_say (X : K.In h) (G : h.Ns mainGlobals mg) (c : SaysP hfa hfn hts hexB w K) : Def K "answer_say" "answer_say" s_answer_say (He.ga K "answer_say") p_answer_say := def_of (c.t.d.def_ 98 (d := ⟨("answer_say", none), "answer_say", "answer_say", defArgs s_answer_say, defBody s_answer_say, defScope s_answer_say, [], []⟩) rfl) fun _ _ _ _ _ _ us hl => match us, hl with | [_, _], _ => rfl
theorem tx_d_answer_fits (X : K.In h) (G : h.Ns mainGlobals mg) (c : SaysP hfa hfn hts hexB w K) : Def K "answer_fits" "answer_fits" s_answer_fits (He.ga K "answer_fits") p_answer_fits := def_of (c.t.d.def_ 99 (d := ⟨("answer_fits", none), "answer_fits", "answer_fits", defArgs s_answer_fits, defBody s_answer_fits, defScope s_answer_fits, [], []⟩) rfl) fun _ _ _ _ _ _ us hl => match us, hl with | [_, _], _ => rfl
theorem tx_d_answer_at (X : K.In h) (G : h.Ns mainGlobals mg) (c : SaysP hfa hfn hts hexB w K) : Def K "answer_at" "answer_at" s_answer_at (He.ga K "answer_at") p_answer_at := def_of (c.t.d.def_ 100 (d := ⟨("answer_at", none), "answer_at", "answer_at", defArgs s_answer_at, defBody s_answer_at, defScope s_answer_at, [], []⟩) rfl) fun _ _ _ _ _ _ us hl => match us, hl with | [_, _], _ => rfl
theorem tx_d_answer_step (X : K.In h) (G : h.Ns mainGlobals mg) (c : SaysP hfa hfn hts hexB w K) : Def K "answer_step" "answer_step" s_answer_step (He.ga K "answer_step") p_answer_step := def_of (c.t.d.def_ 101 (d := ⟨("answer_step", none), "answer_step", "answer_step", defArgs s_answer_step, defBody s_answer_step, defScope s_answer_step, [], []⟩) rfl) fun _ _ _ _ _ _ us hl => match us, hl with | [_, _], _ => rfl
theorem tx_d_answer_run (X : K.In h) (G : h.Ns mainGlobals mg) (c : SaysP hfa hfn hts hexB w K) : Def K "answer_run" "answer_run" s_answer_run (He.ga K "answer_run") p_answer_run := def_of (c.t.d.def_ 102 (d := ⟨("answer_run", none), "answer_run", "answer_run", defArgs s_answer_run, defBody s_answer_run, defScope s_answer_run, [], []⟩) rfl) fun _ _ _ _ _ _ us hl => match us, hl with | [_, _], _ => rfl
theorem tx_d_answer_trail (X : K.In h) (G : h.Ns mainGlobals mg) (c : SaysP hfa hfn hts hexB w K) : Def K "answer_trail" "answer_trail" s_answer_trail (He.ga K "answer_trail") p_answer_trail := def_of (c.t.d.def_ 103 (d := ⟨("answer_trail", none), "answer_trail", "answer_trail", defArgs s_answer_trail, defBody s_answer_trail, defScope s_answer_trail, [], []⟩) rfl) fun _ _ _ _ _ _ us hl => match us, hl with | [_, _], _ => rfl
theorem tx_d_answer_eval (X : K.In h) (G : h.Ns mainGlobals mg) (c : SaysP hfa hfn hts hexB w K) : Def K "answer_eval" "answer_eval" s_answer_eval (He.ga K "answer_eval") p_answer_eval := def_of (c.t.d.def_ 104 (d := ⟨("answer_eval", none), "answer_eval", "answer_eval", defArgs s_answer_eval, defBody s_answer_eval, defScope s_answer_eval, [], []⟩) rfl) fun _ _ _ _ _ _ us hl => match us, hl with | [_, _], _ => rfl
theorem tx_d_answer_form (X : K.In h) (G : h.Ns mainGlobals mg) (c : SaysP hfa hfn hts hexB w K) : Def K "answer_form" "answer_form" s_answer_form (He.ga K "answer_form") p_answer_form := def_of (c.t.d.def_ 105 (d := ⟨("answer_form", none), "answer_form", "answer_form", defArgs s_answer_form, defBody s_answer_form, defScope s_answer_form, [], []⟩) rfl) fun _ _ _ _ _ _ us hl => match us, hl with | [_, _], _ => rfl
theorem tx_d_answer_same (X : K.In h) (G : h.Ns mainGlobals mg) (c : SaysP hfa hfn hts hexB w K) : Def K "answer_same" "answer_same" s_answer_same (He.ga K "answer_same") p_answer_same := def_of (c.t.d.def_ 106 (d := ⟨("answer_same", none), "answer_same", "answer_same", defArgs s_answer_same, defBody s_answer_same, defScope s_answer_same, [], []⟩) rfl) fun _ _ _ _ _ _ us hl => match us, hl with | [_, _], _ => rfl
theorem tx_d_answer_state (X : K.In h) (G : h.Ns mainGlobals mg) (c : SaysP hfa hfn hts hexB w K) : Def K "answer_state" "answer_state" s_answer_state (He.ga K "answer_state") p_answer_state := def_of (c.t.d.def_ 107 (d := ⟨("answer_state", none), "answer_state", "answer_state", defArgs s_answer_state, defBody s_answer_state, defScope s_answer_state, [], []⟩) rfl) fun _ _ _ _ _ _ us hl => match us, hl with | [_, _], _ => rfl
theorem tx_d_answer_undo (X : K.In h) (G : h.Ns mainGlobals mg) (c : SaysP hfa hfn hts hexB w K) : Def K "answer_undo" "answer_undo" s_answer_undo (He.ga K "answer_undo") p_answer_undo := def_of (c.t.d.def_ 108 (d := ⟨("answer_undo", none), "answer_undo", "answer_undo", defArgs s_answer_undo, defBody s_answer_undo, defScope s_answer_undo, [], []⟩) rfl) fun _ _ _ _ _ _ us hl => match us, hl with | [_, _], _ => rfl
theorem tx_d_answer_redo (X : K.In h) (G : h.Ns mainGlobals mg) (c : SaysP hfa hfn hts hexB w K) : Def K "answer_redo" "answer_redo" s_answer_redo (He.ga K "answer_redo") p_answer_redo := def_of (c.t.d.def_ 109 (d := ⟨("answer_redo", none), "answer_redo", "answer_redo", defArgs s_answer_redo, defBody s_answer_redo, defScope s_answer_redo, [], []⟩) rfl) fun _ _ _ _ _ _ us hl => match us, hl with | [_, _], _ => rfl
theorem tx_d_next_answer (X : K.In h) (G : h.Ns mainGlobals mg) (c : SaysP hfa hfn hts hexB w K) : Def K "next_answer" "next_answer" s_next_answer (He.ga K "next_answer") p_next_answer := def_of (c.t.d.def_ 110 (d := ⟨("next_answer", none), "next_answer", "next_answer", defArgs s_next_answer, defBody s_next_answer, defScope s_next_answer, [], []⟩) rfl) fun _ _ _ _ _ _ us hl => match us, hl with | [_, _], _ => rfl
theorem tx_d_answers (X : K.In h) (G : h.Ns mainGlobals mg) (c : SaysP hfa hfn hts hexB w K) : Def K "answers" "answers" s_answers (He.ga K "answers") p_answers := def_of (c.t.d.def_ 111 (d := ⟨("answers", none), "answers", "answers", defArgs s_answers, defBody s_answers, defScope s_answers, [], []⟩) rfl) fun _ _ _ _ _ _ us hl => match us, hl with | [_], _ => rfl
theorem txt_of (X : K.In h) (G : h.Ns mainGlobals mg) (c : SaysP hfa hfn hts hexB w K) : Txt w K mg :=
  ⟨tx_u_Exception X G c,
  tx_u_all X G c,
  tx_u_enumerate X G c,
  tx_u_int X G c,
  tx_u_len X G c,
  tx_u_list X G c,
  tx_u_ord X G c,
  tx_u_range X G c,
  tx_u_sorted X G c,
  tx_u_str X G c,
  tx_u_sum X G c,
  tx_u_zip X G c,
  tx_c_MOST_BYTES X G c,
  tx_c_LARGEST X G c,
  tx_c_LARGEST_DIGITS X G c,
  tx_c_MODULUS X G c,
  tx_c_MOST_UNDONE X G c,
  tx_c_MOST_LEFT X G c,
  tx_c_TRIAL_NUMBERS X G c,
  tx_c_NO_REGISTER X G c,
  tx_c_MOST_INSTRUCTIONS X G c,
  tx_c_MOST_RULES X G c,
  tx_c_READABLE X G c,
  tx_c_UNREADABLE X G c,
  tx_c_PARTING X G c,
  tx_g_text_of X G c,
  tx_g_bytes_of X G c,
  tx_g_lines_of X G c,
  tx_g_has_open_end X G c,
  tx_g_read_number X G c,
  tx_g_place_of X G c,
  tx_g_read_instruction X G c,
  tx_g_read_instructions X G c,
  tx_g_read_code_line X G c,
  tx_g_read_code X G c,
  tx_g_line_of X G c,
  tx_g_code_text X G c,
  tx_g_cost_of X G c,
  tx_g_carry_out X G c,
  tx_g_state_after X G c,
  tx_g_zero_and_ones X G c,
  tx_g_nine_states X G c,
  tx_g_state_between X G c,
  tx_g_sum_at X G c,
  tx_g_are_alike X G c,
  tx_g_read_left_constant X G c,
  tx_g_times_at_end X G c,
  tx_g_read_right_constant X G c,
  tx_g_read_rule X G c,
  tx_g_parts_of X G c,
  tx_g_is_formed X G c,
  tx_g_filled_in X G c,
  tx_g_seven_trials X G c,
  tx_g_state_on_trial X G c,
  tx_g_trial_against X G c,
  tx_g_read_sound_rule X G c,
  tx_g_takes X G c,
  tx_g_fit_at X G c,
  tx_g_put_to_work X G c,
  tx_g_next_step X G c,
  tx_g_moment_after X G c,
  tx_g_moment_at_rest X G c,
  tx_g_read_whole_code X G c,
  tx_g_answer_load X G c,
  tx_g_answer_code X G c,
  tx_g_answer_put X G c,
  tx_g_answer_cut X G c,
  tx_g_answer_judge X G c,
  tx_g_answer_rule X G c,
  tx_g_answer_drop X G c,
  tx_g_answer_say X G c,
  tx_g_answer_fits X G c,
  tx_g_answer_at X G c,
  tx_g_answer_step X G c,
  tx_g_answer_run X G c,
  tx_g_answer_trail X G c,
  tx_g_answer_eval X G c,
  tx_g_answer_form X G c,
  tx_g_answer_same X G c,
  tx_g_answer_state X G c,
  tx_g_answer_undo X G c,
  tx_g_answer_redo X G c,
  tx_g_next_answer X G c,
  tx_g_answers X G c,
  tx_g_Refusal X G c,
  tx_g_OutOfBounds X G c,
  tx_g_NotFormed X G c,
  tx_g_NotThere X G c,
  tx_g_NotRight X G c,
  tx_g_NotCheaper X G c,
  tx_g_NotFitting X G c,
  tx_g_NotReadable X G c,
  tx_g_NoRoom X G c,
  tx_g_Instruction X G c,
  tx_g_Moment X G c,
  tx_g_History X G c,
  tx_g_Rule X G c,
  tx_g_Constant X G c,
  tx_g_Fit X G c,
  tx_g_Step X G c,
  tx_g_Session X G c,
  tx_g_Reader X G c,
  tx_g_REGISTERS X G c,
  tx_g_WITH_CONSTANT X G c,
  tx_g_WITH_SECOND X G c,
  tx_g_NAMES X G c,
  tx_g_CALLS X G c,
  tx_g_COSTS X G c,
  tx_kp_text_of X G c,
  tx_kp_bytes_of X G c,
  tx_kp_lines_of X G c,
  tx_kp_has_open_end X G c,
  tx_kp_read_number X G c,
  tx_kp_place_of X G c,
  tx_kp_read_instruction X G c,
  tx_kp_read_instructions X G c,
  tx_kp_read_code_line X G c,
  tx_kp_read_code X G c,
  tx_kp_line_of X G c,
  tx_kp_code_text X G c,
  tx_kp_cost_of X G c,
  tx_kp_carry_out X G c,
  tx_kp_state_after X G c,
  tx_kp_zero_and_ones X G c,
  tx_kp_nine_states X G c,
  tx_kp_state_between X G c,
  tx_kp_sum_at X G c,
  tx_kp_are_alike X G c,
  tx_kp_read_left_constant X G c,
  tx_kp_times_at_end X G c,
  tx_kp_read_right_constant X G c,
  tx_kp_read_rule X G c,
  tx_kp_parts_of X G c,
  tx_kp_is_formed X G c,
  tx_kp_filled_in X G c,
  tx_kp_seven_trials X G c,
  tx_kp_state_on_trial X G c,
  tx_kp_trial_against X G c,
  tx_kp_read_sound_rule X G c,
  tx_kp_takes X G c,
  tx_kp_fit_at X G c,
  tx_kp_put_to_work X G c,
  tx_kp_next_step X G c,
  tx_kp_moment_after X G c,
  tx_kp_moment_at_rest X G c,
  tx_kp_read_whole_code X G c,
  tx_kp_answer_load X G c,
  tx_kp_answer_code X G c,
  tx_kp_answer_put X G c,
  tx_kp_answer_cut X G c,
  tx_kp_answer_judge X G c,
  tx_kp_answer_rule X G c,
  tx_kp_answer_drop X G c,
  tx_kp_answer_say X G c,
  tx_kp_answer_fits X G c,
  tx_kp_answer_at X G c,
  tx_kp_answer_step X G c,
  tx_kp_answer_run X G c,
  tx_kp_answer_trail X G c,
  tx_kp_answer_eval X G c,
  tx_kp_answer_form X G c,
  tx_kp_answer_same X G c,
  tx_kp_answer_state X G c,
  tx_kp_answer_undo X G c,
  tx_kp_answer_redo X G c,
  tx_kp_next_answer X G c,
  tx_kp_answers X G c,
  tx_cl_Instruction X G c,
  tx_k_Instruction X G c,
  tx_nF_Instruction_word X G c,
  tx_nF_Instruction_first X G c,
  tx_nF_Instruction_second X G c,
  tx_cl_Moment X G c,
  tx_k_Moment X G c,
  tx_nF_Moment_instructions X G c,
  tx_nF_Moment_worked X G c,
  tx_cl_History X G c,
  tx_k_History X G c,
  tx_m_History_edited X G c,
  tx_m_History_step_back X G c,
  tx_m_History_step_forth X G c,
  tx_nF_History_before X G c,
  tx_nF_History_undone X G c,
  tx_cl_Rule X G c,
  tx_k_Rule X G c,
  tx_nF_Rule_left X G c,
  tx_nF_Rule_right X G c,
  tx_nF_Rule_text X G c,
  tx_cl_Constant X G c,
  tx_k_Constant X G c,
  tx_m_Constant_worth X G c,
  tx_nF_Constant_number X G c,
  tx_nF_Constant_times_x X G c,
  tx_nF_Constant_times_y X G c,
  tx_cl_Fit X G c,
  tx_k_Fit X G c,
  tx_m_Fit_put_name X G c,
  tx_m_Fit_put_constant X G c,
  tx_m_Fit_told_x X G c,
  tx_m_Fit_told_y X G c,
  tx_nF_Fit_places X G c,
  tx_nF_Fit_x X G c,
  tx_nF_Fit_y X G c,
  tx_cl_Step X G c,
  tx_k_Step X G c,
  tx_nF_Step_number X G c,
  tx_nF_Step_place X G c,
  tx_nF_Step_fit X G c,
  tx_cl_Session X G c,
  tx_k_Session X G c,
  tx_m_Session_load X G c,
  tx_m_Session_code X G c,
  tx_m_Session_put X G c,
  tx_m_Session_cut X G c,
  tx_m_Session_judge X G c,
  tx_m_Session_rule X G c,
  tx_m_Session_drop X G c,
  tx_m_Session_say X G c,
  tx_m_Session_fits X G c,
  tx_m_Session_at X G c,
  tx_m_Session_step X G c,
  tx_m_Session_run X G c,
  tx_m_Session_trail X G c,
  tx_m_Session_reckon X G c,
  tx_m_Session_form X G c,
  tx_m_Session_same X G c,
  tx_m_Session_state X G c,
  tx_m_Session_undo X G c,
  tx_m_Session_redo X G c,
  tx_m_Session_hand_in X G c,
  tx_m_Session_become X G c,
  tx_m_Session_size X G c,
  tx_m_Session_held_rule X G c,
  tx_m_Session_held_fit X G c,
  tx_nF_Session_now X G c,
  tx_nF_Session_history X G c,
  tx_nF_Session_held X G c,
  tx_cl_Reader X G c,
  tx_k_Reader X G c,
  tx_m_Reader_has_more X G c,
  tx_m_Reader_take_number X G c,
  tx_m_Reader_take_row X G c,
  tx_nF_Reader_numbers X G c,
  tx_nF_Reader_place X G c,
  tx_x_Refusal X G c,
  tx_x_OutOfBounds X G c,
  tx_x_NotFormed X G c,
  tx_x_NotThere X G c,
  tx_x_NotRight X G c,
  tx_x_NotCheaper X G c,
  tx_x_NotFitting X G c,
  tx_x_NotReadable X G c,
  tx_x_NoRoom X G c,
  tx_i_Refusal X G c,
  tx_v_Exception X G c,
  tx_tp_REGISTERS X G c,
  tx_tp_WITH_CONSTANT X G c,
  tx_tp_WITH_SECOND X G c,
  tx_tp_NAMES X G c,
  tx_tp_CALLS X G c,
  tx_t_COSTS X G c,
  tx_tk_COSTS X G c,
  tx_tv_COSTS X G c,
  tx_d_Refusal_init X G c,
  tx_d_OutOfBounds_init X G c,
  tx_d_NotFormed_init X G c,
  tx_d_NotThere_init X G c,
  tx_d_NotRight_init X G c,
  tx_d_NotCheaper_init X G c,
  tx_d_NotFitting_init X G c,
  tx_d_NotReadable_init X G c,
  tx_d_NoRoom_init X G c,
  tx_d_text_of X G c,
  tx_d_bytes_of X G c,
  tx_d_lines_of X G c,
  tx_d_has_open_end X G c,
  tx_d_read_number X G c,
  tx_d_Instruction_init X G c,
  tx_d_place_of X G c,
  tx_d_read_instruction X G c,
  tx_d_read_instructions X G c,
  tx_d_read_code_line X G c,
  tx_d_read_code X G c,
  tx_d_line_of X G c,
  tx_d_code_text X G c,
  tx_d_cost_of X G c,
  tx_d_carry_out X G c,
  tx_d_state_after X G c,
  tx_d_zero_and_ones X G c,
  tx_d_nine_states X G c,
  tx_d_state_between X G c,
  tx_d_sum_at X G c,
  tx_d_Moment_init X G c,
  tx_d_are_alike X G c,
  tx_d_History_init X G c,
  tx_d_History_edited X G c,
  tx_d_History_step_back X G c,
  tx_d_History_step_forth X G c,
  tx_d_Rule_init X G c,
  tx_d_Constant_init X G c,
  tx_d_Constant_worth X G c,
  tx_d_Fit_init X G c,
  tx_d_Fit_put_name X G c,
  tx_d_Fit_put_constant X G c,
  tx_d_Fit_told_x X G c,
  tx_d_Fit_told_y X G c,
  tx_d_read_left_constant X G c,
  tx_d_times_at_end X G c,
  tx_d_read_right_constant X G c,
  tx_d_read_rule X G c,
  tx_d_parts_of X G c,
  tx_d_is_formed X G c,
  tx_d_filled_in X G c,
  tx_d_seven_trials X G c,
  tx_d_state_on_trial X G c,
  tx_d_trial_against X G c,
  tx_d_read_sound_rule X G c,
  tx_d_takes X G c,
  tx_d_fit_at X G c,
  tx_d_put_to_work X G c,
  tx_d_Step_init X G c,
  tx_d_next_step X G c,
  tx_d_moment_after X G c,
  tx_d_moment_at_rest X G c,
  tx_d_read_whole_code X G c,
  tx_d_Session_init X G c,
  tx_d_Session_load X G c,
  tx_d_Session_code X G c,
  tx_d_Session_put X G c,
  tx_d_Session_cut X G c,
  tx_d_Session_judge X G c,
  tx_d_Session_rule X G c,
  tx_d_Session_drop X G c,
  tx_d_Session_say X G c,
  tx_d_Session_fits X G c,
  tx_d_Session_at X G c,
  tx_d_Session_step X G c,
  tx_d_Session_run X G c,
  tx_d_Session_trail X G c,
  tx_d_Session_reckon X G c,
  tx_d_Session_form X G c,
  tx_d_Session_same X G c,
  tx_d_Session_state X G c,
  tx_d_Session_undo X G c,
  tx_d_Session_redo X G c,
  tx_d_Session_hand_in X G c,
  tx_d_Session_become X G c,
  tx_d_Session_size X G c,
  tx_d_Session_held_rule X G c,
  tx_d_Session_held_fit X G c,
  tx_d_Reader_init X G c,
  tx_d_Reader_has_more X G c,
  tx_d_Reader_take_number X G c,
  tx_d_Reader_take_row X G c,
  tx_d_answer_load X G c,
  tx_d_answer_code X G c,
  tx_d_answer_put X G c,
  tx_d_answer_cut X G c,
  tx_d_answer_judge X G c,
  tx_d_answer_rule X G c,
  tx_d_answer_drop X G c,
  tx_d_answer_say X G c,
  tx_d_answer_fits X G c,
  tx_d_answer_at X G c,
  tx_d_answer_step X G c,
  tx_d_answer_run X G c,
  tx_d_answer_trail X G c,
  tx_d_answer_eval X G c,
  tx_d_answer_form X G c,
  tx_d_answer_same X G c,
  tx_d_answer_state X G c,
  tx_d_answer_undo X G c,
  tx_d_answer_redo X G c,
  tx_d_next_answer X G c,
  tx_d_answers X G c⟩
end
end Pb

set_option Elab.async false
set_option linter.all false
set_option maxRecDepth 100000
set_option maxHeartbeats 4000000
namespace Pb
open PySem PySem.Spec PyProof.Rows L2 PbX
/-! ### what is looked at behind the top, in parts -/
theorem run_join {r : PySem.W.OpenSpec} {q : Program} {H H1 H2 : PySem.W.Hook} {ob : PySem.W.SharedT → H.α} {ob1 : PySem.W.SharedT → H1.α} {ob2 : PySem.W.SharedT → H2.α} {M : Nat} {loose : List PySem.Str} {w : World}
    (j : ∀ s, ob1 s = H1.val w → ob2 s = H2.val w → ob s = H.val w) (r1 : HandSHeadRun.RunEqS r q H1 ob1 M loose w) (r2 : HandSHeadRun.RunEqS r q H2 ob2 M loose w) : HandSHeadRun.RunEqS r q H ob M loose w := by
  intro os
  have a := r1 os
  have b := r2 os
  cases e : HandSHeadRun.endF (HandSHeadRun.stepQ (HandSHeadRun.denQ HandSHeadRun.tabQ) r.prog w) M r.prog w os with
  | none => rw [e] at a; cases a
  | some s =>
    rw [e] at a b
    rw [Option.map_some] at a b ⊢
    have a' := Option.some.inj a
    have b' := Option.some.inj b
    injection a' with a1 a2
    injection a2 with a3 a4
    injection b' with b1 b2
    injection b2 with b3 b4
    rw [a1, a3, j s a4 b4]
def noB (_ : PySem.W.Frag) : Bool := true
/-- the parts of a hook -/
theorem join_P {n : Nat} {fa1 fa2 : List He.Fa} {fn1 fn2 : List He.DefD} {ts1 ts2 : List He.Tab} {ex1 ex2 : PySem.W.Frag → Bool} {w : World} {g : Addr → Option Obj}
    (h1 : obsP n fa1 fn1 ts1 ex1 g = valP fn1 ts1 w) (h2 : obsP n fa2 fn2 ts2 ex2 g = valP fn2 ts2 w) : obsP n (fa1 ++ fa2) (fn1 ++ fn2) (ts1 ++ ts2) (fun K => ex1 K && ex2 K) g = valP (fn1 ++ fn2) (ts1 ++ ts2) w := by
  unfold obsP valP He.obsT He.valT He.obsD He.valD at h1 h2 ⊢
  injection h1 with a1 a2
  injection a1 with a3 a4
  injection a3 with a5 a6
  injection h2 with b1 b2
  injection b1 with b3 b4
  injection b3 with b5 b6
  obtain ⟨c1, c2⟩ := Bool.and_eq_true_iff.mp a5
  obtain ⟨d1, d2⟩ := Bool.and_eq_true_iff.mp b5
  rw [List.all_append, List.all_append, List.map_append, List.map_append, List.map_append, List.map_append, c1, c2, d1, d2, a4, a6, b4, b6]
  show (_, ex1 (frP g n) && ex2 (frP g n)) = _
  rw [a2, b2]
  rfl
end Pb

set_option Elab.async false
set_option linter.all false
set_option maxRecDepth 100000
set_option maxHeartbeats 0
namespace Pb
open PySem PySem.Spec PyProof.Rows L2
abbrev R : PySem.W.OpenSpec := PySem.Challenge.rw_peepbook_s01_answers
abbrev hk : PySem.W.Hook := hookP 1100 hfa hfn hts hexB
def ob (s : PySem.W.SharedT) : AlP := obsP 1100 hfa hfn hts hexB (HandSHeadRun.getT s)
theorem ob_eq (s : PySem.W.SharedT) : ob s = hk.obs s.abs := obsP_eq (HandSHeadRun.getT_eq s)
def nm0 : List PySem.Str := ["Refusal", "OutOfBounds", "NotFormed", "NotThere", "NotRight", "NotCheaper", "NotFitting", "NotReadable", "NoRoom", "MOST_BYTES", "LARGEST", "LARGEST_DIGITS", "READABLE", "UNREADABLE", "text_of", "bytes_of", "lines_of", "has_open_end", "read_number", "MODULUS", "REGISTERS", "COSTS", "WITH_CONSTANT", "WITH_SECOND", "Instruction", "place_of", "read_instruction", "read_instructions", "read_code_line", "read_code"]
def nm1 : List PySem.Str := ["line_of", "code_text", "cost_of", "carry_out", "state_after", "zero_and_ones", "nine_states", "state_between", "sum_at", "MOST_UNDONE", "Moment", "are_alike", "History", "NAMES", "PARTING", "MOST_LEFT", "TRIAL_NUMBERS", "NO_REGISTER", "Rule", "Constant", "Fit", "read_left_constant", "times_at_end", "read_right_constant", "read_rule", "parts_of", "is_formed", "filled_in", "seven_trials", "state_on_trial"]
def nm2 : List PySem.Str := ["trial_against", "read_sound_rule", "takes", "fit_at", "put_to_work", "Step", "next_step", "moment_after", "moment_at_rest", "MOST_INSTRUCTIONS", "MOST_RULES", "read_whole_code", "Session", "Reader", "answer_load", "answer_code", "answer_put", "answer_cut", "answer_judge", "answer_rule", "answer_drop", "answer_say", "answer_fits", "answer_at", "answer_step", "answer_run", "answer_trail", "answer_eval", "answer_form", "answer_same"]
def nm3 : List PySem.Str := ["answer_state", "answer_undo", "answer_redo", "CALLS", "next_answer"]
abbrev names : List PySem.Str := nm0 ++ nm1 ++ nm2 ++ nm3
abbrev qv : Program := PySem.W.view R.prog [103]
abbrev hka : PySem.W.Hook := hookP 1100 hfa [] [] noB
def oba (s : PySem.W.SharedT) : AlP := obsP 1100 hfa [] [] noB (HandSHeadRun.getT s)
theorem run_af (w : World) : HandSHeadRun.RunEqS R qv hka oba 11000 names (w.withFollow "special-get-raises" false) := by
  intro os
  kernel_rfl
theorem run_at (w : World) : HandSHeadRun.RunEqS R qv hka oba 11000 names (w.withFollow "special-get-raises" true) := by
  intro os
  kernel_rfl
theorem run_a (w : World) : HandSHeadRun.RunEqS R qv hka oba 11000 names w := PySem.W.byRow2 "special-get-raises" (P := fun w => HandSHeadRun.RunEqS R qv hka oba 11000 names w) run_af run_at w
abbrev hkb : PySem.W.Hook := hookP 1100 [] (hfn0 ++ hfn1) [] noB
def obb (s : PySem.W.SharedT) : AlP := obsP 1100 [] (hfn0 ++ hfn1) [] noB (HandSHeadRun.getT s)
theorem run_bf (w : World) : HandSHeadRun.RunEqS R qv hkb obb 11000 names (w.withFollow "special-get-raises" false) := by
  intro os
  kernel_rfl
theorem run_bt (w : World) : HandSHeadRun.RunEqS R qv hkb obb 11000 names (w.withFollow "special-get-raises" true) := by
  intro os
  kernel_rfl
theorem run_b (w : World) : HandSHeadRun.RunEqS R qv hkb obb 11000 names w := PySem.W.byRow2 "special-get-raises" (P := fun w => HandSHeadRun.RunEqS R qv hkb obb 11000 names w) run_bf run_bt w
abbrev hkf2 : PySem.W.Hook := hookP 1100 [] hfn2 [] noB
def obf2 (s : PySem.W.SharedT) : AlP := obsP 1100 [] hfn2 [] noB (HandSHeadRun.getT s)
theorem run_f2f (w : World) : HandSHeadRun.RunEqS R qv hkf2 obf2 11000 names (w.withFollow "special-get-raises" false) := by
  intro os
  kernel_rfl
theorem run_f2t (w : World) : HandSHeadRun.RunEqS R qv hkf2 obf2 11000 names (w.withFollow "special-get-raises" true) := by
  intro os
  kernel_rfl
theorem run_f2 (w : World) : HandSHeadRun.RunEqS R qv hkf2 obf2 11000 names w := PySem.W.byRow2 "special-get-raises" (P := fun w => HandSHeadRun.RunEqS R qv hkf2 obf2 11000 names w) run_f2f run_f2t w
abbrev hkd : PySem.W.Hook := hookP 1100 [] hfn3 hts hexB
def obd (s : PySem.W.SharedT) : AlP := obsP 1100 [] hfn3 hts hexB (HandSHeadRun.getT s)
theorem run_df (w : World) : HandSHeadRun.RunEqS R qv hkd obd 11000 names (w.withFollow "special-get-raises" false) := by
  intro os
  kernel_rfl
theorem run_dt (w : World) : HandSHeadRun.RunEqS R qv hkd obd 11000 names (w.withFollow "special-get-raises" true) := by
  intro os
  kernel_rfl
theorem run_d (w : World) : HandSHeadRun.RunEqS R qv hkd obd 11000 names w := PySem.W.byRow2 "special-get-raises" (P := fun w => HandSHeadRun.RunEqS R qv hkd obd 11000 names w) run_df run_dt w
theorem run (w : World) : HandSHeadRun.RunEqS R qv hk ob 11000 names w := by
  have rb : HandSHeadRun.RunEqS R qv (hookP 1100 (hfa ++ []) ([] ++ (hfn0 ++ hfn1)) ([] ++ []) (fun K => noB K && noB K)) (fun s => obsP 1100 (hfa ++ []) ([] ++ (hfn0 ++ hfn1)) ([] ++ []) (fun K => noB K && noB K) (HandSHeadRun.getT s)) 11000 names w := run_join (fun s x y => join_P (n := 1100) (g := HandSHeadRun.getT s) (w := w) x y) (run_a w) (run_b w)
  have rf2 : HandSHeadRun.RunEqS R qv (hookP 1100 ((hfa ++ []) ++ []) (([] ++ (hfn0 ++ hfn1)) ++ hfn2) (([] ++ []) ++ []) (fun K => (fun K => noB K && noB K) K && noB K)) (fun s => obsP 1100 ((hfa ++ []) ++ []) (([] ++ (hfn0 ++ hfn1)) ++ hfn2) (([] ++ []) ++ []) (fun K => (fun K => noB K && noB K) K && noB K) (HandSHeadRun.getT s)) 11000 names w := run_join (fun s x y => join_P (n := 1100) (g := HandSHeadRun.getT s) (w := w) x y) rb (run_f2 w)
  have rd : HandSHeadRun.RunEqS R qv (hookP 1100 (((hfa ++ []) ++ []) ++ []) ((([] ++ (hfn0 ++ hfn1)) ++ hfn2) ++ hfn3) ((([] ++ []) ++ []) ++ hts) (fun K => (fun K => (fun K => noB K && noB K) K && noB K) K && hexB K)) (fun s => obsP 1100 (((hfa ++ []) ++ []) ++ []) ((([] ++ (hfn0 ++ hfn1)) ++ hfn2) ++ hfn3) ((([] ++ []) ++ []) ++ hts) (fun K => (fun K => (fun K => noB K && noB K) K && noB K) K && hexB K) (HandSHeadRun.getT s)) 11000 names w := run_join (fun s x y => join_P (n := 1100) (g := HandSHeadRun.getT s) (w := w) x y) rf2 (run_d w)
  have e1 : (((hfa ++ []) ++ []) ++ []) = hfa := by simp only [List.append_nil, List.nil_append, List.append_assoc]
  have e2 : ((([] ++ (hfn0 ++ hfn1)) ++ hfn2) ++ hfn3) = hfn := by simp only [List.append_nil, List.nil_append, List.append_assoc]
  have e3 : ((([] ++ []) ++ []) ++ hts) = hts := by simp only [List.append_nil, List.nil_append]
  have e4 : (fun K => (fun K => (fun K => noB K && noB K) K && noB K) K && hexB K) = hexB := funext fun K => rfl
  rw [e1, e2, e3, e4] at rd
  exact rd
end Pb

set_option Elab.async false
set_option linter.all false
set_option maxRecDepth 100000
set_option maxHeartbeats 4000000
namespace Pb
open PySem PySem.Spec PyProof.Rows
/-- the numbers of these bytes -/
abbrev tn (b : PeCode.Bytes) : List Nat := b.map UInt8.toNat
theorem tn_small (b : PeCode.Bytes) : (tn b).all (fun x => decide (x < 256)) = true := by
  rw [List.all_map]
  exact List.all_eq_true.mpr fun x _ => decide_eq_true (UInt8.toNat_lt x)
theorem u8n {a b : UInt8} : (a.toNat == b.toNat) = (a == b) := by
  rw [Bool.eq_iff_iff, beq_iff_eq, beq_iff_eq]
  exact UInt8.toNat_inj
/-! ### parted at one sign -/
theorem pre1 (c x : Nat) (r : List Nat) : TL.pre [c] (x :: r) = (x == c) := by
  unfold TL.pre
  show ([x] == [c]) = (x == c)
  rw [Bool.eq_iff_iff, beq_iff_eq, beq_iff_eq]
  constructor
  · intro h; injection h
  · intro h; rw [h]
theorem pieces_cons {c x : UInt8} {l p : PeCode.Bytes} {r : List PeCode.Bytes} (e : PeCode.piecesAt c l = p :: r) : PeCode.piecesAt c (x :: l) = if x = c then [] :: p :: r else (x :: p) :: r := by
  show (match PeCode.piecesAt c l with
    | [] => [[]]
    | p :: r => if x = c then [] :: p :: r else (x :: p) :: r) = _
  rw [e]
theorem spl_pieces (c : UInt8) : ∀ (b : PeCode.Bytes) (acc : List Nat), TL.spl [c.toNat] 0 acc (tn b) = (match PeCode.piecesAt c b with
  | [] => []
  | p :: r => (acc ++ tn p) :: r.map tn)
  | [], acc => by
    show [acc] = _
    simp [PeCode.piecesAt]
  | x :: l, acc => by
    have ih := fun a => spl_pieces c l a
    show (if TL.pre [c.toNat] (x.toNat :: tn l) = true then acc :: TL.spl [c.toNat] 0 [] (tn l) else TL.spl [c.toNat] 0 (acc ++ [x.toNat]) (tn l)) = _
    rw [pre1, u8n, ih, ih]
    cases e : PeCode.piecesAt c l with
    | nil => exact absurd e (pieces_ne c l)
    | cons p r =>
      rw [pieces_cons e]
      dsimp only
      by_cases h : x = c
      · rw [if_pos (beq_iff_eq.mpr h), if_pos h]
        simp
      · rw [if_neg (fun z => h (beq_iff_eq.mp z)), if_neg h]
        simp
theorem spl_all (c : UInt8) (b : PeCode.Bytes) : TL.spl [c.toNat] 0 [] (tn b) = (PeCode.piecesAt c b).map tn := by
  rw [spl_pieces]
  cases e : PeCode.piecesAt c b with
  | nil => rfl
  | cons p r => simp
/-! ### words glued -/
theorem joinL_nil : ∀ ys : List (List Nat), TL.joinL [] ys = ys.flatten
  | [] => rfl
  | [p] => by simp [TL.joinL]
  | p :: q :: r => by
    show p ++ ([] ++ TL.joinL [] (q :: r)) = _
    rw [joinL_nil (q :: r)]
    simp
theorem joinL_blank : ∀ ys : List PeCode.Bytes, TL.joinL [32] (ys.map tn) = tn (glue ys)
  | [] => rfl
  | [p] => rfl
  | p :: q :: r => by
    show tn p ++ ([32] ++ TL.joinL [32] ((q :: r).map tn)) = tn (p ++ 32 :: glue (q :: r))
    rw [joinL_blank (q :: r)]
    simp
end Pb

set_option Elab.async false
set_option linter.all false
set_option maxRecDepth 100000
set_option maxHeartbeats 4000000
namespace Pb
open PySem PySem.Spec PyProof.Rows L2 Evl PbX
/-! ### texts -/
theorem S_split (c : UInt8) (b : PeCode.Bytes) : Txt.split (S b) (S [c]) = (PeCode.piecesAt c b).map S := by
  have e := SX.split_S (a := tn b) (b := [c.toNat]) (by simp) (tn_small [c])
  rw [spl_all, List.map_map] at e
  exact e
theorem S_join0 (ys : List PeCode.Bytes) : Txt.join (S []) (ys.map S) = S ys.flatten := by
  have e := SX.join_S [] (ys.map tn)
  rw [joinL_nil, List.map_map, ← List.map_flatten] at e
  exact e
theorem S_join1 (ys : List PeCode.Bytes) : Txt.join (S [32]) (ys.map S) = S (glue ys) := by
  have e := SX.join_S [32] (ys.map tn)
  rw [joinL_blank, List.map_map] at e
  exact e
theorem S_cut2 (b : PeCode.Bytes) : cutS (S b) none (some (-2)) = S (b.take (b.length - 2)) := by
  unfold cutS
  rw [S_len, S_tl]
  have e1 : HT.sIx b.length 0 none = 0 := rfl
  have e2 : HT.sIx b.length b.length (some (-2)) = b.length - 2 := by
    unfold HT.sIx
    simp
    omega
  rw [e1, e2, List.drop_zero, Nat.sub_zero, ← List.map_take]
  rfl
theorem L_nl : Str.ofString "\n" = S [10] := by decide +kernel
theorem L_blank : Str.ofString " " = S [32] := by decide +kernel
theorem L_empty : Str.ofString "" = S [] := by decide +kernel
/-! ### small helps -/
theorem fresh_upd {H : Hp} {p a : Addr} {o : HO} (h : H a = none) (n : a ≠ p) : upd H p o a = none := by rw [upd_ne n]; exact h
theorem Ex.of_upd {H H' : Hp} {p : Addr} {o : HO} (h : H p = none) (e : Ex (upd H p o) H') : Ex H H' := (Ex.new h).trans e
theorem iT {c : Bool} {A B : Prop} (hc : c = true) (h : A) : if c = true then A else B := by
  rw [if_pos hc]
  exact h
theorem iF {c : Bool} {A B : Prop} (hc : c = false) (h : B) : if c = true then A else B := by
  rw [hc, if_neg Bool.false_ne_true]
  exact h
theorem iB {c : Bool} {A B : Prop} (h1 : c = true → A) (h2 : c = false → B) : if c = true then A else B := by
  cases c with
  | true => exact iT rfl (h1 rfl)
  | false => exact iF rfl (h2 rfl)
theorem szl {n : Nat} (h : n ≤ 1000000) : n ≤ sizeLine := Nat.le_trans h (by decide)
theorem szlt {n : Nat} (h : n < 1000000) : n < sizeLine := Nat.lt_of_lt_of_le h (by decide)
theorem ix_kd {X : Cx} {K : PySem.W.Frag} {w : World} (hK : X.K = K) (hw : X.w = w) : IxR X (rIxD K w) := by
  subst hK hw
  exact ix_kdict
section
variable {X : Cx} {K : PySem.W.Frag}
theorem pe_fldK {e : Expr} {ta : TE} {f : Str} {pos : Pos} (hK : X.K = K) (he : PE X e ta) (hb : attributeBase e f X.env (eval e X.env) = eval e X.env) : PE X (.Attribute e f pos) (tFld K ta f) := by
  subst hK
  exact pe_fld he hb
theorem ix_listK (hK : X.K = K) : IxR X (rIxL K) := by
  subst hK
  exact ix_list
theorem ix_tupK (hK : X.K = K) : IxR X (rIxT K) := by
  subst hK
  exact ix_tup
theorem op_in_seqK (hK : X.K = K) : OpR X (compareOp .In) (rIn K false) := by
  subst hK
  exact op_in_seq
theorem op_notIn_seqK (hK : X.K = K) : OpR X (compareOp .NotIn) (rIn K true) := by
  subst hK
  exact op_notIn_seq
end
/-! ### refusals -/
/-- an exception of refusals, its answer the list ns, is wished for -/
def Refused (K : PySem.W.Frag) (E : XK) (H : Hp) (ns : List V) : Prop := ∀ C d l H', Ref K (He.ga K "Refusal") C → H l = none → H d = none → Ex H H' → H' d = some (.xd [("answer", .ref l)]) → H' l = some (.lst ns) → E (.ref C) (some d) H'
theorem Refused.mono {K : PySem.W.Frag} {E : XK} {H H1 : Hp} {ns : List V} (e : Ex H H1) (h : Refused K E H ns) : Refused K E H1 ns :=
  fun C d l H' r hl hd e2 => h C d l H' r (fresh_back e hl) (fresh_back e hd) (e.trans e2)
/-- Refusal.__init__ -/
def spRef (K : PySem.W.Frag) : Sp := fun vs H Q _ => ∃ (a C : Addr) (v : V), vs = [.ref a, v] ∧ EcC K C ∧ PySem.W.findIn K (.ref C) "answer" = some none ∧ H a = some (exo a C none) ∧
  ∀ d, H d = none → d ≠ a → Q .non (upd (upd H d (exd d [("answer", v)])) a (exo a C (some d)))
/-- all but a stands -/
def ExB (a : Addr) (H H' : Hp) : Prop := ∀ b o, b ≠ a → H b = some o → H' b = some o
theorem ExB.refl (a : Addr) (H : Hp) : ExB a H H := fun _ _ _ h => h
theorem ExB.trans {a : Addr} {H H1 H2 : Hp} (e : ExB a H H1) (f : ExB a H1 H2) : ExB a H H2 := fun b o n h => f b o n (e b o n h)
theorem ExB.of {a : Addr} {H H' : Hp} (e : Ex H H') : ExB a H H' := fun b o _ h => e b o h
theorem ExB.upd {a : Addr} {H H' : Hp} {o : HO} (e : ExB a H H') : ExB a H (upd H' a o) := fun b u n h => by rw [upd_ne n]; exact e b u n h
theorem ExB.new {a p : Addr} {H : Hp} {o : HO} (h : H p = none) : ExB a H (L2.upd H p o) := ExB.of (Ex.new h)
/-- what is new to H may change -/
theorem ExB.ex {a : Addr} {H H' : Hp} (e : ExB a H H') (h : H a = none) : Ex H H' := fun b o q => e b o (fun z => by rw [z, h] at q; cases q) q
/-- what is new to an earlier heap may change -/
theorem ExB.ex2 {a : Addr} {H0 H H' : Hp} (e : ExB a H H') (e0 : Ex H0 H) (h : H0 a = none) : Ex H0 H' := fun b o q => e b o (fun z => by rw [z, h] at q; cases q) (e0 b o q)
/-- instances stand -/
def ExI (H H' : Hp) : Prop := ∀ b C dx fs, H b = some (.ins C dx fs) → H' b = some (.ins C dx fs)
theorem ExI.of {H H' : Hp} (e : Ex H H') : ExI H H' := fun b _ _ _ h => e b _ h
theorem ExI.refl (H : Hp) : ExI H H := fun _ _ _ _ h => h
theorem ExI.trans {H H1 H2 : Hp} (e : ExI H H1) (f : ExI H1 H2) : ExI H H2 := fun b C dx fs h => f b C dx fs (e b C dx fs h)
theorem ExI.lst {H : Hp} {p : Addr} {xs : List V} {o : HO} (h : H p = some (.lst xs)) : ExI H (L2.upd H p o) := fun b C dx fs q => by
  rw [upd_ne (ne_of q h (by intro z; cases z))]
  exact q
/-- a refusal's own __init__: args: what comes behind self; ns: its answer -/
def spRefOwn (K : PySem.W.Frag) (n : Nat) (args : List V → Hp → List V → Prop) : Sp := fun vs H Q _ => ∃ (a C : Addr) (as ns : List V), vs = .ref a :: as ∧ as.length = n ∧ args as H ns ∧ ns.length ≤ 1000 ∧ EcC K C ∧ PySem.W.findIn K (.ref C) "answer" = some none ∧ H a = some (exo a C none) ∧
  ∀ l d H', H l = none → H d = none → l ≠ d → ExB a H H' → H' a = some (exo a C (some d)) → H' d = some (exd d [("answer", .ref l)]) → H' l = some (.lst ns) → Q .non H'
theorem spRefOwn_len {K : PySem.W.Frag} {n : Nat} {args : List V → Hp → List V → Prop} (vs : List V) (H : Hp) (Q : VK) (E : XK) (h : spRefOwn K n args vs H Q E) : vs.length = n + 1 := by
  obtain ⟨a, C, as, ns, rfl, e, _⟩ := h
  rw [List.length_cons, e]
/-- a refusal is made: what is asked -/
theorem mkO_ref {K : PySem.W.Frag} {C : Addr} {n : Nat} {args : List V → Hp → List V → Prop} {E : XK} {H : Hp} {as ns : List V} (x : ExcT K (He.ga K "Refusal") C) (r : Refused K E H ns) (hn : as.length = n) (hz : n ≤ 100) (hs : ns.length ≤ 1000)
    (ha : ∀ a, H a = none → args as (upd H a (exo a C none)) ns) :
    as.length ≤ 1000 ∧ ∀ a, H a = none → spRefOwn K n args (.ref a :: (as ++ [])) (upd H a (exo a C none))
      (fun v H2 => v = .non ∧ ∃ (d : Addr) (fs : List (Str × V)), H2 a = some (exo a C (some d)) ∧ H2 d = some (exd d fs) ∧ H d = none ∧ E (.ref C) (some d) (upd (del H2 a) d (.xd fs))) (fun _ _ _ => False) := by
  refine ⟨by omega, fun a na => ⟨a, C, as, ns, by rw [List.append_nil], hn, ha a na, hs, x.ec, x.rf.no, upd_same, fun l d H' nl nd ne e h1 h2 h3 => ?_⟩⟩
  have la : l ≠ a := fun z => by rw [z, upd_same] at nl; cases nl
  have da : d ≠ a := fun z => by rw [z, upd_same] at nd; cases nd
  have nl2 : H l = none := by rw [upd_ne la] at nl; exact nl
  have nd2 : H d = none := by rw [upd_ne da] at nd; exact nd
  refine ⟨rfl, d, _, h1, h2, nd2, r C d l _ x.rf nl2 nd2 (fun b o q => ?_) upd_same ?_⟩
  · have ba : b ≠ a := ne_of_none q na
    have bd : b ≠ d := ne_of_none q nd2
    rw [upd_ne bd, del_ne ba]
    exact e b o ba (by rw [upd_ne ba]; exact q)
  · rw [upd_ne ne, del_ne la]
    exact h3
section
variable {X : Cx} {e : Expr} {es : List Expr} {ta : TA} {p pos p1 p2 : Pos} {x : Str} {R C : Addr} {k : Nat} {ps : List Str} {sp : Sp} {E : XK}
theorem pmk_cH (T : ExcT X.K R C) (G : Has X.prog X.w X.K X.mg X.base CX0 k (He.ma X.K C "__init__") ps sp) (hr : Room (k + 1) X.A) (hm : X.mg x = some (.ref C)) (ha : PA X (e :: es) ta) (hg : Gl X x := by rfl)
    (hdb : (x == ("__debug__" : Str)) = false := by decide) (he : starEach (e :: es) X.env = (false, eval e X.env) :: starEach es X.env := by rfl) (hpl : (backTo pos (starEach es X.env)).any (·.1) = false := by rfl) :
    PMk X (.Call (.Name x p) (e :: es) [] pos) (tMkO C sp [] ta) := by
  obtain ⟨fd, F, b⟩ := G.ex
  exact pmk_c T.ec T.iC T.tI F hr b pass0 hg hm ha hdb he hpl
theorem pmk_c0H (T : ExcT X.K R C) (G : Has X.prog X.w X.K X.mg X.base CX0 k (He.ma X.K C "__init__") ps sp) (hr : Room (k + 1) X.A) (hm : X.mg x = some (.ref C)) (hg : Gl X x := by rfl) (hdb : (x == ("__debug__" : Str)) = false := by decide) :
    PMk X (.Call (.Name x p) [] [] pos) (tMkO C sp [] tNil) := by
  obtain ⟨fd, F, b⟩ := G.ex
  exact pmk_c0 T.ec T.iC T.tI F hr b pass0 hg hm hdb
theorem pe_owninitH {fI : Addr} {pl : Sem Bool} {m : Str} {CX : CXT} (c : ClsFn X.K R m fI) (G : Has X.prog X.w X.K X.mg X.base CX k fI ps sp) (hr : Room k X.A) (hm : X.mg x = some (.ref R)) (hx : Passes CX X E) (ha : PA X (e :: es) ta) (hg : Gl X x := by rfl)
    (hdb : (x == ("__debug__" : Str)) = false := by decide)
    (hc : eval (.Call (.Attribute (.Name x p1) m p2) (e :: es) [] pos) X.env = (do
      let ov ← eval (.Name x p1) X.env
      standAt p2.atName
      let (fn, hd) ← holding [ov] (getMethod ov m pl)
      callWith pos fn hd (backTo pos (starEach (e :: es) X.env)) (backToKw pos (keywordEach [] X.env))) := by rfl)
    (he : starEach (e :: es) X.env = (false, eval e X.env) :: starEach es X.env := by rfl) (hpl : (backTo pos (starEach es X.env)).any (·.1) = false := by rfl) :
    PE X (.Call (.Attribute (.Name x p1) m p2) (e :: es) [] pos) (tOwnInit sp E ta) := by
  obtain ⟨fd, F, b⟩ := G.ex
  exact pe_owninit c F hr b hx hg hm ha hdb hc he hpl
end
end Pb

set_option Elab.async false
set_option linter.all false
set_option maxRecDepth 100000
set_option maxHeartbeats 4000000
namespace Pb
open PySem PySem.Spec PyProof.Rows L2 Evl PbX
theorem G_Refusal_init {P : Program} {w : World} {K : PySem.W.Frag} {mg : Str → Option Value} {base : Heap} (T : Txt w K mg) : Has P w K mg base CX0 1 (He.ma K (He.ga K "Refusal") "__init__") p_Refusal_init (spRef K) := by
  refine T.d_Refusal_init.has sc_Refusal_init (fun vs H Q E h => ?_) (fun cdv A outer s H vs Q E hr h => ⟨_, PSs.nox ((pss_cons (ps_expr (pe_base (by rfl) T.u_Exception T.v_Exception (pa_cons (pv 0) pa_nil)))
    (pss_one (ps_put (pv 0) (pv 1))))), ?_⟩)
  · obtain ⟨a, C, v, rfl, _⟩ := h
    rfl
  · obtain ⟨a, C, v, rfl, ec, no, ha, q⟩ := h
    refine ⟨_, rfl, a, C, [], rfl, by decide, ec, ha, ?_⟩
    exact ⟨_, rfl, _, rfl, a, C, rfl, ec, no, ha, fun d nd ne => q d nd ne⟩
/-- [n] of a written number, negated -/
def argsC (n : Int) : List V → Hp → List V → Prop := fun as _ ns => as = [] ∧ ns = [.int n]
/-- the six numbers behind the first -/
def argsT : List V → Hp → List V → Prop := fun as H ns => ∃ (t : Addr) (xs : List V), as = [.ref t] ∧ H t = some (.lst xs) ∧ xs.length ≤ 900 ∧ ns = .int (-3) :: xs
def argsF : List V → Hp → List V → Prop := fun as _ ns => ∃ f : V, as = [f] ∧ ns = [.int (-6), f]
/-- Refusal.__init__(self, l), l a new list -/
theorem ref_end {K : PySem.W.Frag} {a C l : Addr} {ns : List V} {H H1 : Hp} {Q : VK} (ec : EcC K C) (no : PySem.W.findIn K (.ref C) "answer" = some none) (ha : H a = some (exo a C none)) (nl : H l = none) (e : Ex H H1) (hl : H1 l = some (.lst ns))
    (q : ∀ l d H', H l = none → H d = none → l ≠ d → ExB a H H' → H' a = some (exo a C (some d)) → H' d = some (exd d [("answer", .ref l)]) → H' l = some (.lst ns) → Q .non H') :
    spRef K [.ref a, .ref l] H1 (fun v H2 => Q .non H2) (fun _ _ _ => False) := by
  refine ⟨a, C, .ref l, rfl, ec, no, e a _ ha, fun d nd ne => ?_⟩
  have la : l ≠ a := fun z => by rw [z, ha] at nl; cases nl
  have ld : l ≠ d := ne_of_none hl nd
  refine q l d _ nl (fresh_back e nd) ld (fun b o n h => ?_) upd_same ?_ ?_
  · rw [upd_ne n, upd_ne (ne_of_none h (fresh_back e nd))]
    exact e b o h
  · rw [upd_ne ne, upd_same]
  · rw [upd_ne la, upd_ne ld]
    exact hl
theorem G_OutOfBounds_init {P : Program} {w : World} {K : PySem.W.Frag} {mg : Str → Option Value} {base : Heap} (T : Txt w K mg) : Has P w K mg base CX0 2 (He.ma K (He.ga K "OutOfBounds") "__init__") p_OutOfBounds_init (spRefOwn K 0 (argsC (-1))) := by
  have G_Refusal_init := G_Refusal_init (P := P) (base := base) T
  refine T.d_OutOfBounds_init.has sc_OutOfBounds_init (fun vs H Q E h => ?_) (fun cdv A outer s H vs Q E hr h => ⟨_, PSs.nox ((pss_one (ps_expr (pe_owninitH T.i_Refusal G_Refusal_init (hr.mono (by decide)) T.g_Refusal pass0 (pa_cons (pv 0) (pa_cons (pe_lst (pa_cons (pe_un un_neg pe_int) pa_nil)) pa_nil)))))), ?_⟩)
  · exact spRefOwn_len vs H Q E h
  · obtain ⟨a, C, as, ns, rfl, hn, ⟨rfl, rfl⟩, hz, ec, no, ha, q⟩ := h
    refine ⟨_, rfl, 1, rfl, by decide, fun l nl => ?_⟩
    exact ref_end ec no ha nl (Ex.new nl) upd_same q
theorem G_NotFormed_init {P : Program} {w : World} {K : PySem.W.Frag} {mg : Str → Option Value} {base : Heap} (T : Txt w K mg) : Has P w K mg base CX0 2 (He.ma K (He.ga K "NotFormed") "__init__") p_NotFormed_init (spRefOwn K 0 (argsC (-2))) := by
  have G_Refusal_init := G_Refusal_init (P := P) (base := base) T
  refine T.d_NotFormed_init.has sc_NotFormed_init (fun vs H Q E h => ?_) (fun cdv A outer s H vs Q E hr h => ⟨_, PSs.nox ((pss_one (ps_expr (pe_owninitH T.i_Refusal G_Refusal_init (hr.mono (by decide)) T.g_Refusal pass0 (pa_cons (pv 0) (pa_cons (pe_lst (pa_cons (pe_un un_neg pe_int) pa_nil)) pa_nil)))))), ?_⟩)
  · exact spRefOwn_len vs H Q E h
  · obtain ⟨a, C, as, ns, rfl, hn, ⟨rfl, rfl⟩, hz, ec, no, ha, q⟩ := h
    refine ⟨_, rfl, 2, rfl, by decide, fun l nl => ?_⟩
    exact ref_end ec no ha nl (Ex.new nl) upd_same q
theorem G_NotThere_init {P : Program} {w : World} {K : PySem.W.Frag} {mg : Str → Option Value} {base : Heap} (T : Txt w K mg) : Has P w K mg base CX0 2 (He.ma K (He.ga K "NotThere") "__init__") p_NotThere_init (spRefOwn K 0 (argsC (-3))) := by
  have G_Refusal_init := G_Refusal_init (P := P) (base := base) T
  refine T.d_NotThere_init.has sc_NotThere_init (fun vs H Q E h => ?_) (fun cdv A outer s H vs Q E hr h => ⟨_, PSs.nox ((pss_one (ps_expr (pe_owninitH T.i_Refusal G_Refusal_init (hr.mono (by decide)) T.g_Refusal pass0 (pa_cons (pv 0) (pa_cons (pe_lst (pa_cons (pe_un un_neg pe_int) pa_nil)) pa_nil)))))), ?_⟩)
  · exact spRefOwn_len vs H Q E h
  · obtain ⟨a, C, as, ns, rfl, hn, ⟨rfl, rfl⟩, hz, ec, no, ha, q⟩ := h
    refine ⟨_, rfl, 3, rfl, by decide, fun l nl => ?_⟩
    exact ref_end ec no ha nl (Ex.new nl) upd_same q
theorem G_NotCheaper_init {P : Program} {w : World} {K : PySem.W.Frag} {mg : Str → Option Value} {base : Heap} (T : Txt w K mg) : Has P w K mg base CX0 2 (He.ma K (He.ga K "NotCheaper") "__init__") p_NotCheaper_init (spRefOwn K 0 (argsC (-4))) := by
  have G_Refusal_init := G_Refusal_init (P := P) (base := base) T
  refine T.d_NotCheaper_init.has sc_NotCheaper_init (fun vs H Q E h => ?_) (fun cdv A outer s H vs Q E hr h => ⟨_, PSs.nox ((pss_one (ps_expr (pe_owninitH T.i_Refusal G_Refusal_init (hr.mono (by decide)) T.g_Refusal pass0 (pa_cons (pv 0) (pa_cons (pe_lst (pa_cons (pe_un un_neg pe_int) pa_nil)) pa_nil)))))), ?_⟩)
  · exact spRefOwn_len vs H Q E h
  · obtain ⟨a, C, as, ns, rfl, hn, ⟨rfl, rfl⟩, hz, ec, no, ha, q⟩ := h
    refine ⟨_, rfl, 4, rfl, by decide, fun l nl => ?_⟩
    exact ref_end ec no ha nl (Ex.new nl) upd_same q
theorem G_NotFitting_init {P : Program} {w : World} {K : PySem.W.Frag} {mg : Str → Option Value} {base : Heap} (T : Txt w K mg) : Has P w K mg base CX0 2 (He.ma K (He.ga K "NotFitting") "__init__") p_NotFitting_init (spRefOwn K 0 (argsC (-5))) := by
  have G_Refusal_init := G_Refusal_init (P := P) (base := base) T
  refine T.d_NotFitting_init.has sc_NotFitting_init (fun vs H Q E h => ?_) (fun cdv A outer s H vs Q E hr h => ⟨_, PSs.nox ((pss_one (ps_expr (pe_owninitH T.i_Refusal G_Refusal_init (hr.mono (by decide)) T.g_Refusal pass0 (pa_cons (pv 0) (pa_cons (pe_lst (pa_cons (pe_un un_neg pe_int) pa_nil)) pa_nil)))))), ?_⟩)
  · exact spRefOwn_len vs H Q E h
  · obtain ⟨a, C, as, ns, rfl, hn, ⟨rfl, rfl⟩, hz, ec, no, ha, q⟩ := h
    refine ⟨_, rfl, 5, rfl, by decide, fun l nl => ?_⟩
    exact ref_end ec no ha nl (Ex.new nl) upd_same q
theorem G_NoRoom_init {P : Program} {w : World} {K : PySem.W.Frag} {mg : Str → Option Value} {base : Heap} (T : Txt w K mg) : Has P w K mg base CX0 2 (He.ma K (He.ga K "NoRoom") "__init__") p_NoRoom_init (spRefOwn K 0 (argsC (-9))) := by
  have G_Refusal_init := G_Refusal_init (P := P) (base := base) T
  refine T.d_NoRoom_init.has sc_NoRoom_init (fun vs H Q E h => ?_) (fun cdv A outer s H vs Q E hr h => ⟨_, PSs.nox ((pss_one (ps_expr (pe_owninitH T.i_Refusal G_Refusal_init (hr.mono (by decide)) T.g_Refusal pass0 (pa_cons (pv 0) (pa_cons (pe_lst (pa_cons (pe_un un_neg pe_int) pa_nil)) pa_nil)))))), ?_⟩)
  · exact spRefOwn_len vs H Q E h
  · obtain ⟨a, C, as, ns, rfl, hn, ⟨rfl, rfl⟩, hz, ec, no, ha, q⟩ := h
    refine ⟨_, rfl, 9, rfl, by decide, fun l nl => ?_⟩
    exact ref_end ec no ha nl (Ex.new nl) upd_same q
theorem G_NotReadable_init {P : Program} {w : World} {K : PySem.W.Frag} {mg : Str → Option Value} {base : Heap} (T : Txt w K mg) : Has P w K mg base CX0 2 (He.ma K (He.ga K "NotReadable") "__init__") p_NotReadable_init (spRefOwn K 1 argsF) := by
  have G_Refusal_init := G_Refusal_init (P := P) (base := base) T
  refine T.d_NotReadable_init.has sc_NotReadable_init (fun vs H Q E h => ?_) (fun cdv A outer s H vs Q E hr h => ⟨_, PSs.nox ((pss_one (ps_expr (pe_owninitH T.i_Refusal G_Refusal_init (hr.mono (by decide)) T.g_Refusal pass0 (pa_cons (pv 0) (pa_cons (pe_lst (pa_cons (pe_un un_neg pe_int) (pa_cons (pv 1) pa_nil))) pa_nil)))))), ?_⟩)
  · exact spRefOwn_len vs H Q E h
  · obtain ⟨a, C, as, ns, rfl, hn, ⟨f, rfl, rfl⟩, hz, ec, no, ha, q⟩ := h
    refine ⟨_, rfl, 6, rfl, _, rfl, by show 2 ≤ sizeLine; decide, fun l nl => ?_⟩
    exact ref_end ec no ha nl (Ex.new nl) upd_same q
theorem G_NotRight_init {P : Program} {w : World} {K : PySem.W.Frag} {mg : Str → Option Value} {base : Heap} (T : Txt w K mg) : Has P w K mg base CX0 2 (He.ma K (He.ga K "NotRight") "__init__") p_NotRight_init (spRefOwn K 1 argsT) := by
  have G_Refusal_init := G_Refusal_init (P := P) (base := base) T
  refine T.d_NotRight_init.has sc_NotRight_init (fun vs H Q E h => ?_) (fun cdv A outer s H vs Q E hr h => ⟨_, PSs.nox ((pss_one (ps_expr (pe_owninitH T.i_Refusal G_Refusal_init (hr.mono (by decide)) T.g_Refusal pass0 (pa_cons (pv 0) (pa_cons (pe_op op_cat (pe_lst (pa_cons (pe_un un_neg pe_int) pa_nil)) (pv 1)) pa_nil)))))), ?_⟩)
  · exact spRefOwn_len vs H Q E h
  · obtain ⟨a, C, as, ns, rfl, hn, ⟨t, xs, rfl, ht, hx, rfl⟩, hz, ec, no, ha, q⟩ := h
    refine ⟨_, rfl, 3, rfl, by decide, fun p np => ?_⟩
    refine ⟨_, rfl, p, t, _, xs, rfl, rfl, upd_same, ?_, szl (by show 1 + xs.length ≤ 1000000; omega), fun l nl => ?_⟩
    · rw [upd_ne (ne_of_none ht np)]
      exact ht
    · exact ref_end ec no ha (fresh_back (Ex.new np) nl) ((Ex.new np).trans (Ex.new nl)) upd_same q
end Pb

set_option Elab.async false
set_option linter.all false
set_option maxRecDepth 100000
set_option maxHeartbeats 4000000
namespace Pb
open PySem PySem.Spec PyProof.Rows L2 Evl PbX
/-- bytes as a list of numbers -/
abbrev numsV (b : PeCode.Bytes) : List V := b.map fun c => V.int c.toNat
abbrev READ : Str := Str.ofString "\n +-0123456789=>abcdefghijklmnopqrstuvwxyz"
abbrev ent (c : Nat) : Key × V := (Sum.inl (c : Int), V.str ⟨#[c]⟩)
theorem read_nd : READ.cps.toList.Nodup := by decide +kernel
theorem look_cl : ∀ n : _root_.Fin 256, ((valV (READ.cps.toList.map ent) (Sum.inl ((n.val : Nat) : Int))).getD (V.str (Str.ofString "?"))) = V.str (S [Pb.cl (UInt8.ofFin n)]) := by decide +kernel
theorem putK_new {kvs : List (Key × V)} {k : Key} {v : V} (h : (kvs.any fun kv => decide (kv.1 = k)) = false) : putK kvs k v = kvs ++ [(k, v)] := by
  unfold putK
  rw [h]
  rfl
theorem ent_new {l : List Nat} {c : Nat} (h : c ∉ l) : ((l.map ent).any fun kv => decide (kv.1 = (Sum.inl (c : Int) : Key))) = false := by
  rw [List.any_eq_false]
  intro kv hk
  obtain ⟨x, hx, rfl⟩ := List.mem_map.mp hk
  have : x ≠ c := fun q => h (by rw [← q]; exact hx)
  simp only [decide_eq_true_eq]
  intro q
  injection q with q1
  exact this (by exact_mod_cast q1)
theorem take_next {α : Type} {l : List α} {i : Nat} {x : α} (h : l[i]? = some x) : l.take (i + 1) = l.take i ++ [x] := by
  rw [List.take_add_one, h]
  rfl
theorem take_new {α : Type} {l : List α} {i : Nat} {x : α} (nd : l.Nodup) (h : l[i]? = some x) : x ∉ l.take i := by
  intro hm
  obtain ⟨j, hj, e⟩ := List.mem_iff_getElem.mp hm
  have hj2 : j < i := by rw [List.length_take] at hj; omega
  rw [List.getElem_take] at e
  have hi : i < l.length := (List.getElem?_eq_some_iff.mp h).1
  have ei : l[i] = x := (List.getElem?_eq_some_iff.mp h).2
  have := (List.getElem_inj nd).mp (e.trans ei.symm)
  omega
theorem map_at {α β : Type} {f : α → β} {l : List α} {i : Nat} {y : β} (h : (l.map f)[i]? = some y) : ∃ x, l[i]? = some x ∧ y = f x := by
  rw [List.getElem?_map] at h
  cases e : l[i]? with
  | none => rw [e] at h; cases h
  | some x => rw [e] at h; exact ⟨x, rfl, (Option.some.inj h).symm⟩
theorem flat_one {α β : Type} (f : α → β) : ∀ l : List α, (l.map fun x => [f x]).flatten = l.map f
  | [] => rfl
  | x :: l => by rw [List.map_cons, List.flatten_cons, flat_one f l]; rfl
theorem sum_one {α : Type} : ∀ l : List α, (l.map fun _ => 1).sum = l.length
  | [] => rfl
  | x :: l => by rw [List.map_cons, List.sum_cons, sum_one l, List.length_cons]; omega
def spTextOf (K : PySem.W.Frag) : Sp := fun vs H Q E => ∃ (a : Addr) (b : PeCode.Bytes), vs = [.ref a] ∧ SqL K H a (numsV b) ∧ b.length ≤ 100000 ∧
  (4096 < b.length → Refused K E H [.int (-1)]) ∧ (b.length ≤ 4096 → ∀ H', Ex H H' → Q (.str (S (b.map Pb.cl))) H')
theorem G_text_of {P : Program} {w : World} {K : PySem.W.Frag} {mg : Str → Option Value} {base : Heap} (T : Txt w K mg) : Has P w K mg base (L2.CX P w) 4 (He.ga K "text_of") p_text_of (spTextOf K) := by
  have G_OutOfBounds_init := G_OutOfBounds_init (P := P) (base := base) T
  refine T.d_text_of.hasX sc_text_of (fun vs H Q E h => ?_) (fun cdv A outer s H vs Q E hr h => ⟨_, ((pss_cons (ps_if (pt_cmpR op_gt (pe_callB call_len_seq (by rfl) T.u_len PySem.boot_len (pa_cons (pv 0) pa_nil)) (pe_gi T.c_MOST_BYTES) (nomark _)) (pss_one (ps_raise rfl (takes_of rfl rfl rfl rfl) (pmk_c0H T.x_OutOfBounds G_OutOfBounds_init (hr.mono (by decide)) T.g_OutOfBounds))) pss_nil)
    (pss_cons (ps_set (i := 1) sc_text_of.nd rfl (Or.inr rfl) pe_dnewK)
    (pss_cons (ps_for (passes_of rfl) rfl (pi_str (pe_gs T.c_READABLE)) (pg_name (i := 2) sc_text_of.nd rfl (Or.inl rfl)) (pss_one (ps_dput (hu_of hr) (pv 1) (pe_callB call_ord (by rfl) T.u_ord (by decide +kernel) (pa_cons (pv 2) pa_nil)) (pv 2) rfl)))
    (pss_one (ps_ret (pe_join pe_str (pe_lc (own := [("number", 3)]) (g := gName 3) (tt := tYes) rfl sc_text_of.nd (pi_list (pv 0)) (blkOk_by (N := n_text_of) (sc := defScope s_text_of) (by decide +kernel)) (fun _ _ _ _ _ => pg_name (i := 3) sc_text_of.nd rfl (Or.inl rfl)) (fun _ _ _ _ _ => pts_nil) (fun _ _ _ _ _ => (pe_dget2 (hu_of hr) (pv 1) (pv 3) (pe_gs T.c_UNREADABLE) ⟨rfl, by rfl, rfl, rfl⟩)))))))))), ?_⟩)
  · obtain ⟨a, b, rfl, _⟩ := h
    rfl
  · obtain ⟨a, b, rfl, hs, hb, h1, h2⟩ := h
    refine ⟨_, rfl, _, numsV b, rfl, .inl hs, ?_⟩
    refine ⟨_, _, rfl, rfl, _, rfl, iB (fun c => ?_) (fun c => ?_)⟩
    · exact mkO_ref T.x_OutOfBounds (h1 (by have := of_decide_eq_true c; rw [List.length_map] at this; omega)) rfl (by decide) (by decide) fun _ _ => ⟨rfl, rfl⟩
    · have hb2 : b.length ≤ 4096 := by have := of_decide_eq_false c; rw [List.length_map] at this; omega
      refine fun d hd => ?_
      refine ⟨READ, rfl, ?_⟩
      refine for_it (walk_str (z := READ)) (fun i σ H1 => (∃ x, σ = [some (.ref a), some (.ref d), x, none]) ∧ Ex H H1 ∧ H1 d = some (.dK ((READ.cps.toList.take i).map ent))) ?_ (fun _ _ _ _ _ => trivial) ?_ ?_
      · exact ⟨⟨_, rfl⟩, Ex.new hd, upd_same⟩
      · rintro i x σ H1 H2 hi ⟨⟨y, rfl⟩, e1, hk⟩ ⟨rfl, c, hc, rfl⟩
        refine ⟨_, rfl, _, rfl, _, rfl, _, rfl, rfl, ?_⟩
        have hn : c ∉ READ.cps.toList.take i := take_new read_nd (by rw [← hc]; simp)
        refine ⟨_, _, rfl, DPut.k (k := Sum.inl (c : Int)) hk ?_, ⟨_, rfl⟩, e1.mut hd, ?_⟩
        · rw [List.length_map]
          rw [List.length_take]
          exact szlt (Nat.lt_of_le_of_lt (Nat.min_le_right _ _) (by decide +kernel))
        · rw [upd_same, putK_new (ent_new hn), take_next (show READ.cps.toList[i]? = some c by rw [← hc]; simp), List.map_append]
          rfl
      · rintro σ H1 ⟨⟨y, rfl⟩, e1, hk⟩
        have hk2 : H1 d = some (.dK (READ.cps.toList.map ent)) := by
          rw [hk, List.take_of_length_le (Nat.le_of_eq (by simp))]
        refine ⟨⟨_, rfl⟩, _, rfl, a, rfl, ⟨_, ex_l e1 hs⟩, fun p hp => ?_⟩
        have e2 : Ex H (upd H1 p (.lst [])) := e1.trans (Ex.new hp)
        refine lc_it (walk_list (a := a) (xs := numsV b)) (fun i H2 => Ex H1 H2 ∧ H2 p = some (.lst (((b.take i).map fun c => V.str (S [Pb.cl c]))))) ?_ (fun i H2 _ q => ex_l (e1.trans q.1) hs) ?_ ?_
        · exact ⟨Ex.new hp, upd_same⟩
        · rintro i x H2 H3 hi ⟨e3, hl⟩ ⟨rfl, hx⟩
          obtain ⟨c, hc, rfl⟩ := map_at hx
          have hd3 := e3 d _ hk2
          refine ⟨rfl, _, rfl, d, rfl, .inl ⟨_, .inl hd3⟩, _, rfl, _, DGet.k (k := Sum.inl (c.toNat : Int)) hd3, _, hl, ?_, ?_, ?_⟩
          · rw [List.length_map, List.length_take]
            exact szlt (by omega)
          · exact e3.mut hp
          · rw [upd_same, take_next hc, List.map_append]
            have := look_cl c.toFin
            rw [show ((valV (READ.cps.toList.map ent) (Sum.inl (c.toNat : Int))).getD (V.str (Str.ofString "?"))) = V.str (S [Pb.cl c]) from this]
            rfl
        · rintro H2 ⟨e3, hl⟩
          rw [List.length_map, List.take_length] at hl
          refine ⟨_, p, b.map fun c => S [Pb.cl c], rfl, rfl, .inl (SqL.of ?_), ?_, ?_⟩
          · rw [hl, List.map_map]
            rfl
          · rw [List.map_map, L_empty]
            rw [show ((fun x : Str => x.length) ∘ fun c => S [Pb.cl c]) = fun _ => 1 from funext fun c => S_len _, sum_one, S_len, List.length_map]
            show b.length + b.length * 0 ≤ 16777216
            omega
          · have e : Txt.join (S []) (b.map fun c => S [Pb.cl c]) = S (b.map Pb.cl) := by
              have := S_join0 (b.map fun c => [Pb.cl c])
              rw [List.map_map] at this
              rw [show (b.map fun c => S [Pb.cl c]) = b.map (S ∘ fun c => [Pb.cl c]) from rfl, this, flat_one]
            rw [L_empty, e]
            exact h2 hb2 _ (e1.trans e3)
theorem numsV_snoc (l : PeCode.Bytes) (u : UInt8) : numsV (l ++ [u]) = numsV l ++ [V.int u.toNat] := List.map_append
def spBytesOf : Sp := fun vs H Q _ => ∃ b : PeCode.Bytes, vs = [.str (S b)] ∧ b.length ≤ 100000 ∧ ∀ H' p, H p = none → Ex H H' → H' p = some (.lst (numsV b)) → Q (.ref p) H'
theorem G_bytes_of {P : Program} {w : World} {K : PySem.W.Frag} {mg : Str → Option Value} {base : Heap} (T : Txt w K mg) : Has P w K mg base CX0 1 (He.ga K "bytes_of") p_bytes_of spBytesOf := by
  refine T.d_bytes_of.has sc_bytes_of (fun vs H Q E h => ?_) (fun cdv A outer s H vs Q E hr h => ⟨_, PSs.nox ((pss_one (ps_ret (pe_lc (own := [("sign", 1)]) (g := gName 1) (tt := tYes) rfl sc_bytes_of.nd (pi_str (pv 0)) (blkOk_by (N := n_bytes_of) (sc := defScope s_bytes_of) (by decide +kernel)) (fun _ _ _ _ _ => pg_name (i := 1) sc_bytes_of.nd rfl (Or.inl rfl)) (fun _ _ _ _ _ => pts_nil) (fun _ _ _ _ _ => (pe_callB call_ord (by rfl) T.u_ord (by decide +kernel) (pa_cons (pv 1) pa_nil))))))), ?_⟩)
  · obtain ⟨b, rfl, _⟩ := h
    rfl
  · obtain ⟨b, rfl, hb, q⟩ := h
    refine ⟨_, rfl, S b, rfl, fun p hp => ?_⟩
    have hz : (S b).cps.size = b.length := S_len b
    refine lc_it (walk_str (z := S b)) (fun i H2 => Ex H H2 ∧ H2 p = some (.lst (numsV (b.take i)))) ⟨Ex.new hp, upd_same⟩ (fun _ _ _ _ => trivial) ?_ ?_
    · rintro i x H2 H3 hi ⟨e3, hl⟩ ⟨rfl, c, hc, rfl⟩
      have hc2 : (b.map UInt8.toNat)[i]? = some c := by
        rw [← hc, ← Array.getElem?_toList]
        rfl
      obtain ⟨u, hu, rfl⟩ := map_at hc2
      refine ⟨rfl, _, rfl, _, rfl, rfl, _, hl, ?_, ?_, ?_⟩
      · rw [List.length_map, List.length_take]
        exact szlt (by omega)
      · exact e3.mut hp
      · rw [upd_same, take_next hu, numsV_snoc]
        rfl
    · rintro H2 ⟨e3, hl⟩
      rw [hz, List.take_length] at hl
      exact q H2 p hp e3 hl
def spLinesOf : Sp := fun vs H Q _ => ∃ b : PeCode.Bytes, vs = [.str (S b)] ∧ b.length ≤ 100000 ∧ ∀ H' p, H p = none → Ex H H' → H' p = some (.lst ((PeCode.piecesAt 10 b).dropLast.map fun l => V.str (S l))) → Q (.ref p) H'
theorem cutV_dropLast (xs : List V) : cutV xs none (some (-1)) = xs.dropLast := by
  unfold cutV
  have e1 : HT.sIx xs.length 0 none = 0 := rfl
  have e2 : HT.sIx xs.length xs.length (some (-1)) = xs.length - 1 := by
    unfold HT.sIx
    simp
    omega
  rw [e1, e2, List.drop_zero, Nat.sub_zero, List.dropLast_eq_take]
theorem G_lines_of {P : Program} {w : World} {K : PySem.W.Frag} {mg : Str → Option Value} {base : Heap} (T : Txt w K mg) : Has P w K mg base CX0 1 (He.ga K "lines_of") p_lines_of spLinesOf := by
  refine T.d_lines_of.has sc_lines_of (fun vs H Q E h => ?_) (fun cdv A outer s H vs Q E hr h => ⟨_, PSs.nox ((pss_one (ps_ret (pe_slice sl_list (pe_split (pv 0) pe_str) po_none (po_some (pe_un un_neg pe_int)))))), ?_⟩)
  · obtain ⟨b, rfl, _⟩ := h
    rfl
  · obtain ⟨b, rfl, hb, q⟩ := h
    refine ⟨_, rfl, ⟨_, rfl⟩, S b, _, rfl, rfl, by decide +kernel, szl (by rw [S_len]; omega), fun p hp => ?_⟩
    refine ⟨1, rfl, -1, rfl, p, _, rfl, SqL.of upd_same, fun p2 hp2 => ?_⟩
    refine q _ p2 (fresh_back (Ex.new hp) hp2) ((Ex.new hp).trans (Ex.new hp2)) ?_
    rw [upd_same, L_nl, S_split]
    show some (HO.lst (cutV _ none (some (-1)))) = _
    rw [cutV_dropLast, List.map_map, ← List.map_dropLast]
    rfl
/-- something stands behind the last line feed -/
def openEnd (b : PeCode.Bytes) : Bool := decide ((PeCode.piecesAt 10 b).getLast? ≠ some [])
theorem pieces_last_nil {c : UInt8} : ∀ b : PeCode.Bytes, (PeCode.piecesAt c b).getLast? = some [] ↔ (b = [] ∨ b.getLast? = some c)
  | [] => by simp [PeCode.piecesAt]
  | x :: l => by
    have ih := pieces_last_nil (c := c) l
    cases e : PeCode.piecesAt c l with
    | nil => exact absurd e (pieces_ne c l)
    | cons p r =>
      rw [e] at ih
      rw [pieces_cons e]
      cases l with
      | nil =>
        have e2 : p = [] ∧ r = [] := by
          have : ([[]] : List PeCode.Bytes) = p :: r := e
          injection this with h1 h2
          exact ⟨h1.symm, h2.symm⟩
        rw [e2.1, e2.2]
        by_cases hx : x = c <;> simp [hx]
      | cons y l =>
        have e3 : (x :: y :: l).getLast? = (y :: l).getLast? := by simp
        rw [e3]
        have ih2 : (p :: r).getLast? = some [] ↔ (y :: l).getLast? = some c := by simpa using ih
        rw [show ((x :: y :: l = []) ∨ (y :: l).getLast? = some c) ↔ (y :: l).getLast? = some c by simp, ← ih2]
        by_cases hx : x = c
        · rw [if_pos hx]
          simp
        · rw [if_neg hx]
          cases r with
          | nil =>
            simp only [List.getLast?_singleton]
            constructor
            · intro h
              injection h with h
              cases h
            · intro h
              injection h with h
              subst h
              exact absurd e (by
                intro e4
                have := pieces_glue c (y :: l) [] [] (by rw [e4]; rfl)
                simp at this)
          | cons q r => simp
theorem openEnd_eq (b : PeCode.Bytes) : openEnd b = (decide (b ≠ []) && !decide ((1 : Nat) ≤ b.length ∧ b.drop (b.length - 1) = [10])) := by
  unfold openEnd
  rw [Bool.eq_iff_iff, decide_eq_true_iff, Bool.and_eq_true, decide_eq_true_iff, Bool.not_eq_true', decide_eq_false_iff_not]
  have hl : b ≠ [] → ((1 ≤ b.length ∧ b.drop (b.length - 1) = [10]) ↔ b.getLast? = some 10) := fun hb => by
    rw [← List.dropLast_concat_getLast hb]
    simp
  constructor
  · intro h
    have hb : b ≠ [] := fun z => h ((pieces_last_nil b).mpr (.inl z))
    exact ⟨hb, fun z => h ((pieces_last_nil b).mpr (.inr ((hl hb).mp z)))⟩
  · rintro ⟨hb, h⟩ z
    rcases (pieces_last_nil b).mp z with z | z
    · exact hb z
    · exact h ((hl hb).mpr z)
def spOpenEnd : Sp := fun vs H Q _ => ∃ b : PeCode.Bytes, vs = [.str (S b)] ∧ Q (.bl (openEnd b)) H
theorem G_has_open_end {P : Program} {w : World} {K : PySem.W.Frag} {mg : Str → Option Value} {base : Heap} (T : Txt w K mg) : Has P w K mg base CX0 1 (He.ga K "has_open_end") p_has_open_end spOpenEnd := by
  refine T.d_has_open_end.has sc_has_open_end (fun vs H Q E h => ?_) (fun cdv A outer s H vs Q E hr h => ⟨_, PSs.nox ((pss_one (ps_ret (pe_and (pe_cmpR op_ne (pv 0) pe_str (nomark _)) (pe_one (pe_not (pe_m1 PySem.F.slot_str_endswith PySem.F.type_str_endswith mt_endswith (pv 0) pe_str))))))), ?_⟩)
  · obtain ⟨b, rfl, _⟩ := h
    rfl
  · obtain ⟨b, rfl, q⟩ := h
    rw [openEnd_eq] at q
    refine ⟨_, rfl, rfl, _, rfl, ?_⟩
    have e : (!decide (V.str (S b) = V.str (Str.ofString ""))) = decide (b ≠ []) := by
      rw [L_empty]
      simp only [V.str.injEq, S_eq, decide_not]
    rw [e]
    refine iB (fun c => ?_) (fun c => ?_)
    · rw [c, Bool.true_and] at q
      refine ⟨_, rfl, ⟨_, rfl⟩, S b, _, rfl, rfl, _, rfl, ?_⟩
      rw [L_nl, S_endswith]
      exact q
    · rw [c, Bool.false_and] at q
      exact q
/-- a number, or None -/
def optI : Option Nat → V
  | none => .non
  | some n => .int n
theorem num_no1 {b : PeCode.Bytes} (h : (!(decide (b ≠ []) && b.all PeCode.isDigit)) = true) : PeCode.numOf b = none := by
  unfold PeCode.numOf
  rw [if_neg]
  rintro ⟨h1, h2, _⟩
  rw [decide_eq_true h1, h2] at h
  cases h
theorem num_no2 {b : PeCode.Bytes} (h : 10 < b.length) : PeCode.numOf b = none := by
  unfold PeCode.numOf
  rw [if_neg]
  rintro ⟨_, _, h3, _⟩
  omega
theorem num_no3 {b : PeCode.Bytes} (h : (b.take ([48] : PeCode.Bytes).length == [48]) = true) (n : b ≠ [48]) : PeCode.numOf b = none := by
  unfold PeCode.numOf
  rw [if_neg]
  rintro ⟨h1, _, _, h4⟩
  cases b with
  | nil => exact h1 rfl
  | cons x l =>
    have e : [x] = [48] := by simpa using h
    injection e with e1
    subst e1
    rcases h4 with h4 | h4
    · exact h4 rfl
    · cases l with
      | nil => exact n rfl
      | cons y l => simp at h4
theorem num_head {b : PeCode.Bytes} (h : (b.take ([48] : PeCode.Bytes).length == [48]) = false) : b.head? ≠ some 48 := by
  cases b with
  | nil => simp
  | cons x l =>
    intro e
    have : x = 48 := by simpa using e
    rw [this] at h
    simp at h
theorem num_yes {b : PeCode.Bytes} (h1 : b ≠ []) (h2 : b.all PeCode.isDigit = true) (h3 : b.length ≤ 10) (h4 : b.head? ≠ some 48 ∨ b.length = 1) : PeCode.numOf b = if val b < PeCode.W then some (val b) else none := by
  unfold PeCode.numOf
  rw [if_pos ⟨h1, h2, h3, h4⟩]
  rfl
theorem L2S0 : Str.ofString "0" = S [48] := S0
def spReadNumber : Sp := fun vs H Q _ => ∃ b : PeCode.Bytes, vs = [.str (S b)] ∧ Lo b ∧ b.length ≤ 100000 ∧ Q (optI (PeCode.numOf b)) H
theorem G_read_number {P : Program} {w : World} {K : PySem.W.Frag} {mg : Str → Option Value} {base : Heap} (T : Txt w K mg) : Has P w K mg base CX0 1 (He.ga K "read_number") p_read_number spReadNumber := by
  refine T.d_read_number.has sc_read_number (fun vs H Q E h => ?_) (fun cdv A outer s H vs Q E hr h => ⟨_, PSs.nox ((pss_cons (ps_if (PW.pt (pw_or (pt_not (pt_val (pe_m0 PySem.F.slot_str_isdigit PySem.F.type_str_isdigit mt_isdigit (pv 0)))) (pw_or1 (pt_cmpR op_gt (pe_callB call_len_str (by rfl) T.u_len PySem.boot_len (pa_cons (pv 0) pa_nil)) (pe_gi T.c_LARGEST_DIGITS) (nomark _))))) (pss_one (ps_ret pe_non)) pss_nil)
    (pss_cons (ps_if (PW.pt (pw_and (pt_val (pe_m1 PySem.F.slot_str_startswith PySem.F.type_str_startswith mt_startswith (pv 0) pe_str)) (pw_and1 (pt_cmpR op_ne (pv 0) pe_str (nomark _))))) (pss_one (ps_ret pe_non)) pss_nil)
    (pss_cons (ps_set (i := 1) sc_read_number.nd rfl (Or.inl rfl) (pe_callTy call_int_str (by rfl) T.u_int (by decide +kernel) (pa_cons (pv 0) pa_nil)))
    (pss_cons (ps_if (pt_cmpR op_gt (pv 1) (pe_gi T.c_LARGEST) (nomark _)) (pss_one (ps_ret pe_non)) pss_nil)
    (pss_one (ps_ret (pv 1)))))))), ?_⟩)
  · obtain ⟨b, rfl, _⟩ := h
    rfl
  · obtain ⟨b, rfl, lo, hb, q⟩ := h
    refine ⟨_, rfl, ⟨_, rfl⟩, S b, rfl, rfl, trivial, _, rfl, ?_⟩
    rw [S_isdigit lo]
    refine iB (fun c => ?_) (fun c => ?_)
    · rw [num_no1 c] at q
      exact q
    have c1 : b ≠ [] ∧ b.all PeCode.isDigit = true := by simpa using c
    refine ⟨_, rfl, S b, rfl, szl (by rw [S_len]; omega), _, _, rfl, rfl, _, rfl, iB (fun c => ?_) (fun c => ?_)⟩
    · rw [num_no2 (by have := of_decide_eq_true c; rw [S_len] at this; omega)] at q
      exact q
    have c2 : b.length ≤ 10 := by have := of_decide_eq_false c; rw [S_len] at this; omega
    refine ⟨_, rfl, ⟨_, rfl⟩, S b, _, rfl, rfl, _, rfl, ?_⟩
    rw [S0, S_startswith]
    have ne0 : (!decide (V.str (S b) = V.str (S [48]))) = decide (b ≠ [48]) := by simp only [V.str.injEq, S_eq, decide_not]
    have fin : ∀ (_ : b.head? ≠ some 48 ∨ b.length = 1), tSeq (tAsg (tCB (fun xs H Q => ∃ a n, xs = [V.str a] ∧ PySem.intText? a = some n ∧ a.length ≤ 640 ∧ Q (V.int n) H) (tCons (tVar 0) tNil)) (gName 1))
        (tSeq (tIfS (tTest (tOp (rI0 fun i j => V.bl (decide (j < i))) (tVar 1) (tC (V.int 4294967295)))) (tRet (tC V.non)) tNext) (tRet (tVar 1))) { nx := fun x H' => Q V.non H', rt := Q } (L2.start n_read_number [V.str (S b)]) H := fun c3 => by
      refine ⟨_, rfl, S b, _, rfl, S_int c1.2 c1.1 (by omega), by rw [S_len]; omega, ?_⟩
      have e := num_yes c1.1 c1.2 c2 c3
      refine ⟨_, rfl, _, _, rfl, rfl, _, rfl, iB (fun c => ?_) (fun c => ?_)⟩
      · have := of_decide_eq_true c
        rw [e, if_neg (by unfold PeCode.W; omega)] at q
        exact q
      · have := of_decide_eq_false c
        rw [e, if_pos (by unfold PeCode.W; omega)] at q
        exact ⟨_, rfl, q⟩
    refine iB (fun c => ?_) (fun c => ?_)
    · refine ⟨_, rfl, rfl, _, rfl, ?_⟩
      rw [ne0]
      refine iB (fun d => ?_) (fun d => ?_)
      · rw [num_no3 c (of_decide_eq_true d)] at q
        exact q
      · exact fin (.inr (by have := of_decide_eq_false d; rw [Classical.not_not.mp this]; rfl))
    · exact fin (.inl (num_head c))
end Pb

/-! An instruction's line read, whatever its registers and its constants are called. -/
namespace Pb
open PeCode PeRule
inductive Sec (κ : Type) where
  | no
  | reg (n : Nat)
  | con (k : κ)
structure Raw (κ : Type) where
  op : Op
  a : Nat
  sec : Sec κ
section
variable {κ : Type}
def rawR (nm : Bytes → Option Nat) (con : Bytes → Option κ) (o : Op) (r : List Bytes) : Option (Raw κ) := match r with
  | [a] => if o.two = false ∧ o.con = false then (nm a).map fun x => ⟨o, x, .no⟩ else none
  | [a, b] => if o.two = true then (nm a).bind fun x => (nm b).map fun y => ⟨o, x, .reg y⟩ else if o.con = true then (nm a).bind fun x => (con b).map fun k => ⟨o, x, .con k⟩ else none
  | _ => none
def rawW (nm : Bytes → Option Nat) (con : Bytes → Option κ) (ws : List Bytes) : Option (Raw κ) := match ws with
  | w :: r => (match opOf w with
    | none => none
    | some o => rawR nm con o r)
  | [] => none
theorem rawW_none {nm : Bytes → Option Nat} {con : Bytes → Option κ} {w : Bytes} {r : List Bytes} (h : opOf w = none) : rawW nm con (w :: r) = none := by
  show (match opOf w with
    | none => none
    | some o => rawR nm con o r) = none
  rw [h]
theorem rawW_some {nm : Bytes → Option Nat} {con : Bytes → Option κ} {w : Bytes} {r : List Bytes} {o : Op} (h : opOf w = some o) : rawW nm con (w :: r) = rawR nm con o r := by
  show (match opOf w with
    | none => none
    | some o => rawR nm con o r) = _
  rw [h]
theorem rawR_one {nm : Bytes → Option Nat} {con : Bytes → Option κ} {o : Op} {r : List Bytes} (h1 : o.con = false) (h2 : o.two = false) (h : r.length ≠ 1) : rawR nm con o r = none := by
  match r, h with
  | [], _ => rfl
  | [a], h => exact absurd rfl h
  | [a, b] , _ =>
    show (if o.two = true then _ else if o.con = true then _ else none) = none
    rw [if_neg (by rw [h2]; exact Bool.false_ne_true), if_neg (by rw [h1]; exact Bool.false_ne_true)]
  | a :: b :: c :: r, _ => rfl
theorem rawR_two {nm : Bytes → Option Nat} {con : Bytes → Option κ} {o : Op} {r : List Bytes} (h1 : (o.con || o.two) = true) (h : r.length ≠ 2) : rawR nm con o r = none := by
  match r, h with
  | [], _ => rfl
  | [a], h =>
    show (if o.two = false ∧ o.con = false then _ else none) = none
    rw [if_neg]
    rintro ⟨a, b⟩
    rw [a, b] at h1
    cases h1
  | [a, b] , h => exact absurd rfl h
  | a :: b :: c :: r, _ => rfl
def rawOf (nm : Bytes → Option Nat) (con : Bytes → Option κ) (l : Bytes) : Option (Raw κ) := rawW nm con (piecesAt 32 l)
def Raw.ins (r : Raw Nat) : Ins := match r.sec with
  | .no => ⟨r.op, r.a, 0, 0⟩
  | .reg n => ⟨r.op, r.a, n, 0⟩
  | .con k => ⟨r.op, r.a, 0, k⟩
def Raw.pat (r : Raw Con) : Pat := match r.sec with
  | .no => ⟨r.op, r.a, 0, NIL⟩
  | .reg n => ⟨r.op, r.a, n, NIL⟩
  | .con k => ⟨r.op, r.a, 0, k⟩
/-- the second part is of the word's kind -/
def Raw.fit (r : Raw κ) : Prop := match r.sec with
  | .no => r.op.two = false ∧ r.op.con = false
  | .reg _ => r.op.two = true
  | .con _ => r.op.con = true
theorem two_con {o : Op} (h : o.two = true) : o.con = false := by cases o <;> first | rfl | cases h
theorem con_two {o : Op} (h : o.con = true) : o.two = false := by cases o <;> first | rfl | cases h
theorem insOf_raw (l : Bytes) : insOf l = (rawOf regOf numOf l).map Raw.ins := by
  unfold insOf rawOf rawW rawR
  cases piecesAt 32 l with
  | nil => rfl
  | cons w r =>
    dsimp only
    cases opOf w with
    | none => rfl
    | some o =>
      match r with
      | [] => rfl
      | [a] =>
        dsimp only
        split
        · cases regOf a <;> rfl
        · rfl
      | [a, b] =>
        dsimp only
        split
        · cases regOf a with
          | none => rfl
          | some x => cases regOf b <;> rfl
        · split
          · cases regOf a with
            | none => rfl
            | some x => cases numOf b <;> rfl
          · rfl
      | a :: b :: c :: r => rfl
theorem patOf_raw (con : Bytes → Option Con) (l : Bytes) : patOf con l = (rawOf nameOf con l).map Raw.pat := by
  unfold patOf rawOf rawW rawR
  cases piecesAt 32 l with
  | nil => rfl
  | cons w r =>
    dsimp only
    cases opOf w with
    | none => rfl
    | some o =>
      match r with
      | [] => rfl
      | [a] =>
        dsimp only
        split
        · cases nameOf a <;> rfl
        · rfl
      | [a, b] =>
        dsimp only
        split
        · cases nameOf a with
          | none => rfl
          | some x => cases nameOf b <;> rfl
        · split
          · cases nameOf a with
            | none => rfl
            | some x => cases con b <;> rfl
          · rfl
      | a :: b :: c :: r => rfl
theorem raw_fit {nm : Bytes → Option Nat} {con : Bytes → Option κ} {l : Bytes} {r : Raw κ} (h : rawOf nm con l = some r) : r.fit := by
  unfold rawOf rawW rawR at h
  match hw : piecesAt 32 l, h with
  | [], h => cases h
  | w :: ws, h =>
    dsimp only at h
    cases ho : opOf w with
    | none => rw [ho] at h; cases h
    | some o =>
      rw [ho] at h
      match ws, h with
      | [], h => cases h
      | [a], h =>
        dsimp only at h
        split at h
        · rename_i q
          cases ha : nm a with
          | none => rw [ha] at h; cases h
          | some x =>
            rw [ha] at h
            have e := Option.some.inj h
            rw [← e]
            exact q
        · cases h
      | [a, b], h =>
        dsimp only at h
        split at h
        · rename_i q
          cases ha : nm a with
          | none => rw [ha] at h; cases h
          | some x =>
            cases hb : nm b with
            | none => rw [ha, hb] at h; cases h
            | some y =>
              rw [ha, hb] at h
              have e := Option.some.inj h
              rw [← e]
              exact q
        · split at h
          · rename_i q
            cases ha : nm a with
            | none => rw [ha] at h; cases h
            | some x =>
              cases hb : con b with
              | none => rw [ha, hb] at h; cases h
              | some y =>
                rw [ha, hb] at h
                have e := Option.some.inj h
                rw [← e]
                exact q
          · cases h
      | a :: b :: c :: r, h => cases h
theorem opOf_of (o : Op) : opOf o.word = some o := by cases o <;> decide +kernel
end
/-! ### names by their places -/
theorem find_place (f : Nat → Bytes) (b : Bytes) : ∀ (n s : Nat), (List.range' s n).find? (fun r => f r == b) = (((List.range' s n).map f).findIdx? (· == b)).map (· + s)
  | 0, _ => rfl
  | n + 1, s => by
    rw [List.range'_succ, List.find?_cons, List.map_cons, List.findIdx?_cons, find_place f b n (s + 1)]
    cases h : f s == b with
    | true => simp
    | false =>
      cases List.findIdx? (· == b) (List.map f (List.range' (s + 1) n)) with
      | none => rfl
      | some x =>
        show some (x + (s + 1)) = some (x + 1 + s)
        congr 1
        omega
def REGB : List Bytes := (List.range REGS).map regText
def NAMB : List Bytes := (List.range NAMES).map nameText
theorem regOf_place (b : Bytes) : regOf b = REGB.findIdx? (· == b) := by
  unfold regOf REGB
  rw [List.range_eq_range', find_place]
  cases List.findIdx? (· == b) (List.map regText (List.range' 0 REGS)) <;> rfl
theorem nameOf_place (b : Bytes) : nameOf b = NAMB.findIdx? (· == b) := by
  unfold nameOf NAMB
  rw [List.range_eq_range', find_place]
  cases List.findIdx? (· == b) (List.map nameText (List.range' 0 NAMES)) <;> rfl
end Pb

set_option Elab.async false
set_option linter.all false
set_option maxRecDepth 100000
set_option maxHeartbeats 4000000
namespace Pb
open PySem PySem.Spec PyProof.Rows L2 Evl PbX
/-! ### objects that __init__ fills -/
/-- C(..): the new object's fields -/
def spNew (C : Addr) (n : Nat) (fs : List V → List (Str × V)) : Sp := fun vs H Q _ => ∃ (p dx : Addr) (as : List V), vs = .ref p :: as ∧ as.length = n ∧ H p = some (.ins C dx []) ∧ ∀ H', ExB p H H' → H' p = some (.ins C dx (fs as)) → Q .non H'
theorem spNew_len {C : Addr} {n : Nat} {fs : List V → List (Str × V)} (vs : List V) (H : Hp) (Q : VK) (E : XK) (h : spNew C n fs vs H Q E) : vs.length = n + 1 := by
  obtain ⟨p, dx, as, rfl, e, _⟩ := h
  rw [List.length_cons, e]
theorem mk_new {C : Addr} {n : Nat} {fs : List V → List (Str × V)} {as : List V} {H1 : Hp} {Q : VK} {E : XK} (hn : as.length = n) (q : ∀ x dx H2, H1 x = none → Ex H1 H2 → H2 x = some (.ins C dx (fs as)) → Q (.ref x) H2) :
    ∀ x dx, H1 x = none → H1 dx = none → dx ≠ x → spNew C n fs (.ref x :: as) (upd (upd H1 dx (.own x)) x (.ins C dx [])) (fun v H2 => v = .non ∧ Q (.ref x) H2) E :=
  fun x dx nx nd ne => ⟨x, dx, as, rfl, hn, upd_same, fun H' e h => ⟨rfl, q x dx H' nx (fun b o hb => e b o (ne_of_none hb nx) (by rw [upd_ne (ne_of_none hb nx), upd_ne (ne_of_none hb nd)]; exact hb)) h⟩⟩
theorem mk_newA {C : Addr} {n : Nat} {fs : List V → List (Str × V)} {as : List V} {H1 : Hp} {R : VK} {E : XK} {x dx : Addr} (nx : H1 x = none) (nd : H1 dx = none) (hn : as.length = n) (q : ∀ H2, Ex H1 H2 → H2 x = some (.ins C dx (fs as)) → R .non H2) :
    spNew C n fs (.ref x :: as) (upd (upd H1 dx (.own x)) x (.ins C dx [])) R E :=
  ⟨x, dx, as, rfl, hn, upd_same, fun H' e h => q H' (fun b o hb => e b o (ne_of_none hb nx) (by rw [upd_ne (ne_of_none hb nx), upd_ne (ne_of_none hb nd)]; exact hb)) h⟩
abbrev cIns (K : PySem.W.Frag) : Addr := He.ga K "Instruction"
def fIns (w f s : V) : List (Str × V) := [("word", w), ("first", f), ("second", s)]
def fInsL : List V → List (Str × V)
  | [w, f, s] => fIns w f s
  | _ => []
theorem putIns (w f s : V) : putF "second" s (putF "first" f (putF "word" w [])) = fIns w f s := rfl
theorem lkW (w f s : V) : (fIns w f s).lookup ("word" : Str) = some w := rfl
theorem lkF (w f s : V) : (fIns w f s).lookup ("first" : Str) = some f := rfl
theorem lkS (w f s : V) : (fIns w f s).lookup ("second" : Str) = some s := rfl
theorem G_Instruction_init {P : Program} {w : World} {K : PySem.W.Frag} {mg : Str → Option Value} {base : Heap} (T : Txt w K mg) : Has P w K mg base CX0 1 (He.ma K (He.ga K "Instruction") "__init__") p_Instruction_init (spNew (cIns K) 3 fInsL) := by
  refine T.d_Instruction_init.has sc_Instruction_init (fun vs H Q E h => ?_) (fun cdv A outer s H vs Q E hr h => ⟨_, PSs.nox ((pss_cons (ps_fld (pv 0) (pv 1) rfl)
    (pss_cons (ps_fld (pv 0) (pv 2) rfl)
    (pss_one (ps_fld (pv 0) (pv 3) rfl))))), ?_⟩)
  · exact spNew_len vs H Q E h
  · obtain ⟨p, dx, as, rfl, hn, hp, q⟩ := h
    match as, hn with
    | [w, f, s], _ =>
      refine ⟨_, rfl, _, rfl, p, _, dx, _, rfl, hp, T.cl_Instruction, T.nF_Instruction_word, by show 0 < 1000; decide, ?_⟩
      refine ⟨_, rfl, _, rfl, p, _, dx, _, rfl, upd_same, T.cl_Instruction, T.nF_Instruction_first, by show 1 < 1000; decide, ?_⟩
      refine ⟨_, rfl, _, rfl, p, _, dx, _, rfl, upd_same, T.cl_Instruction, T.nF_Instruction_second, by show 2 < 1000; decide, ?_⟩
      exact q _ (((ExB.refl _ _).upd).upd).upd upd_same
/-! ### names -/
abbrev txV (ns : List PeCode.Bytes) : List V := ns.map fun b => V.str (S b)
theorem txV_flat (ns : List PeCode.Bytes) : (txV ns).all flatV = true := by
  rw [List.all_map]
  exact List.all_eq_true.mpr fun _ _ => rfl
theorem eqV_S (a b : PeCode.Bytes) : eqV (.str (S a)) (.str (S b)) = (a == b) := by
  show (S a == S b) = (a == b)
  rw [Bool.eq_iff_iff, beq_iff_eq, beq_iff_eq, S_eq]
theorem inV_txV (b : PeCode.Bytes) (ns : List PeCode.Bytes) : inV (.str (S b)) (txV ns) = ns.any (· == b) := by
  unfold inV
  rw [List.any_map]
  congr 1
  funext x
  exact eqV_S x b
def spPlaceOf (K : PySem.W.Frag) : Sp := fun vs H Q _ => ∃ (b : PeCode.Bytes) (l : Addr) (ns : List PeCode.Bytes), vs = [.str (S b), .ref l] ∧ SqL K H l (txV ns) ∧ Q (optI (ns.findIdx? (· == b))) H
theorem G_place_of {P : Program} {w : World} {K : PySem.W.Frag} {mg : Str → Option Value} {base : Heap} (T : Txt w K mg) : Has P w K mg base CX0 1 (He.ga K "place_of") p_place_of (spPlaceOf K) := by
  refine T.d_place_of.has sc_place_of (fun vs H Q E h => ?_) (fun cdv A outer s H vs Q E hr h => ⟨_, PSs.nox ((pss_cons (ps_if (pt_cmpR op_in_seq (pv 0) (pv 1) (by rfl)) (pss_one (ps_ret (pe_bm PySem.F.plainAttrs_list PySem.F.slot_list_index PySem.F.type_list_index mt_index (pv 1) (pa_cons (pv 0) pa_nil)))) pss_nil)
    (pss_one (ps_ret pe_non)))), ?_⟩)
  · obtain ⟨b, l, ns, rfl, _⟩ := h
    rfl
  · obtain ⟨b, l, ns, rfl, hl, q⟩ := h
    refine ⟨_, rfl, _, rfl, l, txV ns, rfl, .inl hl, rfl, txV_flat ns, _, rfl, ?_⟩
    show (fun b_1 H1 => if b_1 = true then _ else _) (inV (.str (S b)) (txV ns)) H
    rw [inV_txV]
    refine iB (fun c => ?_) (fun c => ?_)
    · cases e : ns.findIdx? (· == b) with
      | none =>
        rw [List.findIdx?_eq_none_iff] at e
        obtain ⟨x, hx, hb⟩ := List.any_eq_true.mp c
        rw [e x hx] at hb
        cases hb
      | some j =>
        rw [e] at q
        obtain ⟨hj, h1, h2⟩ := List.findIdx?_eq_some_iff_getElem.mp e
        refine ⟨_, rfl, .inl ⟨rfl, _, hl⟩, _, rfl, l, txV ns, .str (S b), j, .str (S ns[j]), rfl, rfl, hl, rfl, txV_flat ns, ?_, ?_, ?_, q⟩
        · rw [List.getElem?_map, List.getElem?_eq_getElem hj]
          rfl
        · rw [eqV_S]
          exact h1
        · intro m z hm hz
          obtain ⟨x, hx, rfl⟩ := map_at hz
          rw [eqV_S]
          have hm2 : m < ns.length := by omega
          have := h2 m hm
          rw [List.getElem?_eq_getElem hm2] at hx
          rw [← Option.some.inj hx]
          simpa using this
    · rw [show ns.findIdx? (· == b) = none from List.findIdx?_eq_none_iff.mpr fun x hx => by
        cases e : x == b with
        | false => rfl
        | true => rw [List.any_eq_true.mpr ⟨x, hx, e⟩] at c; cases c] at q
      exact q
/-! ### an instruction's line -/
theorem con_in (o : PeCode.Op) : inV (.str (S o.word)) [V.str "set", V.str "adc"] = o.con := by cases o <;> decide +kernel
theorem two_in (o : PeCode.Op) : inV (.str (S o.word)) [V.str "mov", V.str "add", V.str "sub", V.str "swp"] = o.two := by cases o <;> decide +kernel
theorem cost_hit {w : World} {K : PySem.W.Frag} {mg : Str → Option Value} (T : Txt w K mg) (o : PeCode.Op) : ∃ u, PySem.W.nsIn K (He.ga K "COSTS") (S o.word) = some (some u) ∧ RelV (.int o.cost) u := by
  cases o with
  | set => exact T.tv_COSTS ("set", .int 1) (by simp)
  | mov => exact T.tv_COSTS ("mov", .int 1) (by simp)
  | add => exact T.tv_COSTS ("add", .int 3) (by simp)
  | sub => exact T.tv_COSTS ("sub", .int 3) (by simp)
  | adc => exact T.tv_COSTS ("adc", .int 2) (by simp)
  | neg => exact T.tv_COSTS ("neg", .int 2) (by simp)
  | swp => exact T.tv_COSTS ("swp", .int 4) (by simp)
theorem op_words : ([Str.ofString "set", Str.ofString "mov", Str.ofString "add", Str.ofString "sub", Str.ofString "adc", Str.ofString "neg", Str.ofString "swp"] : List Str) = [PeCode.Op.set, .mov, .add, .sub, .adc, .neg, .swp].map fun o => S o.word := by decide +kernel
theorem cost_miss {w : World} {K : PySem.W.Frag} {mg : Str → Option Value} (T : Txt w K mg) {b : PeCode.Bytes} (h : PeCode.opOf b = none) : PySem.W.nsIn K (He.ga K "COSTS") (S b) = some none := by
  refine dic_miss T.tk_COSTS fun hm => ?_
  have hm2 : S b ∈ ([Str.ofString "set", Str.ofString "mov", Str.ofString "add", Str.ofString "sub", Str.ofString "adc", Str.ofString "neg", Str.ofString "swp"] : List Str) := hm
  rw [op_words] at hm2
  obtain ⟨o, _, e⟩ := List.mem_map.mp hm2
  rw [← S_inj e, opOf_of] at h
  cases h
/-- what stands in the third field -/
def SecAt {κ : Type} (kr : Hp → V → κ → Prop) (H : Hp) (v : V) : Sec κ → Prop
  | .no => v = .non
  | .reg n => v = .int n
  | .con k => kr H v k
def RawAt (K : PySem.W.Frag) {κ : Type} (kr : Hp → V → κ → Prop) (H : Hp) (v : V) (r : Raw κ) : Prop := ∃ a dx s, v = .ref a ∧ H a = some (.ins (cIns K) dx (fIns (.str (S r.op.word)) (.int r.a) s)) ∧ SecAt kr H s r.sec
def MonoK {κ : Type} (kr : Hp → V → κ → Prop) : Prop := ∀ H H' v k, ExI H H' → kr H v k → kr H' v k
theorem SecAt.mono {κ : Type} {kr : Hp → V → κ → Prop} (m : MonoK kr) {H H' : Hp} (e : ExI H H') {v : V} {s : Sec κ} (h : SecAt kr H v s) : SecAt kr H' v s := by
  cases s with
  | no => exact h
  | reg n => exact h
  | con k => exact m H H' v k e h
theorem RawAt.mono {K : PySem.W.Frag} {κ : Type} {kr : Hp → V → κ → Prop} (m : MonoK kr) {H H' : Hp} (e : ExI H H') {v : V} {r : Raw κ} (h : RawAt K kr H v r) : RawAt K kr H' v r := by
  obtain ⟨a, dx, s, rfl, h1, h2⟩ := h
  exact ⟨a, dx, s, rfl, e a _ _ _ h1, h2.mono m e⟩
/-- what a reader of constants gives -/
def ConV {κ : Type} (kr : Hp → V → κ → Prop) (H : Hp) (v : V) : Option κ → Prop
  | none => v = .non
  | some k => v ≠ .non ∧ kr H v k
def spReader {κ : Type} (kr : Hp → V → κ → Prop) (con : PeCode.Bytes → Option κ) : Sp := fun vs H Q _ => ∃ b : PeCode.Bytes, vs = [.str (S b)] ∧ Lo b ∧ b.length ≤ 100000 ∧ ∀ H' v, Ex H H' → ConV kr H' v (con b) → Q v H'
def RawV (K : PySem.W.Frag) {κ : Type} (kr : Hp → V → κ → Prop) (H : Hp) (v : V) : Option (Raw κ) → Prop
  | none => v = .non
  | some r => RawAt K kr H v r
def spReadIns (K : PySem.W.Frag) {κ : Type} (kr : Hp → V → κ → Prop) (nm : PeCode.Bytes → Option Nat) (con : PeCode.Bytes → Option κ) (ns : List PeCode.Bytes) (f : Addr) : Sp := fun vs H Q _ => ∃ (l : PeCode.Bytes) (n : Addr), vs = [.str (S l), .ref n, .ref f] ∧ Lo l ∧ l.length ≤ 100000 ∧ SqL K H n (txV ns) ∧
  ∀ H' v, Ex H H' → RawV K kr H' v (rawOf nm con l) → Q v H'
theorem pieces_len {c : UInt8} : ∀ (b p : PeCode.Bytes), p ∈ PeCode.piecesAt c b → p.length ≤ b.length
  | [], p, h => by
    have : p = [] := by simpa [PeCode.piecesAt] using h
    rw [this]
    exact Nat.le_refl _
  | x :: l, p, h => by
    cases e : PeCode.piecesAt c l with
    | nil => exact absurd e (pieces_ne c l)
    | cons q r =>
      have ih := fun p hp => pieces_len (c := c) l p hp
      rw [e] at ih
      rw [pieces_cons e] at h
      rw [List.length_cons]
      split at h
      · rcases List.mem_cons.mp h with rfl | h
        · exact Nat.zero_le _
        · have := ih p h
          omega
      · rcases List.mem_cons.mp h with rfl | h
        · have := ih q (List.mem_cons_self ..)
          rw [List.length_cons]
          omega
        · have := ih p (List.mem_cons_of_mem _ h)
          omega
theorem atI_k {α : Type} {xs : List α} {i : Nat} {x : α} (h : xs[i]? = some x) {k : Int} (hk : k = (i : Int)) : atI xs k = some x := by
  subst hk
  exact atI_nat h
theorem atI_zero {α : Type} {x : α} {r : List α} : atI (x :: r) 0 = some x := atI_k (i := 0) rfl rfl
theorem G_read_instruction {P : Program} {w : World} {K : PySem.W.Frag} {mg : Str → Option Value} {base : Heap} (T : Txt w K mg) {κ : Type} {kr : Hp → V → κ → Prop} {nm : PeCode.Bytes → Option Nat} {con : PeCode.Bytes → Option κ} {ns : List PeCode.Bytes} {f : Addr}
    (hnm : ∀ b, nm b = ns.findIdx? (· == b)) (mono : MonoK kr) (HF : Held P w K mg base 3 f (spReader kr con)) : Has P w K mg base CX0 4 (He.ga K "read_instruction") p_read_instruction (spReadIns K kr nm con ns f) := by
  have G_place_of := G_place_of (P := P) (base := base) T
  have G_Instruction_init := G_Instruction_init (P := P) (base := base) T
  have HA : ∀ g sp, (fun g => if g = f then some (spReader kr con) else none) g = some sp → Held P w K mg base 3 g sp := fun g sp e => by
    dsimp only at e
    split at e
    · rename_i q
      rw [q, ← Option.some.inj e]
      exact HF
    · cases e
  refine T.d_read_instruction.has sc_read_instruction (fun vs H Q E h => ?_) (fun cdv A outer s H vs Q E hr h => ⟨_, PSs.nox ((pss_cons (ps_set (i := 3) sc_read_instruction.nd rfl (Or.inl rfl) (pe_split (pv 0) pe_str))
    (pss_cons (ps_set (i := 4) sc_read_instruction.nd rfl (Or.inl rfl) (pe_ix ix_list (pv 3) pe_int (fun _ _ => rfl)))
    (pss_cons (ps_if (pt_cmpR (op_notIn_kd T.t_COSTS.choose_spec.choose_spec) (pv 4) (pe_gr T.g_COSTS) (by rfl)) (pss_one (ps_ret pe_non)) pss_nil)
    (pss_cons (ps_set (i := 5) sc_read_instruction.nd rfl (Or.inl rfl) (pe_or (pe_cmpR op_in_seq (pv 4) (pe_gr T.g_WITH_CONSTANT) (by rfl)) (pe_one (pe_cmpR op_in_seq (pv 4) (pe_gr T.g_WITH_SECOND) (by rfl)))))
    (pss_cons (ps_if (pt_cmpR op_ne (pe_callB call_len_seq (by rfl) T.u_len PySem.boot_len (pa_cons (pv 3) pa_nil)) (pe_ifExp (pt_val (pv 5)) pe_int pe_int) (nomark _)) (pss_one (ps_ret pe_non)) pss_nil)
    (pss_cons (ps_set (i := 6) sc_read_instruction.nd rfl (Or.inl rfl) (pe_callH G_place_of (hr.mono (by decide)) T.g_place_of pass0 (pa_cons (pe_ix ix_list (pv 3) pe_int (fun _ _ => rfl)) (pa_cons (pv 1) pa_nil))))
    (pss_cons (ps_if (pt_cmpR op_isN (pv 6) pe_non (nomark _)) (pss_one (ps_ret pe_non)) pss_nil)
    (pss_cons (ps_if (pt_not (pt_val (pv 5))) (pss_one (ps_ret (pe_makeH T.k_Instruction G_Instruction_init (hr.mono (by decide)) T.g_Instruction pass0 (pa_cons (pv 4) (pa_cons (pv 6) (pa_cons pe_non pa_nil)))))) pss_nil)
    (pss_cons (ps_set (i := 7) sc_read_instruction.nd rfl (Or.inl rfl) (pe_ifExp (pt_cmpR op_in_seq (pv 4) (pe_gr T.g_WITH_CONSTANT) (by rfl)) (pe_callA (i := 2) HA (hr.mono (by decide)) rfl (by first | exact .inl rfl | exact .inr (.inl rfl)) (pa_cons (pe_ix ix_list (pv 3) pe_int (fun _ _ => rfl)) pa_nil)) (pe_callH G_place_of (hr.mono (by decide)) T.g_place_of pass0 (pa_cons (pe_ix ix_list (pv 3) pe_int (fun _ _ => rfl)) (pa_cons (pv 1) pa_nil)))))
    (pss_cons (ps_if (pt_cmpR op_isN (pv 7) pe_non (nomark _)) (pss_one (ps_ret pe_non)) pss_nil)
    (pss_one (ps_ret (pe_makeH T.k_Instruction G_Instruction_init (hr.mono (by decide)) T.g_Instruction pass0 (pa_cons (pv 4) (pa_cons (pv 6) (pa_cons (pv 7) pa_nil))))))))))))))))), ?_⟩)
  · obtain ⟨l, n, rfl, _⟩ := h
    rfl
  · obtain ⟨l, n, rfl, lo, hl, hn, q⟩ := h
    refine ⟨_, rfl, ⟨_, rfl⟩, S l, _, rfl, rfl, by decide +kernel, szl (by rw [S_len]; omega), fun p hp => ?_⟩
    have e1 := Ex.new (o := .lst ((Txt.split (S l) (Str.ofString " ")).map V.str)) hp
    have hp1 : upd H p (.lst ((Txt.split (S l) (Str.ofString " ")).map V.str)) p = some (.lst (txV (PeCode.piecesAt 32 l))) := by
      rw [upd_same, L_blank, S_split, List.map_map]
      rfl
    generalize upd H p (.lst ((Txt.split (S l) (Str.ofString " ")).map V.str)) = H1 at e1 hp1 ⊢
    unfold rawOf at q
    have los := pieces_lo (c := 32) lo
    have lens := fun p hp => pieces_len (c := 32) l p hp
    cases hw : PeCode.piecesAt 32 l with
    | nil => exact absurd hw (pieces_ne 32 l)
    | cons w r =>
      rw [hw] at hp1 q los lens
      refine ⟨_, rfl, p, _, 0, .str (S w), rfl, rfl, SqL.of hp1, atI_zero, ?_⟩
      cases ho : PeCode.opOf w with
      | none =>
        refine ⟨_, rfl, S w, _, rfl, rfl, cost_miss T ho, _, rfl, ?_⟩
        exact q H1 _ e1 (by rw [rawW_none ho]; rfl)
      | some o =>
        have ew := opOf_word ho
        rw [rawW_some ho] at q
        obtain ⟨u, hu, _⟩ := cost_hit T o
        rw [ew] at hu
        refine ⟨_, rfl, S w, _, rfl, rfl, hu, _, rfl, ?_⟩
        refine (ev_orV (a := o.con) (b := o.two) (ev_is (ev_op (ev_var rfl) ev_c (rv_isT (T.tp_WITH_CONSTANT _) rfl rfl)) (by rw [← ew, con_in])) (fun _ => ev_is (ev_op (ev_var rfl) ev_c (rv_isT (T.tp_WITH_SECOND _) rfl rfl)) (by rw [← ew, two_in]))) H1 (Ex.refl _) _ (fun H2 e2 => ?_)
        have hp2 := e2 p _ hp1
        have e3 := e1.trans e2
        refine ⟨_, rfl, p, _, rfl, .inl (SqL.of hp2), ?_⟩
        refine ⟨_, rfl, _, rfl, iB (fun c => ?_) (fun c => ?_)⟩
        · -- three words
          refine ⟨rfl, _, rfl, iB (fun c2 => ?_) (fun c2 => ?_)⟩
          · exact q H2 .non e3 (by
              rw [rawR_two c fun z => by
                rw [decide_eq_true (by show V.int ((txV (w :: r)).length : Int) = V.int 3; rw [List.length_map, List.length_cons, z]; rfl)] at c2
                cases c2]
              exact rfl)
          have hr2 : r.length = 2 := by
            have c3 : decide (V.int ((txV (w :: r)).length : Int) = V.int 3) = true := by simpa using c2
            have c4 := V.int.inj (of_decide_eq_true c3)
            rw [List.length_map, List.length_cons] at c4
            omega
          match r, hr2 with
          | [a, b], _ =>
            refine ⟨_, rfl, p, _, 1, .str (S a), rfl, rfl, SqL.of hp2, atI_k (i := 1) rfl rfl, _, rfl, a, n, ns, rfl, ex_l e3 hn, ?_⟩
            rw [← hnm]
            refine ⟨_, rfl, rfl, _, rfl, ?_⟩
            cases ha : nm a with
            | none =>
              refine q H2 .non e3 ?_
              have : rawR nm con o [a, b] = none := by
                show (if o.two = true then (nm a).bind _ else if o.con = true then (nm a).bind _ else none) = none
                rw [ha]
                split
                · rfl
                · split <;> rfl
              rw [this]
              exact rfl
            | some x =>
              refine ⟨_, rfl, _, rfl, ?_⟩
              rw [c]
              refine ⟨_, rfl, _, _, rfl, .inr (T.tp_WITH_CONSTANT _), rfl, rfl, _, rfl, ?_⟩
              show (fun b_1 H1 => if b_1 = true then _ else _) (inV (.str (S w)) [V.str "set", V.str "adc"]) H2
              rw [← ew, con_in]
              refine iB (fun c3 => ?_) (fun c3 => ?_)
              · refine ⟨f, _, rfl, if_pos rfl, _, rfl, p, _, 2, .str (S b), rfl, rfl, SqL.of hp2, atI_k (i := 2) rfl rfl, b, rfl, los b (by simp), Nat.le_trans (lens b (by simp)) hl, fun H3 v e4 hv => ?_⟩
                have er : rawR nm con o [a, b] = (con b).map fun k => ⟨o, x, .con k⟩ := by
                  show (if o.two = true then _ else if o.con = true then (nm a).bind _ else none) = _
                  rw [if_neg (by rw [con_two c3]; exact Bool.false_ne_true), if_pos c3, ha]
                  rfl
                rw [er] at q
                refine ⟨_, rfl, rfl, _, rfl, ?_⟩
                cases hc : con b with
                | none =>
                  rw [hc] at hv q
                  have hv2 : v = .non := hv
                  rw [hv2]
                  exact q H3 .non (e3.trans e4) rfl
                | some k =>
                  rw [hc] at hv q
                  refine iF (decide_eq_false hv.1) ?_
                  refine ⟨_, rfl, _, rfl, _, rfl, mk_new rfl fun y dy H4 ny e5 hy => q H4 _ ((e3.trans e4).trans e5) ⟨y, dy, v, rfl, ?_, mono _ _ _ _ (ExI.of e5) hv.2⟩⟩
                  rw [hy]
                  rfl
              · have ctwo : o.two = true := by rw [c3] at c; exact c
                refine ⟨_, rfl, p, _, 2, .str (S b), rfl, rfl, SqL.of hp2, atI_k (i := 2) rfl rfl, _, rfl, b, n, ns, rfl, ex_l e3 hn, ?_⟩
                rw [← hnm]
                have er : rawR nm con o [a, b] = (nm b).map fun k => ⟨o, x, .reg k⟩ := by
                  show (if o.two = true then (nm a).bind _ else _) = _
                  rw [if_pos ctwo, ha]
                  rfl
                rw [er] at q
                refine ⟨_, rfl, rfl, _, rfl, ?_⟩
                cases hc : nm b with
                | none =>
                  rw [hc] at q
                  exact q H2 .non e3 rfl
                | some k =>
                  rw [hc] at q
                  refine iF (decide_eq_false (by intro z; cases z)) ?_
                  refine ⟨_, rfl, _, rfl, _, rfl, mk_new rfl fun y dy H4 ny e5 hy => q H4 _ (e3.trans e5) ⟨y, dy, _, rfl, ?_, rfl⟩⟩
                  rw [hy]
                  rfl
        · -- two words
          have c1 : o.con = false ∧ o.two = false := by simpa using c
          refine ⟨rfl, _, rfl, iB (fun c2 => ?_) (fun c2 => ?_)⟩
          · exact q H2 .non e3 (by
              rw [rawR_one c1.1 c1.2 fun z => by
                rw [decide_eq_true (by show V.int ((txV (w :: r)).length : Int) = V.int 2; rw [List.length_map, List.length_cons, z]; rfl)] at c2
                cases c2]
              exact rfl)
          have hr2 : r.length = 1 := by
            have c3 : decide (V.int ((txV (w :: r)).length : Int) = V.int 2) = true := by simpa using c2
            have c4 := V.int.inj (of_decide_eq_true c3)
            rw [List.length_map, List.length_cons] at c4
            omega
          match r, hr2 with
          | [a], _ =>
            refine ⟨_, rfl, p, _, 1, .str (S a), rfl, rfl, SqL.of hp2, atI_k (i := 1) rfl rfl, _, rfl, a, n, ns, rfl, ex_l e3 hn, ?_⟩
            rw [← hnm]
            have er : rawR nm con o [a] = (nm a).map fun x => ⟨o, x, .no⟩ := by
              show (if o.two = false ∧ o.con = false then _ else none) = _
              rw [if_pos ⟨c1.2, c1.1⟩]
            rw [er] at q
            refine ⟨_, rfl, rfl, _, rfl, ?_⟩
            cases ha : nm a with
            | none =>
              rw [ha] at q
              exact q H2 .non e3 rfl
            | some x =>
              rw [ha] at q
              refine iF (decide_eq_false (by intro z; cases z)) ?_
              refine ⟨_, rfl, _, rfl, ?_⟩
              rw [c]
              refine ⟨_, rfl, _, rfl, mk_new rfl fun y dy H4 ny e5 hy => q H4 _ (e3.trans e5) ⟨y, dy, _, rfl, ?_, rfl⟩⟩
              rw [hy, ← ew]
              rfl
end Pb

set_option Elab.async false
set_option linter.all false
set_option maxRecDepth 100000
set_option maxHeartbeats 4000000
namespace Pb
open PySem PySem.Spec PyProof.Rows L2 Evl PbX
/-! ### lists whose items stand for things -/
inductive All2 {α β : Type} (R : α → β → Prop) : List α → List β → Prop where
  | nil : All2 R [] []
  | cons {a : α} {b : β} {as : List α} {bs : List β} : R a b → All2 R as bs → All2 R (a :: as) (b :: bs)
section
variable {α β : Type} {R R' : α → β → Prop}
theorem All2.mono (m : ∀ a b, R a b → R' a b) : ∀ {as : List α} {bs : List β}, All2 R as bs → All2 R' as bs
  | _, _, .nil => .nil
  | _, _, .cons h t => .cons (m _ _ h) (t.mono m)
theorem All2.length : ∀ {as : List α} {bs : List β}, All2 R as bs → as.length = bs.length
  | _, _, .nil => rfl
  | _, _, .cons _ t => by rw [List.length_cons, List.length_cons, t.length]
theorem All2.append : ∀ {as as' : List α} {bs bs' : List β}, All2 R as bs → All2 R as' bs' → All2 R (as ++ as') (bs ++ bs')
  | _, _, _, _, .nil, u => u
  | _, _, _, _, .cons h t, u => .cons h (t.append u)
theorem All2.snoc {as : List α} {bs : List β} {a : α} {b : β} (t : All2 R as bs) (h : R a b) : All2 R (as ++ [a]) (bs ++ [b]) := t.append (.cons h .nil)
theorem All2.take : ∀ {as : List α} {bs : List β} (n : Nat), All2 R as bs → All2 R (as.take n) (bs.take n)
  | _, _, 0, _ => .nil
  | _, _, _ + 1, .nil => .nil
  | _, _, n + 1, .cons h t => .cons h (t.take n)
theorem All2.drop : ∀ {as : List α} {bs : List β} (n : Nat), All2 R as bs → All2 R (as.drop n) (bs.drop n)
  | _, _, 0, t => t
  | _, _, _ + 1, .nil => .nil
  | _, _, n + 1, .cons _ t => t.drop n
theorem All2.at_ : ∀ {as : List α} {bs : List β} {i : Nat} {a : α}, All2 R as bs → as[i]? = some a → ∃ b, bs[i]? = some b ∧ R a b
  | _, _, 0, a, .cons h t, e => by
    have e1 : _ = a := Option.some.inj e
    subst e1
    exact ⟨_, rfl, h⟩
  | _, _, i + 1, a, .cons _ t, e => t.at_ (i := i) e
theorem All2.map_r {γ : Type} {S : α → γ → Prop} {f : β → γ} (m : ∀ a b, R a b → S a (f b)) : ∀ {as : List α} {bs : List β}, All2 R as bs → All2 S as (bs.map f)
  | _, _, .nil => .nil
  | _, _, .cons h t => .cons (m _ _ h) (t.map_r m)
end
theorem readEach_cons {α : Type} {f : PeCode.Bytes → Option α} {i : Nat} {x : PeCode.Bytes} {l : List PeCode.Bytes} : PeCode.readEach f i (x :: l) = match f x with
  | none => .error i
  | some y => match PeCode.readEach f (i + 1) l with
    | .error k => .error k
    | .ok r => .ok (y :: r) := rfl
def joinE {α : Type} (a : List α) : Except Nat (List α) → Except Nat (List α)
  | .error k => .error k
  | .ok r => .ok (a ++ r)
/-- the raw instructions of lines -/
def spReadInss (K : PySem.W.Frag) {κ : Type} (kr : Hp → V → κ → Prop) (nm : PeCode.Bytes → Option Nat) (con : PeCode.Bytes → Option κ) (ns : List PeCode.Bytes) (f : Addr) : Sp := fun vs H Q E => ∃ (a n : Addr) (s : Nat) (ls : List PeCode.Bytes), vs = [.ref a, .int s, .ref n, .ref f] ∧
  SqL K H a (txV ls) ∧ ls.length ≤ 100000 ∧ (∀ l ∈ ls, Lo l ∧ l.length ≤ 100000) ∧ SqL K H n (txV ns) ∧ (∀ k, PeCode.readEach (rawOf nm con) s ls = .error k → Refused K E H [.int (-6), .int k]) ∧
  (∀ rs, PeCode.readEach (rawOf nm con) s ls = .ok rs → ∀ H' p vs, H p = none → Ex H H' → H' p = some (.lst vs) → All2 (RawAt K kr H') vs rs → Q (.ref p) H')
theorem G_read_instructions {P : Program} {w : World} {K : PySem.W.Frag} {mg : Str → Option Value} {base : Heap} (T : Txt w K mg) {κ : Type} {kr : Hp → V → κ → Prop} {nm : PeCode.Bytes → Option Nat} {con : PeCode.Bytes → Option κ} {ns : List PeCode.Bytes} {f : Addr}
    (hnm : ∀ b, nm b = ns.findIdx? (· == b)) (mono : MonoK kr) (HF : Held P w K mg base 3 f (spReader kr con)) : Has P w K mg base (L2.CX P w) 5 (He.ga K "read_instructions") p_read_instructions (spReadInss K kr nm con ns f) := by
  have G_read_instruction := G_read_instruction T hnm mono HF
  have G_NotReadable_init := G_NotReadable_init (P := P) (base := base) T
  refine T.d_read_instructions.hasX sc_read_instructions (fun vs H Q E h => ?_) (fun cdv A outer s H vs Q E hr h => ⟨_, (pss_cons (ps_set (i := 4) sc_read_instructions.nd rfl (Or.inl rfl) (pe_lst pa_nil))
    (pss_cons (ps_for (passes_of rfl) rfl (pi_enum (by rfl) T.u_enumerate (pa_cons (pv 0) pa_nil)) (pg_tup rfl (pgs_cons (pg_name (i := 5) sc_read_instructions.nd rfl (Or.inl rfl)) (pgs_cons (pg_name (i := 6) sc_read_instructions.nd rfl (Or.inl rfl)) pgs_nil))) (pss_cons (ps_set (i := 7) sc_read_instructions.nd rfl (Or.inl rfl) (pe_callH G_read_instruction (hr.mono (by decide)) T.g_read_instruction pass0 (pa_cons (pv 6) (pa_cons (pv 2) (pa_cons (pv 3) pa_nil)))))
    (pss_cons (ps_if (pt_cmpR op_isN (pv 7) pe_non (nomark _)) (pss_one (ps_raise rfl (takes_of rfl rfl rfl rfl) (pmk_cH T.x_NotReadable G_NotReadable_init (hr.mono (by decide)) T.g_NotReadable (pa_cons (pe_op op_add (pv 1) (pv 5)) pa_nil)))) pss_nil)
    (pss_one (ps_expr (pe_bm PySem.F.plainAttrs_list PySem.F.slot_list_append PySem.F.type_list_append mt_append (pv 4) (pa_cons (pv 7) pa_nil)))))))
    (pss_one (ps_ret (pv 4))))), ?_⟩)
  · obtain ⟨a, n, s, ls, rfl, _⟩ := h
    rfl
  · obtain ⟨a, n, st, ls, rfl, ha, hls, hlo, hn, qE, qV⟩ := h
    refine ⟨by show 0 ≤ sizeLine; exact Nat.zero_le _, fun p hp => ?_⟩
    refine ⟨_, rfl, a, txV ls, rfl, ex_l (Ex.new hp) ha, ?_⟩
    refine for_it (walk_enum (a := a) (xs := txV ls)) (fun i σ H1 => (∃ x y z, σ = [some (.ref a), some (.int st), some (.ref n), some (.ref f), some (.ref p), x, y, z]) ∧ Ex H H1 ∧
      ∃ vs rs, H1 p = some (.lst vs) ∧ vs.length ≤ i ∧ All2 (RawAt K kr H1) vs rs ∧ PeCode.readEach (rawOf nm con) st ls = joinE rs (PeCode.readEach (rawOf nm con) (st + i) (ls.drop i))) ?_ (fun i σ H1 _ q => ex_l q.2.1 ha) ?_ ?_
    · refine ⟨⟨_, _, _, rfl⟩, Ex.new hp, [], [], upd_same, Nat.le_refl _, .nil, ?_⟩
      show _ = joinE [] (PeCode.readEach (rawOf nm con) st ls)
      cases PeCode.readEach (rawOf nm con) st ls <;> rfl
    · rintro i v σ H1 H2 hi ⟨⟨x, y, z, rfl⟩, e1, vs, rs, hv, hvl, hall, hre⟩ ⟨U, u1, u2, rfl, hU, rfl, hu1, hu2⟩
      obtain ⟨l, hl, rfl⟩ := map_at hu2
      have hu1' : u1 = .int (i : Nat) := (Option.some.inj hu1).symm
      subst hu1'
      have e2 := e1.trans (Ex.new (o := .tup [.int (i : Nat), .str (S l)]) hU)
      have hi2 : i < ls.length := by rw [List.length_map] at hi; exact hi
      have hd : ls.drop i = l :: ls.drop (i + 1) := by
        rw [List.drop_eq_getElem_cons hi2]
        rw [List.getElem?_eq_getElem hi2] at hl
        rw [Option.some.inj hl]
      rw [hd, readEach_cons] at hre
      have hlm := hlo l (List.mem_of_getElem? hl)
      refine ⟨U, _, rfl, SqT.of upd_same, rfl, _, _, rfl, _, _, rfl, rfl, ?_⟩
      refine ⟨_, rfl, _, rfl, _, rfl, l, n, rfl, hlm.1, hlm.2, ex_l e2 hn, fun H3 v e3 hv3 => ?_⟩
      refine ⟨_, rfl, rfl, _, rfl, ?_⟩
      cases hraw : rawOf nm con l with
      | none =>
        rw [hraw] at hv3 hre
        have hv4 : v = .non := hv3
        subst hv4
        refine ⟨_, rfl, _, rfl, _, _, rfl, rfl, ?_⟩
        refine mkO_ref T.x_NotReadable ((qE (st + i) hre).mono (e2.trans e3)) rfl (by decide) (by show 2 ≤ 1000; decide) fun _ _ => ⟨_, rfl, ?_⟩
        rfl
      | some r =>
        rw [hraw] at hv3 hre
        obtain ⟨b, dx, sc, rfl, hb, hsec⟩ := hv3
        refine iF (decide_eq_false (by intro z; cases z)) ?_
        have hp3 : H3 p = some (.lst vs) := e3 p _ (by rw [upd_ne (ne_of_none hv hU)]; exact hv)
        refine ⟨_, rfl, .inl ⟨rfl, _, SqL.of hp3⟩, _, rfl, p, vs, _, rfl, rfl, hp3, szlt (by omega), ?_⟩
        have e4 : ExB p H3 (upd H3 p (.lst (vs ++ [.ref b]))) := (ExB.refl p H3).upd
        refine ⟨⟨_, _, _, rfl⟩, (e2.trans e3).mut hp, vs ++ [.ref b], rs ++ [r], upd_same, ?_, ?_, ?_⟩
        · rw [List.length_append]
          exact Nat.add_le_add_right hvl 1
        · have hex : Ex H1 H3 := (Ex.new hU).trans e3
          refine All2.snoc (hall.mono fun v r h => ?_) ?_
          · exact h.mono mono ((ExI.of hex).trans (ExI.lst hp3))
          · exact RawAt.mono mono (ExI.lst hp3) ⟨b, dx, sc, rfl, hb, hsec⟩
        · rw [hre]
          show _ = joinE (rs ++ [r]) (PeCode.readEach (rawOf nm con) (st + (i + 1)) (ls.drop (i + 1)))
          rw [← Nat.add_assoc]
          cases PeCode.readEach (rawOf nm con) (st + i + 1) (ls.drop (i + 1)) with
          | error k => rfl
          | ok q => exact congrArg Except.ok (by simp)
    · rintro σ H1 ⟨⟨x, y, z, rfl⟩, e1, vs, rs, hv, hvl, hall, hre⟩
      rw [List.length_map, List.drop_length] at hre
      have hre2 : PeCode.readEach (rawOf nm con) st ls = .ok rs := by
        rw [hre]
        exact congrArg Except.ok (List.append_nil _)
      exact ⟨_, rfl, qV rs hre2 H1 p vs hp e1 hv hall⟩
end Pb

set_option Elab.async false
set_option linter.all false
set_option maxRecDepth 100000
set_option maxHeartbeats 4000000
namespace Pb
open PySem PySem.Spec PyProof.Rows L2 Evl PbX
/-! ### code -/
def krN (_ : Hp) (v : V) (k : Nat) : Prop := v = .int k
theorem krN_mono : MonoK krN := fun _ _ _ _ _ h => h
/-- the third field of an instruction of the machine -/
def secI (i : PeCode.Ins) : V := if i.op.two = true then .int i.b else if i.op.con = true then .int i.k else .non
def InsAt (K : PySem.W.Frag) (H : Hp) (v : V) (i : PeCode.Ins) : Prop := ∃ a dx, v = .ref a ∧ H a = some (.ins (cIns K) dx (fIns (.str (S i.op.word)) (.int i.a) (secI i)))
theorem InsAt.mono {K : PySem.W.Frag} {H H' : Hp} (e : ExI H H') {v : V} {i : PeCode.Ins} (h : InsAt K H v i) : InsAt K H' v i := by
  obtain ⟨a, dx, rfl, h1⟩ := h
  exact ⟨a, dx, rfl, e _ _ _ _ h1⟩
theorem insAt_raw {K : PySem.W.Frag} {H : Hp} {v : V} {r : Raw Nat} (f : r.fit) (h : RawAt K krN H v r) : InsAt K H v r.ins := by
  obtain ⟨a, dx, s, rfl, h1, h2⟩ := h
  obtain ⟨op, x, sec⟩ := r
  refine ⟨a, dx, rfl, ?_⟩
  cases sec with
  | no =>
    have f2 : op.two = false ∧ op.con = false := f
    have hs : s = .non := h2
    rw [h1, hs]
    show _ = some (HO.ins (cIns K) dx (fIns (.str (S op.word)) (.int x) (if op.two = true then .int ((0 : Nat) : Int) else if op.con = true then .int ((0 : Nat) : Int) else .non)))
    rw [if_neg (by rw [f2.1]; exact Bool.false_ne_true), if_neg (by rw [f2.2]; exact Bool.false_ne_true)]
  | reg n =>
    have f2 : op.two = true := f
    have hs : s = .int n := h2
    rw [h1, hs]
    show _ = some (HO.ins (cIns K) dx (fIns (.str (S op.word)) (.int x) (if op.two = true then .int (n : Int) else if op.con = true then .int ((0 : Nat) : Int) else .non)))
    rw [if_pos f2]
  | con k =>
    have f2 : op.con = true := f
    have hs : s = .int k := h2
    rw [h1, hs]
    show _ = some (HO.ins (cIns K) dx (fIns (.str (S op.word)) (.int x) (if op.two = true then .int ((0 : Nat) : Int) else if op.con = true then .int (k : Int) else .non)))
    rw [if_neg (by rw [con_two f2]; exact Bool.false_ne_true), if_pos f2]
def mapE {α β : Type} (g : α → β) : Except Nat (List α) → Except Nat (List β)
  | .error k => .error k
  | .ok rs => .ok (rs.map g)
theorem readEach_map {α β : Type} {f : PeCode.Bytes → Option α} {h : PeCode.Bytes → Option β} {g : α → β} (e : ∀ l, h l = (f l).map g) : ∀ (ls : List PeCode.Bytes) (i : Nat), PeCode.readEach h i ls = mapE g (PeCode.readEach f i ls)
  | [], _ => rfl
  | x :: ls, i => by
    rw [readEach_cons, readEach_cons, e]
    cases f x with
    | none => rfl
    | some y =>
      show (match PeCode.readEach h (i + 1) ls with
        | .error k => Except.error k
        | .ok r => .ok (g y :: r)) = _
      rw [readEach_map e ls (i + 1)]
      cases PeCode.readEach f (i + 1) ls <;> rfl
theorem readEach_all {α : Type} {f : PeCode.Bytes → Option α} {p : α → Prop} (h : ∀ l a, f l = some a → p a) : ∀ {ls : List PeCode.Bytes} {i : Nat} {rs : List α}, PeCode.readEach f i ls = .ok rs → ∀ r ∈ rs, p r
  | [], _, rs, e, r, hr => by
    have e2 : [] = rs := by injection e
    rw [← e2] at hr
    cases hr
  | x :: ls, i, rs, e, r, hr => by
    rw [readEach_cons] at e
    cases hx : f x with
    | none => rw [hx] at e; cases e
    | some y =>
      rw [hx] at e
      cases he : PeCode.readEach f (i + 1) ls with
      | error k => rw [he] at e; cases e
      | ok q =>
        rw [he] at e
        have e2 : y :: q = rs := by injection e
        rw [← e2] at hr
        rcases List.mem_cons.mp hr with rfl | hr
        · exact h x r hx
        · exact readEach_all h he r hr
theorem all2_mem {α β : Type} {R R' : α → β → Prop} {as : List α} {bs : List β} (t : All2 R as bs) (m : ∀ a b, b ∈ bs → R a b → R' a b) : All2 R' as bs := by
  induction t with
  | nil => exact .nil
  | cons h t ih => exact .cons (m _ _ (List.mem_cons_self ..) h) (ih fun a b hb => m a b (List.mem_cons_of_mem _ hb))
/-- code, item by item -/
def CodeV (K : PySem.W.Frag) (H : Hp) (vs : List V) (c : PeCode.Code) : Prop := All2 (InsAt K H) vs c
theorem CodeV.mono {K : PySem.W.Frag} {H H' : Hp} (e : ExI H H') {vs : List V} {c : PeCode.Code} (h : CodeV K H vs c) : CodeV K H' vs c := All2.mono (fun _ _ => InsAt.mono e) h
theorem codeV_raw {K : PySem.W.Frag} {H : Hp} {vs : List V} {rs : List (Raw Nat)} (f : ∀ r ∈ rs, r.fit) (h : All2 (RawAt K krN H) vs rs) : CodeV K H vs (rs.map Raw.ins) :=
  All2.map_r (R := fun v r => RawAt K krN H v r ∧ r.fit) (fun v r q => insAt_raw q.2 q.1) (all2_mem h fun v r hr q => ⟨q, f r hr⟩)
theorem Has.imp {P : Program} {w : World} {K : PySem.W.Frag} {mg : Str → Option Value} {base : Heap} {CX : CXT} {k : Nat} {f : Addr} {ps : List Str} {sp sp' : Sp} (G : Has P w K mg base CX k f ps sp) (h : ∀ vs H Q E, sp' vs H Q E → sp vs H Q E) : Has P w K mg base CX k f ps sp' := by
  obtain ⟨fd, F, b⟩ := G.ex
  exact ⟨⟨fd, F.imp h, b⟩, G.kp⟩
theorem Has.held {P : Program} {w : World} {K : PySem.W.Frag} {mg : Str → Option Value} {base : Heap} {j k : Nat} {f : Addr} {ps : List Str} {sp : Sp} (G : Has P w K mg base CX0 j f ps sp) (h : j ≤ k) : Held P w K mg base k f sp := by
  obtain ⟨fd, F, b⟩ := G.ex
  exact ⟨fd, ps, F.mono h, G.kp, b⟩
theorem held_number {P : Program} {w : World} {K : PySem.W.Frag} {mg : Str → Option Value} {base : Heap} (T : Txt w K mg) : Held P w K mg base 3 (He.ga K "read_number") (spReader krN PeCode.numOf) := by
  refine Has.held ((G_read_number T).imp fun vs H Q E h => ?_) (by decide)
  obtain ⟨b, rfl, lo, hb, q⟩ := h
  refine ⟨b, rfl, lo, hb, q H _ (Ex.refl H) ?_⟩
  cases PeCode.numOf b with
  | none => rfl
  | some n => exact ⟨(by intro z; cases z), rfl⟩
theorem regs_V : ([V.str "r0", V.str "r1", V.str "r2", V.str "r3", V.str "r4", V.str "r5", V.str "r6", V.str "r7"] : List V) = txV REGB := by decide +kernel
def spReadCodeLine (K : PySem.W.Frag) : Sp := fun vs H Q E => ∃ l : PeCode.Bytes, vs = [.str (S l)] ∧ Lo l ∧ l.length ≤ 100000 ∧ (PeCode.insOf l = none → Refused K E H [.int (-6), .int 0]) ∧
  ∀ i, PeCode.insOf l = some i → ∀ H' v, Ex H H' → InsAt K H' v i → Q v H'
theorem G_read_code_line {P : Program} {w : World} {K : PySem.W.Frag} {mg : Str → Option Value} {base : Heap} (T : Txt w K mg) : Has P w K mg base (L2.CX P w) 6 (He.ga K "read_code_line") p_read_code_line (spReadCodeLine K)  := by
  have G_read_instructions := G_read_instructions (P := P) (base := base) T regOf_place krN_mono (held_number T)
  refine T.d_read_code_line.hasX sc_read_code_line (fun vs H Q E h => ?_) (fun cdv A outer s H vs Q E hr h => ⟨_, ((pss_one (ps_ret (pe_ix ix_list (pe_callH G_read_instructions (hr.mono (by decide)) T.g_read_instructions (passes_call (takes_of rfl rfl rfl rfl) (fun _ _ _ _ h => h)) (pa_cons (pe_lst (pa_cons (pv 0) pa_nil)) (pa_cons pe_int (pa_cons (pe_callTy call_list_of (by rfl) T.u_list (by decide +kernel) (pa_cons (pe_gr T.g_REGISTERS) pa_nil)) (pa_cons (pe_gr T.g_read_number) pa_nil))))) pe_int (fun _ _ => rfl))))), ?_⟩)
  · obtain ⟨l, rfl, _⟩ := h
    rfl
  · obtain ⟨l, rfl, lo, hl, qE, qV⟩ := h
    refine ⟨_, rfl, by show 1 ≤ sizeLine; decide, fun p hp => ⟨_, _, rfl, .inr (T.tp_REGISTERS _), fun p2 hp2 => ?_⟩⟩
    have e2 := (Ex.new (o := .lst [.str (S l)]) hp).trans (Ex.new (o := .lst [V.str "r0", V.str "r1", V.str "r2", V.str "r3", V.str "r4", V.str "r5", V.str "r6", V.str "r7"]) hp2)
    refine ⟨p, p2, 0, [l], rfl, SqL.of ?_, by show 1 ≤ 100000; decide, ?_, SqL.of ?_, ?_, ?_⟩
    · rw [upd_ne (ne_of_none upd_same hp2), upd_same]
      rfl
    · intro l' hl'
      rw [List.mem_singleton.mp hl']
      exact ⟨lo, hl⟩
    · rw [upd_same, regs_V]
    · intro k hk
      have hn : PeCode.insOf l = none ∧ k = 0 := by
        rw [insOf_raw]
        rw [readEach_cons] at hk
        cases hx : rawOf PeCode.regOf PeCode.numOf l with
        | none => rw [hx] at hk; exact ⟨rfl, by injection hk with hk; exact hk.symm⟩
        | some y => rw [hx] at hk; cases hk
      rw [hn.2]
      exact (qE hn.1).mono e2
    · intro rs hk H' p3 vs hp3 e3 hv hall
      rw [readEach_cons] at hk
      cases hx : rawOf PeCode.regOf PeCode.numOf l with
      | none => rw [hx] at hk; cases hk
      | some y =>
        rw [hx] at hk
        have ers : [y] = rs := by injection hk
        subst ers
        cases hall with
        | @cons v _ vr _ h1 h2 =>
          cases h2
          refine ⟨p3, _, 0, v, rfl, rfl, SqL.of hv, atI_zero, ?_⟩
          exact qV y.ins (by rw [insOf_raw, hx]; rfl) H' v (e2.trans e3) (insAt_raw (raw_fit hx) h1)
theorem readCode_eq (b : PeCode.Bytes) : PeCode.readCode b = (match PeCode.readEach PeCode.insOf 0 ((PeCode.piecesAt 10 b).dropLast) with
  | .error k => .error k
  | .ok c => if openEnd b = true then .error ((PeCode.piecesAt 10 b).length - 1) else .ok c) := by
  unfold PeCode.readCode PeCode.linesOf openEnd
  dsimp only
  by_cases h : (PeCode.piecesAt 10 b).getLast? = some []
  · rw [if_pos h]
    dsimp only
    cases PeCode.readEach PeCode.insOf 0 ((PeCode.piecesAt 10 b).dropLast) with
    | error k => rfl
    | ok c =>
      dsimp only
      rw [if_neg]
      rw [decide_eq_true_iff]
      exact fun z => z h
  · rw [if_neg h]
    dsimp only
    cases PeCode.readEach PeCode.insOf 0 ((PeCode.piecesAt 10 b).dropLast) with
    | error k => rfl
    | ok c =>
      dsimp only
      rw [if_pos]
      rw [decide_eq_true_iff]
      exact h
theorem readEach_ins (i : Nat) (ls : List PeCode.Bytes) : PeCode.readEach PeCode.insOf i ls = mapE Raw.ins (PeCode.readEach (rawOf PeCode.regOf PeCode.numOf) i ls) := readEach_map insOf_raw ls i
theorem pieces_count {c : UInt8} : ∀ b : PeCode.Bytes, (PeCode.piecesAt c b).length ≤ b.length + 1
  | [] => by simp [PeCode.piecesAt]
  | x :: l => by
    have ih := pieces_count (c := c) l
    cases e : PeCode.piecesAt c l with
    | nil => exact absurd e (pieces_ne c l)
    | cons q r =>
      rw [e] at ih
      rw [pieces_cons e]
      split <;> simp only [List.length_cons] at ih ⊢ <;> omega
theorem lines_lo {b : PeCode.Bytes} (lo : Lo b) (hb : b.length ≤ 90000) : (PeCode.piecesAt 10 b).dropLast.length ≤ 100000 ∧ ∀ l ∈ (PeCode.piecesAt 10 b).dropLast, Lo l ∧ l.length ≤ 100000 := by
  have h1 := pieces_count (c := 10) b
  refine ⟨by rw [List.length_dropLast]; omega, fun l hl => ?_⟩
  have hm := List.dropLast_subset _ hl
  have h2 := pieces_len b l hm
  exact ⟨pieces_lo lo l hm, by omega⟩
def spReadCode (K : PySem.W.Frag) : Sp := fun vs H Q E => ∃ b : PeCode.Bytes, vs = [.str (S b)] ∧ Lo b ∧ b.length ≤ 90000 ∧ (∀ k, PeCode.readCode b = .error k → Refused K E H [.int (-6), .int k]) ∧
  ∀ c, PeCode.readCode b = .ok c → ∀ H' p vs, H p = none → Ex H H' → H' p = some (.lst vs) → CodeV K H' vs c → Q (.ref p) H'
theorem G_read_code {P : Program} {w : World} {K : PySem.W.Frag} {mg : Str → Option Value} {base : Heap} (T : Txt w K mg) : Has P w K mg base (L2.CX P w) 6 (He.ga K "read_code") p_read_code (spReadCode K)  := by
  have G_has_open_end := G_has_open_end (P := P) (base := base) T
  have G_lines_of := G_lines_of (P := P) (base := base) T
  have G_NotReadable_init := G_NotReadable_init (P := P) (base := base) T
  have G_read_instructions := G_read_instructions (P := P) (base := base) T regOf_place krN_mono (held_number T)
  refine T.d_read_code.hasX sc_read_code (fun vs H Q E h => ?_) (fun cdv A outer s H vs Q E hr h => ⟨_, ((pss_cons (ps_set (i := 1) sc_read_code.nd rfl (Or.inl rfl) (pe_callH G_lines_of (hr.mono (by decide)) T.g_lines_of pass0 (pa_cons (pv 0) pa_nil)))
    (pss_cons (ps_set (i := 2) sc_read_code.nd rfl (Or.inl rfl) (pe_callH G_read_instructions (hr.mono (by decide)) T.g_read_instructions (passes_call (takes_of rfl rfl rfl rfl) (fun _ _ _ _ h => h)) (pa_cons (pv 1) (pa_cons pe_int (pa_cons (pe_callTy call_list_of (by rfl) T.u_list (by decide +kernel) (pa_cons (pe_gr T.g_REGISTERS) pa_nil)) (pa_cons (pe_gr T.g_read_number) pa_nil))))))
    (pss_cons (ps_if (pt_val (pe_callH G_has_open_end (hr.mono (by decide)) T.g_has_open_end pass0 (pa_cons (pv 0) pa_nil))) (pss_one (ps_raise rfl (takes_of rfl rfl rfl rfl) (pmk_cH T.x_NotReadable G_NotReadable_init (hr.mono (by decide)) T.g_NotReadable (pa_cons (pe_callB call_len_seq (by rfl) T.u_len PySem.boot_len (pa_cons (pv 1) pa_nil)) pa_nil)))) pss_nil)
    (pss_one (ps_ret (pv 2))))))), ?_⟩)
  · obtain ⟨b, rfl, _⟩ := h
    rfl
  · obtain ⟨b, rfl, lo, hb, qE, qV⟩ := h
    have L := lines_lo lo hb
    rw [readCode_eq, readEach_ins] at qE qV
    refine ⟨_, rfl, b, rfl, by omega, fun H1 p hp e1 hl => ?_⟩
    refine ⟨_, rfl, _, _, rfl, .inr (T.tp_REGISTERS _), fun p2 hp2 => ?_⟩
    have e2 := e1.trans (Ex.new (o := .lst [V.str "r0", V.str "r1", V.str "r2", V.str "r3", V.str "r4", V.str "r5", V.str "r6", V.str "r7"]) hp2)
    have hl2 := (Ex.new (o := .lst [V.str "r0", V.str "r1", V.str "r2", V.str "r3", V.str "r4", V.str "r5", V.str "r6", V.str "r7"]) hp2) p _ hl
    refine ⟨p, p2, 0, _, rfl, SqL.of hl2, L.1, L.2, SqL.of ?_, ?_, ?_⟩
    · rw [upd_same, regs_V]
    · intro k hk
      rw [hk] at qE
      exact (qE k rfl).mono e2
    · intro rs hk H' p3 vs hp3 e3 hv hall
      have hin : CodeV K H' vs (rs.map Raw.ins) := codeV_raw (readEach_all (fun l a h => raw_fit h) hk) hall
      rw [hk] at qE qV
      have e4 := e2.trans e3
      refine ⟨_, rfl, b, rfl, ?_⟩
      refine ⟨_, rfl, iB (fun c => ?_) (fun c => ?_)⟩
      · refine ⟨_, rfl, p, _, rfl, .inl (SqL.of (e3 p _ hl2)), ?_⟩
        have er := qE ((PeCode.piecesAt 10 b).length - 1) (by show (if openEnd b = true then _ else _) = _; rw [if_pos c])
        refine mkO_ref T.x_NotReadable (er.mono e4) rfl (by decide) (by show 2 ≤ 1000; decide) fun _ _ => ⟨_, rfl, ?_⟩
        rw [List.length_map, List.length_dropLast]
      · exact ⟨_, rfl, qV _ (by show (if openEnd b = true then _ else _) = _; rw [if_neg (by rw [c]; exact Bool.false_ne_true)]) H' p3 vs (fresh_back e2 hp3) e4 hv hin⟩
end Pb

/-! The machine: bounds, sums. -/
namespace Pb
open PeCode PeRule
def InsOk (i : Ins) : Prop := i.a < 8 ∧ i.b < 8 ∧ i.k < W
def CodeOk (c : Code) : Prop := ∀ i ∈ c, InsOk i
theorem regOf_lt {b : Bytes} {x : Nat} (h : regOf b = some x) : x < 8 := by
  unfold regOf at h
  exact List.mem_range.mp (List.mem_of_find?_eq_some h)
theorem nameOf_lt {b : Bytes} {x : Nat} (h : nameOf b = some x) : x < 4 := by
  unfold nameOf at h
  exact List.mem_range.mp (List.mem_of_find?_eq_some h)
theorem numOf_lt {b : Bytes} {n : Nat} (h : numOf b = some n) : n < W := (numOf_some h).2.2.2.2.2
theorem insOf_ok {l : Bytes} {i : Ins} (h : insOf l = some i) : InsOk i := by
  unfold insOf at h
  match piecesAt 32 l, h with
  | [], h => cases h
  | w :: r, h =>
    dsimp only at h
    cases ho : opOf w with
    | none => rw [ho] at h; cases h
    | some o =>
      rw [ho] at h
      match r, h with
      | [], h => cases h
      | [a], h =>
        dsimp only at h
        split at h
        · cases ha : regOf a with
          | none => rw [ha] at h; cases h
          | some x =>
            rw [ha] at h
            rw [← Option.some.inj h]
            exact ⟨regOf_lt ha, by show 0 < 8; decide, by show 0 < W; decide⟩
        · cases h
      | [a, b], h =>
        dsimp only at h
        split at h
        · cases ha : regOf a with
          | none => rw [ha] at h; cases h
          | some x =>
            cases hb : regOf b with
            | none => rw [ha, hb] at h; cases h
            | some y =>
              rw [ha, hb] at h
              rw [← Option.some.inj h]
              exact ⟨regOf_lt ha, regOf_lt hb, by show 0 < W; decide⟩
        · split at h
          · cases ha : regOf a with
            | none => rw [ha] at h; cases h
            | some x =>
              cases hb : numOf b with
              | none => rw [ha, hb] at h; cases h
              | some k =>
                rw [ha, hb] at h
                rw [← Option.some.inj h]
                exact ⟨regOf_lt ha, by show 0 < 8; decide, numOf_lt hb⟩
          · cases h
      | a :: b :: c :: r, h => cases h
theorem readEach_mem {α : Type} {f : Bytes → Option α} : ∀ {ls : List Bytes} {i : Nat} {rs : List α}, readEach f i ls = .ok rs → (∀ r ∈ rs, ∃ l ∈ ls, f l = some r) ∧ rs.length = ls.length
  | [], _, rs, e => by
    have e2 : [] = rs := by injection e
    rw [← e2]
    exact ⟨(fun r hr => by cases hr), rfl⟩
  | x :: ls, i, rs, e => by
    unfold readEach at e
    cases hx : f x with
    | none => rw [hx] at e; cases e
    | some y =>
      rw [hx] at e
      dsimp only at e
      cases he : readEach f (i + 1) ls with
      | error k => rw [he] at e; cases e
      | ok q =>
        rw [he] at e
        have e2 : y :: q = rs := by injection e
        obtain ⟨h1, h2⟩ := readEach_mem he
        rw [← e2]
        refine ⟨fun r hr => ?_, by rw [List.length_cons, List.length_cons, h2]⟩
        rcases List.mem_cons.mp hr with rfl | hr
        · exact ⟨x, List.mem_cons_self .., hx⟩
        · obtain ⟨l, hl, q⟩ := h1 r hr
          exact ⟨l, List.mem_cons_of_mem _ hl, q⟩
theorem readCode_ok {t : Bytes} {c : Code} (h : readCode t = .ok c) : CodeOk c := by
  unfold readCode at h
  cases hl : linesOf t with
  | error k =>
    rw [hl] at h
    dsimp only at h
    cases hr : readEach insOf 0 ((piecesAt 10 t).dropLast) with
    | error i => rw [hr] at h; cases h
    | ok c => rw [hr] at h; cases h
  | ok l =>
    rw [hl] at h
    intro i hi
    obtain ⟨x, _, hx⟩ := (readEach_mem h).1 i hi
    exact insOf_ok hx
/-- a state: eight numbers below 2^32 -/
def StOk (s : Regs) : Prop := s.length = 8 ∧ ∀ n ∈ s, n < W
theorem at_get {s : Regs} {r : Nat} (h : r < s.length) : s[r]? = some (at_ s r) := by
  unfold at_
  rw [List.getD_eq_getElem?_getD, List.getElem?_eq_getElem h]
  rfl
theorem at_lt {s : Regs} (h : StOk s) {r : Nat} (hr : r < 8) : at_ s r < W := h.2 _ (List.mem_of_getElem? (at_get (by rw [h.1]; exact hr)))
theorem StOk.set {s : Regs} (h : StOk s) {i n : Nat} (hn : n < W) : StOk (s.set i n) := ⟨by rw [List.length_set]; exact h.1, fun m hm => by
  rcases List.mem_or_eq_of_mem_set hm with q | q
  · exact h.2 m q
  · rw [q]; exact hn⟩
theorem plus_lt (x y : Nat) : plus x y < W := Nat.mod_lt _ (by decide)
theorem less_lt (x y : Nat) : less x y < W := Nat.mod_lt _ (by decide)
theorem doIns_ok {s : Regs} {i : Ins} (h : StOk s) (k : InsOk i) : StOk (doIns s i) := by
  unfold doIns
  cases i.op with
  | set => exact h.set k.2.2
  | mov => exact h.set (at_lt h k.2.1)
  | add => exact h.set (plus_lt ..)
  | sub => exact h.set (less_lt ..)
  | adc => exact h.set (plus_lt ..)
  | neg => exact h.set (less_lt ..)
  | swp => exact (h.set (at_lt h k.2.1)).set (at_lt h k.1)
theorem runOf_ok {c : Code} (k : CodeOk c) : ∀ {s : Regs}, StOk s → StOk (runOf c s) := by
  unfold runOf
  induction c with
  | nil => intro s h; exact h
  | cons i c ih =>
    intro s h
    exact ih (fun j hj => k j (List.mem_cons_of_mem _ hj)) (doIns_ok h (k i (List.mem_cons_self ..)))
theorem plus_int (x y : Nat) : ((x : Int) + (y : Int)).fmod 4294967296 = ((plus x y : Nat) : Int) := by
  unfold plus W
  rw [Int.fmod_eq_emod_of_nonneg _ (by decide)]
  omega
theorem less_int (x y : Nat) : ((x : Int) - (y : Int)).fmod 4294967296 = ((less x y : Nat) : Int) := by
  unfold less W
  rw [Int.fmod_eq_emod_of_nonneg _ (by decide)]
  omega
theorem foldl_sum : ∀ (l : List Nat) (a : Nat), l.foldl (fun (a b : Nat) => a + b) a = a + l.sum
  | [], a => rfl
  | x :: l, a => by rw [List.foldl_cons, foldl_sum l, List.sum_cons]; omega
theorem costOf_sum (c : Code) : costOf c = (c.map fun i => i.op.cost).sum := by
  unfold costOf
  rw [foldl_sum, Nat.zero_add]
theorem sideCost_sum (l : List Pat) : sideCost l = (l.map fun i => i.op.cost).sum := by
  unfold sideCost
  rw [foldl_sum, Nat.zero_add]
/-! ### an instruction's text -/
theorem decimal_len : ∀ n : Nat, n < W → (decimal n).length ≤ 10 := by
  have key : ∀ d n : Nat, n < 10 ^ (d + 1) → (decimal n).length ≤ d + 1 := by
    intro d
    induction d with
    | zero =>
      intro n h
      rw [decimal_lt (by simpa using h)]
      exact Nat.le_refl _
    | succ d ih =>
      intro n h
      by_cases h2 : n < 10
      · rw [decimal_lt h2]
        show 1 ≤ d + 1 + 1
        omega
      · rw [decimal_step (by omega), List.length_append]
        have := ih (n / 10) (by
          rw [Nat.pow_succ] at h
          omega)
        show _ + 1 ≤ _
        omega
  intro n h
  exact key 9 n (Nat.lt_trans h (by decide))
theorem glue_ins (i : Ins) : glue ([i.op.word, regText i.a] ++ (if i.op.two = true then [regText i.b] else []) ++ (if i.op.con = true then [decimal i.k] else [])) = i.text := by
  unfold Ins.text
  cases h : i.op <;> simp [Op.two, Op.con, glue]
theorem word_len (o : Op) : o.word.length = 3 := by cases o <;> decide +kernel
theorem text_len {i : Ins} (h : InsOk i) : i.text.length ≤ 30 := by
  have h1 := word_len i.op
  have h2 := decimal_len i.k h.2.2
  unfold Ins.text
  simp only [List.length_append, List.length_cons]
  have h3 : ∀ r, (regText r).length = 2 := fun _ => rfl
  rw [h3, h1]
  split <;> split <;> simp only [List.length_cons, List.length_nil, h3] <;> omega
theorem sum_le {α : Type} {f : α → Nat} {k : Nat} : ∀ {l : List α}, (∀ x ∈ l, f x ≤ k) → (l.map f).sum ≤ k * l.length
  | [], _ => by simp
  | x :: l, h => by
    have ih := sum_le (f := f) (k := k) (l := l) fun y hy => h y (List.mem_cons_of_mem _ hy)
    have := h x (List.mem_cons_self ..)
    rw [List.map_cons, List.sum_cons, List.length_cons, Nat.mul_add]
    omega
theorem decimal_chars (n : Nat) : ((toString n).toList.map Char.toNat) = (decimal n).map UInt8.toNat := by
  unfold decimal
  rw [List.map_map]
  refine List.map_congr_left fun c hc => ?_
  have hd : c.isDigit = true := by
    rw [Nat.toString_eq_repr, Nat.repr, String.toList_ofList] at hc
    exact Nat.isDigit_of_mem_toDigits (by decide) (by decide) hc
  have h2 : c.toNat < 256 := by
    have h1 : c.toNat ≤ 57 := by
      unfold Char.isDigit at hd
      rw [Bool.and_eq_true, decide_eq_true_iff, decide_eq_true_iff] at hd
      exact hd.2
    omega
  show c.toNat = (UInt8.ofNat c.toNat).toNat
  rw [UInt8.toNat_ofNat']
  omega
end Pb

set_option Elab.async false
set_option linter.all false
set_option maxRecDepth 100000
set_option maxHeartbeats 4000000
namespace Pb
open PySem PySem.Spec PyProof.Rows L2 Evl PbX
/-! ### code told -/
theorem str_nat (n : Nat) : Str.ofString (toString (n : Int)) = S (PeCode.decimal n) := by
  rw [show toString (n : Int) = toString n from rfl, Str.ofString_eq_toList, decimal_chars]
  rfl
theorem reg_at {r : Nat} (h : r < 8) : (txV REGB)[r]? = some (V.str (S (PeCode.regText r))) := by
  unfold REGB PeCode.REGS
  rw [List.getElem?_map, List.getElem?_map, List.getElem?_range h]
  rfl
theorem con_inW {K : PySem.W.Frag} (o : PeCode.Op) : inV (V.str (S o.word)) [V.str "set", V.str "adc"] = o.con := con_in o
theorem log_small {n : Nat} (h : n < PeCode.W) : n.log2 < 1920 := by
  by_cases h0 : n = 0
  · rw [h0]
    decide
  · have h1 := Nat.log2_self_le h0
    have h2 : 2 ^ n.log2 < 2 ^ 32 := Nat.lt_of_le_of_lt h1 h
    have := (Nat.pow_lt_pow_iff_right (by decide : 1 < 2)).mp h2
    omega
theorem txV_app (a b : List PeCode.Bytes) : txV (a ++ b) = txV a ++ txV b := List.map_append
def spLineOf (K : PySem.W.Frag) : Sp := fun vs H Q _ => ∃ (v : V) (i : PeCode.Ins), vs = [v] ∧ InsAt K H v i ∧ InsOk i ∧ ∀ H', Ex H H' → Q (.str (S i.text)) H'
theorem G_line_of {P : Program} {w : World} {K : PySem.W.Frag} {mg : Str → Option Value} {base : Heap} (T : Txt w K mg) : Has P w K mg base CX0 1 (He.ga K "line_of") p_line_of (spLineOf K) := by
  refine T.d_line_of.has sc_line_of (fun vs H Q E h => ?_) (fun cdv A outer s H vs Q E hr h => ⟨_, PSs.nox ((pss_cons (ps_set (i := 1) sc_line_of.nd rfl (Or.inl rfl) (pe_lst (pa_cons (pe_fld (pv 0) rfl) (pa_cons (pe_ix ix_tup (pe_gr T.g_REGISTERS) (pe_fld (pv 0) rfl) (fun _ _ => rfl)) pa_nil))))
    (pss_cons (ps_if (pt_cmpR op_in_seq (pe_fld (pv 0) rfl) (pe_gr T.g_WITH_SECOND) (by rfl)) (pss_one (ps_expr (pe_bm PySem.F.plainAttrs_list PySem.F.slot_list_append PySem.F.type_list_append mt_append (pv 1) (pa_cons (pe_ix ix_tup (pe_gr T.g_REGISTERS) (pe_fld (pv 0) rfl) (fun _ _ => rfl)) pa_nil)))) pss_nil)
    (pss_cons (ps_if (pt_cmpR op_in_seq (pe_fld (pv 0) rfl) (pe_gr T.g_WITH_CONSTANT) (by rfl)) (pss_one (ps_expr (pe_bm PySem.F.plainAttrs_list PySem.F.slot_list_append PySem.F.type_list_append mt_append (pv 1) (pa_cons (pe_callTy call_str_int (by rfl) T.u_str (by decide +kernel) (pa_cons (pe_fld (pv 0) rfl) pa_nil)) pa_nil)))) pss_nil)
    (pss_one (ps_ret (pe_join pe_str (pv 1)))))))), ?_⟩)
  · obtain ⟨v, i, rfl, _⟩ := h
    rfl
  · obtain ⟨v, i, rfl, hi, ok, q⟩ := h
    obtain ⟨a, dx, rfl, ha⟩ := hi
    refine ⟨_, rfl, a, _, dx, _, _, rfl, ha, T.cl_Instruction, T.nF_Instruction_word, lkW .., ?_⟩
    refine ⟨_, rfl, a, _, dx, _, _, rfl, ha, T.cl_Instruction, T.nF_Instruction_first, lkF .., ?_⟩
    refine ⟨_, _, _, _, rfl, rfl, T.tp_REGISTERS _, by rw [regs_V]; exact atI_nat (reg_at ok.1), ?_⟩
    refine ⟨by show 2 ≤ sizeLine; decide, fun p hp => ?_⟩
    have e1 := Ex.new (o := .lst [V.str (S i.op.word), V.str (S (PeCode.regText i.a))]) hp
    have h1 : upd H p (.lst [V.str (S i.op.word), V.str (S (PeCode.regText i.a))]) p = some (.lst (txV [i.op.word, PeCode.regText i.a])) := upd_same
    generalize upd H p (.lst [V.str (S i.op.word), V.str (S (PeCode.regText i.a))]) = H1 at e1 h1 ⊢
    have ha1 := e1 a _ ha
    refine ⟨_, rfl, a, _, dx, _, _, rfl, ha1, T.cl_Instruction, T.nF_Instruction_word, lkW .., ?_⟩
    refine ⟨_, _, rfl, .inr (T.tp_WITH_SECOND _), rfl, rfl, i.op.two, congrArg V.bl (two_in i.op), ?_⟩
    have fin : ∀ (H2 : Hp) (ws : List PeCode.Bytes), Ex H H2 → H2 p = some (.lst (txV ws)) → ws.length ≤ 3 → (∀ x ∈ ws, x.length ≤ 30) → glue ws = i.text → tRet (tM1 (fun x xs H Q => ∃ a p ys, x = V.str a ∧ xs = [V.ref p] ∧ (SqL K H p (ys.map V.str) ∨ SqT K H p (ys.map V.str)) ∧ (ys.map fun x => x.length).sum + ys.length * a.length ≤ 16777216 ∧ Q (V.str (Txt.join a ys)) H) (tC (V.str " ")) (tVar 1)) { nx := fun x H' => Q V.non H', rt := Q } [some (V.ref a), some (V.ref p)] H2 := fun H2 ws e2 h2 hl hz hg => by
      refine ⟨⟨_, rfl⟩, _, rfl, _, p, ws.map S, rfl, rfl, .inl (SqL.of (h2.trans (by rw [List.map_map]; rfl))), ?_, ?_⟩
      · have hs : ((ws.map S).map fun x => x.length).sum ≤ 30 * ws.length := by
          rw [List.map_map]
          exact sum_le fun x hx => by
            show (S x).length ≤ 30
            rw [S_len]
            exact hz x hx
        have hlen : (Str.ofString " ").length = 1 := by decide +kernel
        rw [List.length_map, hlen]
        omega
      · rw [L_blank, S_join1, hg]
        exact q H2 e2
    have w3 : i.op.word.length ≤ 30 := by rw [word_len]; omega
    have d10 := decimal_len i.k ok.2.2
    have g := glue_ins i
    cases htwo : i.op.two with
    | true =>
      rw [htwo, two_con htwo] at g
      refine ⟨_, rfl, .inl ⟨rfl, _, SqL.of h1⟩, ?_⟩
      have hs : secI i = .int i.b := if_pos htwo
      refine ⟨_, rfl, a, _, dx, _, _, rfl, ha1, T.cl_Instruction, T.nF_Instruction_second, lkS .., ?_⟩
      rw [hs]
      refine ⟨_, _, _, _, rfl, rfl, T.tp_REGISTERS _, by rw [regs_V]; exact atI_nat (reg_at ok.2.1), p, _, _, rfl, rfl, h1, by show 2 < sizeLine; decide, ?_⟩
      have e2 := e1.mut (o := .lst (txV [i.op.word, PeCode.regText i.a] ++ [V.str (S (PeCode.regText i.b))])) hp
      have ha2 := e2 a _ ha
      refine ⟨_, rfl, a, _, dx, _, _, rfl, ha2, T.cl_Instruction, T.nF_Instruction_word, lkW .., ?_⟩
      refine ⟨_, _, rfl, .inr (T.tp_WITH_CONSTANT _), rfl, rfl, false, congrArg V.bl ((con_in i.op).trans (two_con htwo)), ?_⟩
      refine fin _ [i.op.word, PeCode.regText i.a, PeCode.regText i.b] e2 upd_same (by show 3 ≤ 3; decide) ?_ g
      intro x hx
      rcases List.mem_cons.mp hx with rfl | hx
      · exact w3
      rcases List.mem_cons.mp hx with rfl | hx
      · show 2 ≤ 30; decide
      rw [List.mem_singleton.mp hx]
      show 2 ≤ 30; decide
    | false =>
      rw [htwo] at g
      refine ⟨_, rfl, a, _, dx, _, _, rfl, ha1, T.cl_Instruction, T.nF_Instruction_word, lkW .., ?_⟩
      refine ⟨_, _, rfl, .inr (T.tp_WITH_CONSTANT _), rfl, rfl, i.op.con, congrArg V.bl (con_in i.op), ?_⟩
      cases hcon : i.op.con with
      | false =>
        rw [hcon] at g
        refine fin _ [i.op.word, PeCode.regText i.a] e1 h1 (by show 2 ≤ 3; decide) ?_ g
        intro x hx
        rcases List.mem_cons.mp hx with rfl | hx
        · exact w3
        rw [List.mem_singleton.mp hx]
        show 2 ≤ 30; decide
      | true =>
        rw [hcon] at g
        have hs : secI i = .int i.k := by
          unfold secI
          rw [if_neg (by rw [htwo]; exact Bool.false_ne_true), if_pos hcon]
        refine ⟨_, rfl, .inl ⟨rfl, _, SqL.of h1⟩, ?_⟩
        refine ⟨_, rfl, a, _, dx, _, _, rfl, ha1, T.cl_Instruction, T.nF_Instruction_second, lkS .., ?_⟩
        rw [hs]
        refine ⟨_, rfl, ?_, p, _, _, rfl, rfl, h1, by show 2 < sizeLine; decide, ?_⟩
        · show ((i.k : Nat) : Int).natAbs.log2 < 1920
          rw [Int.natAbs_natCast]
          exact log_small ok.2.2
        · rw [str_nat]
          refine fin _ [i.op.word, PeCode.regText i.a, PeCode.decimal i.k] (e1.mut hp) upd_same (by show 3 ≤ 3; decide) ?_ g
          intro x hx
          rcases List.mem_cons.mp hx with rfl | hx
          · exact w3
          rcases List.mem_cons.mp hx with rfl | hx
          · show 2 ≤ 30; decide
          rw [List.mem_singleton.mp hx]
          omega
def spCodeText (K : PySem.W.Frag) : Sp := fun vs H Q _ => ∃ (l : Addr) (us : List V) (c : PeCode.Code), vs = [.ref l] ∧ SqL K H l us ∧ CodeV K H us c ∧ CodeOk c ∧ c.length ≤ 5000 ∧ ∀ H', Ex H H' → Q (.str (S (PeCode.codeText c))) H'
theorem G_code_text {P : Program} {w : World} {K : PySem.W.Frag} {mg : Str → Option Value} {base : Heap} (T : Txt w K mg) : Has P w K mg base CX0 2 (He.ga K "code_text") p_code_text (spCodeText K) := by
  have G_line_of := G_line_of (P := P) (base := base) T
  refine T.d_code_text.has sc_code_text (fun vs H Q E h => ?_) (fun cdv A outer s H vs Q E hr h => ⟨_, PSs.nox ((pss_one (ps_ret (pe_join pe_str (pe_lc (own := [("instruction", 1)]) (g := gName 1) (tt := tYes) rfl sc_code_text.nd (pi_list (pv 0)) (blkOk_by (N := n_code_text) (sc := defScope s_code_text) (by decide +kernel)) (fun _ _ _ _ _ => pg_name (i := 1) sc_code_text.nd rfl (Or.inl rfl)) (fun _ _ _ _ _ => pts_nil) (fun _ _ _ _ _ => (pe_op op_add_str (pe_callH G_line_of (hr.mono (by decide)) T.g_line_of pass0 (pa_cons (pv 1) pa_nil)) pe_str))))))), ?_⟩)
  · obtain ⟨l, us, c, rfl, _⟩ := h
    rfl
  · obtain ⟨l, us, c, rfl, hl, hc, ok, hz, q⟩ := h
    refine ⟨⟨_, rfl⟩, _, rfl, l, rfl, ⟨_, hl⟩, fun p hp => ?_⟩
    refine lc_it (walk_list (a := l) (xs := us)) (fun i H2 => Ex H H2 ∧ H2 p = some (.lst (txV ((c.take i).map fun x => x.text ++ [10])))) ⟨Ex.new hp, upd_same⟩ (fun i H2 _ q => ex_l q.1 hl) ?_ ?_
    · rintro i x H2 H3 hi ⟨e3, hlst⟩ ⟨rfl, hx⟩
      obtain ⟨j, hj, hin⟩ := hc.at_ hx
      have okj := ok j (List.mem_of_getElem? hj)
      refine ⟨rfl, _, rfl, x, j, rfl, hin.mono (ExI.of e3), okj, fun H4 e4 => ?_⟩
      refine ⟨_, _, rfl, rfl, ?_, _, e4 p _ hlst, ?_, (e3.trans e4).mut hp, ?_⟩
      · have := text_len okj
        rw [S_len]
        have hlen : (Str.ofString "\n").length = 1 := by decide +kernel
        rw [hlen]
        exact szl (by omega)
      · rw [List.length_map, List.length_map, List.length_take]
        exact szlt (by omega)
      · rw [upd_same, take_next hj, L_nl, S_app, List.map_append, txV_app]
        rfl
    · rintro H2 ⟨e3, hlst⟩
      rw [hc.length, List.take_length] at hlst
      refine ⟨_, p, (c.map fun x => x.text ++ [10]).map S, rfl, rfl, .inl (SqL.of (hlst.trans (by rw [List.map_map]; rfl))), ?_, ?_⟩
      · have hs : (((c.map fun x => x.text ++ [10]).map S).map fun x => x.length).sum ≤ 31 * c.length := by
          rw [List.map_map, List.map_map]
          exact sum_le fun x hx => by
            show (S (x.text ++ [10])).length ≤ 31
            rw [S_len, List.length_append]
            have := text_len (ok x hx)
            show _ + 1 ≤ 31
            omega
        have hlen : (Str.ofString "").length = 0 := by decide +kernel
        rw [hlen]
        omega
      · rw [L_empty, S_join0]
        have e : (c.map fun x => x.text ++ [10]).flatten = PeCode.codeText c := by
          unfold PeCode.codeText
          rw [List.flatMap_def]
        rw [e]
        exact q H2 e3
end Pb

set_option Elab.async false
set_option linter.all false
set_option maxRecDepth 100000
set_option maxHeartbeats 4000000
namespace Pb
open PySem PySem.Spec PyProof.Rows L2 Evl PbX
/-! ### costs -/
/-- an instruction, a rule's too, of this word -/
def WordV (K : PySem.W.Frag) (H : Hp) (v : V) (o : PeCode.Op) : Prop := ∃ a dx f s, v = .ref a ∧ H a = some (.ins (cIns K) dx (fIns (.str (S o.word)) f s))
theorem InsAt.word {K : PySem.W.Frag} {H : Hp} {v : V} {i : PeCode.Ins} (h : InsAt K H v i) : WordV K H v i.op := by
  obtain ⟨a, dx, rfl, h1⟩ := h
  exact ⟨a, dx, _, _, rfl, h1⟩
theorem WordV.mono {K : PySem.W.Frag} {H H' : Hp} (e : ExI H H') {v : V} {o : PeCode.Op} (h : WordV K H v o) : WordV K H' v o := by
  obtain ⟨a, dx, f, s, rfl, h1⟩ := h
  exact ⟨a, dx, f, s, rfl, e _ _ _ _ h1⟩
theorem int_sum : ∀ l : List PeCode.Op, (l.map fun o => (o.cost : Int)).sum = (((l.map fun o => o.cost).sum : Nat) : Int)
  | [] => rfl
  | o :: l => by
    rw [List.map_cons, List.sum_cons, int_sum l, List.map_cons, List.sum_cons]
    omega
def spCostOf (K : PySem.W.Frag) : Sp := fun vs H Q _ => ∃ (l : Addr) (us : List V) (os : List PeCode.Op), vs = [.ref l] ∧ SqL K H l us ∧ All2 (WordV K H) us os ∧ os.length ≤ 5000 ∧ ∀ H', Ex H H' → Q (.int ((os.map fun o => o.cost).sum : Nat)) H'
theorem G_cost_of {P : Program} {w : World} {K : PySem.W.Frag} {mg : Str → Option Value} {base : Heap} (T : Txt w K mg) : Has P w K mg base CX0 1 (He.ga K "cost_of") p_cost_of (spCostOf K) := by
  refine T.d_cost_of.has sc_cost_of (fun vs H Q E h => ?_) (fun cdv A outer s H vs Q E hr h => ⟨_, PSs.nox ((pss_one (ps_ret (pe_callB (cr_sum rfl) (by rfl) T.u_sum (by decide +kernel) (by exact (pa_cons (pe_lc (own := [("instruction", 1)]) (g := gName 1) (tt := tYes) rfl sc_cost_of.nd (pi_list (pv 0)) (blkOk_by (N := n_cost_of) (sc := defScope s_cost_of) (by decide +kernel)) (fun _ _ _ _ _ => pg_name (i := 1) sc_cost_of.nd rfl (Or.inl rfl)) (fun _ _ _ _ _ => pts_nil) (fun _ _ _ _ _ => (pe_ix (r := rIxD K w) (ix_kd rfl rfl) (by exact (pe_gr T.g_COSTS)) (by exact (pe_fldK (K := K) rfl (pv 1) rfl)) (fun _ _ => rfl)))) pa_nil)))))), ?_⟩)
  · obtain ⟨l, us, os, rfl, _⟩ := h
    rfl
  · obtain ⟨l, us, os, rfl, hl, hc, hz, q⟩ := h
    obtain ⟨es, n, D⟩ := T.t_COSTS
    refine ⟨_, rfl, l, rfl, ⟨_, hl⟩, fun p hp => ?_⟩
    refine lc_it (walk_list (a := l) (xs := us)) (fun i H2 => Ex H H2 ∧ H2 p = some (.lst ((os.take i).map fun o => V.int (o.cost : Nat)))) ⟨Ex.new hp, upd_same⟩ (fun i H2 _ q => ex_l q.1 hl) ?_ ?_
    · rintro i x H2 H3 hi ⟨e3, hlst⟩ ⟨rfl, hx⟩
      obtain ⟨o, ho, hin⟩ := hc.at_ hx
      obtain ⟨a, dx, f, s, rfl, ha⟩ := hin
      obtain ⟨u, hu, ru⟩ := cost_hit T o
      refine ⟨rfl, _, rfl, a, _, dx, _, _, rfl, e3 a _ ha, T.cl_Instruction, T.nF_Instruction_word, lkW .., ?_⟩
      refine ⟨_, _, _, rfl, rfl, ⟨es, n, u, D.at_, D.lit, hu, ru⟩, _, hlst, ?_, e3.mut hp, ?_⟩
      · rw [List.length_map, List.length_take]
        exact szlt (by omega)
      · rw [upd_same, take_next ho, List.map_append]
        rfl
    · rintro H2 ⟨e3, hlst⟩
      rw [hc.length, List.take_length] at hlst
      refine ⟨p, os.map fun o => (o.cost : Int), rfl, SqL.of (hlst.trans (by rw [List.map_map]; rfl)), ?_⟩
      rw [int_sum]
      exact q H2 e3
/-! ### states -/
abbrev natV (s : List Nat) : List V := s.map fun n => V.int (n : Nat)
theorem natV_at {s : PeCode.Regs} {r : Nat} (h : r < s.length) : atI (natV s) (r : Int) = some (V.int (PeCode.at_ s r : Nat)) := atI_nat (by rw [List.getElem?_map, at_get h]; rfl)
theorem natV_set (s : List Nat) (r n : Nat) : (natV s).set r (V.int (n : Nat)) = natV (s.set r n) := by rw [natV, natV, List.map_set]
theorem ixN_nat {n i : Nat} (h : i < n) : ixN n (i : Int) = some i := by
  unfold ixN
  rw [if_pos (by omega), if_pos (by omega)]
  rfl
def spCarryOut (K : PySem.W.Frag) : Sp := fun vs H Q _ => ∃ (v : V) (i : PeCode.Ins) (l : Addr) (s : PeCode.Regs), vs = [v, .ref l] ∧ InsAt K H v i ∧ InsOk i ∧ H l = some (.lst (natV s)) ∧ s.length = 8 ∧
  ∀ H', ExB l H H' → H' l = some (.lst (natV (PeCode.doIns s i))) → Q .non H'
theorem word_eq (o p : PeCode.Op) : decide (V.str (S o.word) = V.str (S p.word)) = decide (o = p) := by
  cases o <;> cases p <;> decide +kernel
theorem L_set : Str.ofString "set" = S PeCode.Op.set.word := by decide +kernel
theorem L_mov : Str.ofString "mov" = S PeCode.Op.mov.word := by decide +kernel
theorem L_add : Str.ofString "add" = S PeCode.Op.add.word := by decide +kernel
theorem L_sub : Str.ofString "sub" = S PeCode.Op.sub.word := by decide +kernel
theorem L_adc : Str.ofString "adc" = S PeCode.Op.adc.word := by decide +kernel
theorem L_neg : Str.ofString "neg" = S PeCode.Op.neg.word := by decide +kernel
theorem G_carry_out {P : Program} {w : World} {K : PySem.W.Frag} {mg : Str → Option Value} {base : Heap} (T : Txt w K mg) : Has P w K mg base CX0 1 (He.ga K "carry_out") p_carry_out (spCarryOut K) := by
  refine T.d_carry_out.has sc_carry_out (fun vs H Q E h => ?_) (fun cdv A outer s H vs Q E hr h => ⟨_, PSs.nox ((pss_cons (ps_set (i := 2) sc_carry_out.nd rfl (Or.inl rfl) (pe_fld (pv 0) rfl))
    (pss_cons (ps_set (i := 3) sc_carry_out.nd rfl (Or.inl rfl) (pe_fld (pv 0) rfl))
    (pss_cons (ps_set (i := 4) sc_carry_out.nd rfl (Or.inl rfl) (pe_fld (pv 0) rfl))
    (pss_one (ps_if (pt_cmpR op_eq (pv 2) pe_str (nomark _)) (pss_one (ps_asg (pv 4) (pg_sub (pv 1) (pv 3) set_list))) (pss_one (ps_if (pt_cmpR op_eq (pv 2) pe_str (nomark _)) (pss_one (ps_asg (pe_ix ix_list (pv 1) (pv 4) (fun _ _ => rfl)) (pg_sub (pv 1) (pv 3) set_list))) (pss_one (ps_if (pt_cmpR op_eq (pv 2) pe_str (nomark _)) (pss_one (ps_asg (pe_op op_modN (pe_op op_add (pe_ix ix_list (pv 1) (pv 3) (fun _ _ => rfl)) (pe_ix ix_list (pv 1) (pv 4) (fun _ _ => rfl))) (pe_gi T.c_MODULUS)) (pg_sub (pv 1) (pv 3) set_list))) (pss_one (ps_if (pt_cmpR op_eq (pv 2) pe_str (nomark _)) (pss_one (ps_asg (pe_op op_modN (pe_op op_sub (pe_ix ix_list (pv 1) (pv 3) (fun _ _ => rfl)) (pe_ix ix_list (pv 1) (pv 4) (fun _ _ => rfl))) (pe_gi T.c_MODULUS)) (pg_sub (pv 1) (pv 3) set_list))) (pss_one (ps_if (pt_cmpR op_eq (pv 2) pe_str (nomark _)) (pss_one (ps_asg (pe_op op_modN (pe_op op_add (pe_ix ix_list (pv 1) (pv 3) (fun _ _ => rfl)) (pv 4)) (pe_gi T.c_MODULUS)) (pg_sub (pv 1) (pv 3) set_list))) (pss_one (ps_if (pt_cmpR op_eq (pv 2) pe_str (nomark _)) (pss_one (ps_asg (pe_op op_modN (pe_op op_sub pe_int (pe_ix ix_list (pv 1) (pv 3) (fun _ _ => rfl))) (pe_gi T.c_MODULUS)) (pg_sub (pv 1) (pv 3) set_list))) (pss_cons (ps_set (i := 5) sc_carry_out.nd rfl (Or.inl rfl) (pe_ix ix_list (pv 1) (pv 3) (fun _ _ => rfl)))
    (pss_cons (ps_asg (pe_ix ix_list (pv 1) (pv 4) (fun _ _ => rfl)) (pg_sub (pv 1) (pv 3) set_list))
    (pss_one (ps_asg (pv 5) (pg_sub (pv 1) (pv 4) set_list))))))))))))))))))))), ?_⟩)
  · obtain ⟨v, i, l, s, rfl, _⟩ := h
    rfl
  · obtain ⟨v, i, l, st, rfl, hi, ok, hl, h8, q⟩ := h
    obtain ⟨a, dx, rfl, ha⟩ := hi
    refine ⟨_, rfl, a, _, dx, _, _, rfl, ha, T.cl_Instruction, T.nF_Instruction_word, lkW .., ?_⟩
    refine ⟨_, rfl, a, _, dx, _, _, rfl, ha, T.cl_Instruction, T.nF_Instruction_first, lkF .., ?_⟩
    refine ⟨_, rfl, a, _, dx, _, _, rfl, ha, T.cl_Instruction, T.nF_Instruction_second, lkS .., ?_⟩
    have hA : i.a < st.length := by rw [h8]; exact ok.1
    have hB : i.b < st.length := by rw [h8]; exact ok.2.1
    have fin : ∀ n : Nat, PeCode.doIns st i = st.set i.a n → Q .non (upd H l (.lst ((natV st).set i.a (V.int (n : Nat))))) := fun n e => q _ (ExB.refl _ _).upd (by rw [upd_same, e, natV_set])
    have hJ : ixN (natV st).length (i.a : Int) = some i.a := ixN_nat (by rw [List.length_map]; exact hA)
    obtain ⟨o, ra, rb, k⟩ := i
    cases o with
    | set =>
      refine ⟨_, rfl, rfl, _, congrArg V.bl (word_eq _ .set), ?_⟩
      exact ⟨_, rfl, _, rfl, _, rfl, l, _, _, _, rfl, rfl, hl, hJ, fin k rfl⟩
    | mov =>
      refine ⟨_, rfl, rfl, _, congrArg V.bl (word_eq _ .set), ?_⟩
      refine ⟨_, rfl, rfl, _, congrArg V.bl (word_eq _ .mov), ?_⟩
      exact ⟨_, rfl, _, rfl, l, _, _, _, rfl, rfl, SqL.of hl, natV_at hB, _, rfl, _, rfl, l, _, _, _, rfl, rfl, hl, hJ, fin _ rfl⟩
    | add =>
      refine ⟨_, rfl, rfl, _, congrArg V.bl (word_eq _ .set), ?_⟩
      refine ⟨_, rfl, rfl, _, congrArg V.bl (word_eq _ .mov), ?_⟩
      refine ⟨_, rfl, rfl, _, congrArg V.bl (word_eq _ .add), ?_⟩
      refine ⟨_, rfl, _, rfl, l, _, _, _, rfl, rfl, SqL.of hl, natV_at hA, _, rfl, _, rfl, l, _, _, _, rfl, rfl, SqL.of hl, natV_at hB, _, _, rfl, rfl, _, _, rfl, rfl, (by show (4294967296 : Int) ≠ 0; decide), ?_⟩
      refine ⟨_, rfl, _, rfl, l, _, _, _, rfl, rfl, hl, hJ, ?_⟩
      have z := fin (PeCode.plus _ _) rfl
      rw [← plus_int] at z
      exact z
    | sub =>
      refine ⟨_, rfl, rfl, _, congrArg V.bl (word_eq _ .set), ?_⟩
      refine ⟨_, rfl, rfl, _, congrArg V.bl (word_eq _ .mov), ?_⟩
      refine ⟨_, rfl, rfl, _, congrArg V.bl (word_eq _ .add), ?_⟩
      refine ⟨_, rfl, rfl, _, congrArg V.bl (word_eq _ .sub), ?_⟩
      refine ⟨_, rfl, _, rfl, l, _, _, _, rfl, rfl, SqL.of hl, natV_at hA, _, rfl, _, rfl, l, _, _, _, rfl, rfl, SqL.of hl, natV_at hB, _, _, rfl, rfl, _, _, rfl, rfl, (by show (4294967296 : Int) ≠ 0; decide), ?_⟩
      refine ⟨_, rfl, _, rfl, l, _, _, _, rfl, rfl, hl, hJ, ?_⟩
      have z := fin (PeCode.less _ _) rfl
      rw [← less_int] at z
      exact z
    | adc =>
      refine ⟨_, rfl, rfl, _, congrArg V.bl (word_eq _ .set), ?_⟩
      refine ⟨_, rfl, rfl, _, congrArg V.bl (word_eq _ .mov), ?_⟩
      refine ⟨_, rfl, rfl, _, congrArg V.bl (word_eq _ .add), ?_⟩
      refine ⟨_, rfl, rfl, _, congrArg V.bl (word_eq _ .sub), ?_⟩
      refine ⟨_, rfl, rfl, _, congrArg V.bl (word_eq _ .adc), ?_⟩
      refine ⟨_, rfl, _, rfl, l, _, _, _, rfl, rfl, SqL.of hl, natV_at hA, _, rfl, _, _, rfl, rfl, _, _, rfl, rfl, (by show (4294967296 : Int) ≠ 0; decide), ?_⟩
      refine ⟨_, rfl, _, rfl, l, _, _, _, rfl, rfl, hl, hJ, ?_⟩
      have z := fin (PeCode.plus _ _) rfl
      rw [← plus_int] at z
      exact z
    | neg =>
      refine ⟨_, rfl, rfl, _, congrArg V.bl (word_eq _ .set), ?_⟩
      refine ⟨_, rfl, rfl, _, congrArg V.bl (word_eq _ .mov), ?_⟩
      refine ⟨_, rfl, rfl, _, congrArg V.bl (word_eq _ .add), ?_⟩
      refine ⟨_, rfl, rfl, _, congrArg V.bl (word_eq _ .sub), ?_⟩
      refine ⟨_, rfl, rfl, _, congrArg V.bl (word_eq _ .adc), ?_⟩
      refine ⟨_, rfl, rfl, _, congrArg V.bl (word_eq _ .neg), ?_⟩
      refine ⟨_, rfl, _, rfl, l, _, _, _, rfl, rfl, SqL.of hl, natV_at hA, _, _, rfl, rfl, _, _, rfl, rfl, (by show (4294967296 : Int) ≠ 0; decide), ?_⟩
      refine ⟨_, rfl, _, rfl, l, _, _, _, rfl, rfl, hl, hJ, ?_⟩
      have z := fin (PeCode.less 0 _) rfl
      rw [← less_int] at z
      exact z
    | swp =>
      refine ⟨_, rfl, rfl, _, congrArg V.bl (word_eq _ .set), ?_⟩
      refine ⟨_, rfl, rfl, _, congrArg V.bl (word_eq _ .mov), ?_⟩
      refine ⟨_, rfl, rfl, _, congrArg V.bl (word_eq _ .add), ?_⟩
      refine ⟨_, rfl, rfl, _, congrArg V.bl (word_eq _ .sub), ?_⟩
      refine ⟨_, rfl, rfl, _, congrArg V.bl (word_eq _ .adc), ?_⟩
      refine ⟨_, rfl, rfl, _, congrArg V.bl (word_eq _ .neg), ?_⟩
      refine ⟨_, rfl, _, rfl, l, _, _, _, rfl, rfl, SqL.of hl, natV_at hA, ?_⟩
      refine ⟨_, rfl, _, rfl, l, _, _, _, rfl, rfl, SqL.of hl, natV_at hB, _, rfl, _, rfl, l, _, _, _, rfl, rfl, hl, hJ, ?_⟩
      have hl2 : upd H l (.lst ((natV st).set ra (V.int (PeCode.at_ st rb : Nat)))) l = some (.lst (natV (st.set ra (PeCode.at_ st rb)))) := by rw [upd_same, natV_set]
      have hJ2 : ixN (natV (st.set ra (PeCode.at_ st rb))).length (rb : Int) = some rb := ixN_nat (by rw [List.length_map, List.length_set]; exact hB)
      refine ⟨_, rfl, _, rfl, _, rfl, l, _, _, _, rfl, rfl, hl2, hJ2, q _ ((ExB.refl _ _).upd).upd ?_⟩
      rw [upd_same, natV_set]
      rfl
def spStateAfter (K : PySem.W.Frag) : Sp := fun vs H Q _ => ∃ (l : Addr) (us : List V) (c : PeCode.Code) (sl : Addr) (s : PeCode.Regs), vs = [.ref l, .ref sl] ∧ SqL K H l us ∧ CodeV K H us c ∧ CodeOk c ∧ SqL K H sl (natV s) ∧ StOk s ∧
  ∀ H' p, H p = none → Ex H H' → H' p = some (.lst (natV (PeCode.runOf c s))) → Q (.ref p) H'
theorem runOf_snoc (c : PeCode.Code) (i : PeCode.Ins) (s : PeCode.Regs) : PeCode.runOf (c ++ [i]) s = PeCode.doIns (PeCode.runOf c s) i := by
  unfold PeCode.runOf
  rw [List.foldl_append]
  rfl
theorem CodeOk.take {c : PeCode.Code} (h : CodeOk c) (n : Nat) : CodeOk (c.take n) := fun i hi => h i (List.mem_of_mem_take hi)
theorem G_state_after {P : Program} {w : World} {K : PySem.W.Frag} {mg : Str → Option Value} {base : Heap} (T : Txt w K mg) : Has P w K mg base CX0 2 (He.ga K "state_after") p_state_after (spStateAfter K) := by
  have G_carry_out := G_carry_out (P := P) (base := base) T
  refine T.d_state_after.has sc_state_after (fun vs H Q E h => ?_) (fun cdv A outer s H vs Q E hr h => ⟨_, PSs.nox ((pss_cons (ps_set (i := 2) sc_state_after.nd rfl (Or.inl rfl) (pe_callTy call_list_of (by rfl) T.u_list (by decide +kernel) (pa_cons (pv 1) pa_nil)))
    (pss_cons (ps_for PassesOwn.never rfl (pi_list (pv 0)) (pg_name (i := 3) sc_state_after.nd rfl (Or.inl rfl)) (pss_one (ps_expr (pe_callH G_carry_out (hr.mono (by decide)) T.g_carry_out pass0 (pa_cons (pv 3) (pa_cons (pv 2) pa_nil))))))
    (pss_one (ps_ret (pv 2)))))), ?_⟩)
  · obtain ⟨l, us, c, sl, s, rfl, _⟩ := h
    rfl
  · obtain ⟨l, us, c, sl, st, rfl, hl, hc, ok, hs, sok, q⟩ := h
    refine ⟨_, rfl, sl, _, rfl, .inl hs, fun p hp => ?_⟩
    have e1 := Ex.new (o := .lst (natV st)) hp
    refine ⟨_, rfl, l, rfl, ⟨_, ex_l e1 hl⟩, ?_⟩
    refine for_it (walk_list (a := l) (xs := us)) (fun i σ H1 => (∃ x, σ = [some (.ref l), some (.ref sl), some (.ref p), x]) ∧ Ex H H1 ∧ H1 p = some (.lst (natV (PeCode.runOf (c.take i) st)))) ⟨⟨_, rfl⟩, e1, upd_same⟩ (fun i σ H1 _ q => ex_l q.2.1 hl) ?_ ?_
    · rintro i x σ H1 H2 hi ⟨⟨y, rfl⟩, e2, hp2⟩ ⟨rfl, hx⟩
      obtain ⟨j, hj, hin⟩ := hc.at_ hx
      refine ⟨_, rfl, _, rfl, x, j, p, _, rfl, hin.mono (ExI.of e2), ok j (List.mem_of_getElem? hj), hp2, (runOf_ok (ok.take i) sok).1, fun H3 e3 h3 => ?_⟩
      refine ⟨⟨_, rfl⟩, (e3.ex2 e2 hp), ?_⟩
      rw [h3, take_next hj, runOf_snoc]
    · rintro σ H1 ⟨⟨y, rfl⟩, e2, hp2⟩
      rw [hc.length, List.take_length] at hp2
      exact ⟨_, rfl, q H1 p hp e2 hp2⟩
end Pb

/-! Rules: bounds, constants, parts, fitting. -/
namespace Pb
open PeCode PeRule
/-- how often a letter is added -/
def sgn : Nat → Int
  | 0 => 0
  | 1 => 1
  | _ => -1
def ConOk (c : Con) : Prop := c.k < W ∧ c.x ≤ 2 ∧ c.y ≤ 2
def PatOk (p : Pat) : Prop := p.a < 4 ∧ p.b < 4 ∧ ConOk p.con ∧ (p.op.con = false → p.con = NIL)
def LeftCon (c : Con) : Prop := c = ⟨0, 1, 0⟩ ∨ c = ⟨0, 0, 1⟩ ∨ ∃ k, c = ⟨k, 0, 0⟩ ∧ k < W
theorem value_int (c : Con) (h : ConOk c) (x y : Nat) (hx : x < W) (hy : y < W) : ((c.k : Int) + sgn c.x * x + sgn c.y * y).fmod 4294967296 = ((value c x y : Nat) : Int) := by
  obtain ⟨k, cx, cy⟩ := c
  obtain ⟨h1, h2, h3⟩ := h
  unfold value plus less
  unfold W at *
  rw [Int.fmod_eq_emod_of_nonneg _ (by decide)]
  dsimp only at *
  have a1 : cx = 0 ∨ cx = 1 ∨ cx = 2 := by omega
  have a2 : cy = 0 ∨ cy = 1 ∨ cy = 2 := by omega
  rcases a1 with rfl | rfl | rfl <;> rcases a2 with rfl | rfl | rfl <;> simp only [sgn] <;> simp <;> omega
theorem leftCon_ok {b : Bytes} {c : Con} (h : leftCon b = some c) : LeftCon c := by
  unfold leftCon at h
  split at h
  · exact .inl (Option.some.inj h).symm
  · split at h
    · exact .inr (.inl (Option.some.inj h).symm)
    · cases hn : numOf b with
      | none => rw [hn] at h; cases h
      | some n =>
        rw [hn] at h
        exact .inr (.inr ⟨n, (Option.some.inj h).symm, numOf_lt hn⟩)
theorem LeftCon.ok {c : Con} (h : LeftCon c) : ConOk c := by
  rcases h with rfl | rfl | ⟨k, rfl, hk⟩
  · exact ⟨by show 0 < W; decide, by show 1 ≤ 2; decide, by show 0 ≤ 2; decide⟩
  · exact ⟨by show 0 < W; decide, by show 0 ≤ 2; decide, by show 1 ≤ 2; decide⟩
  · exact ⟨hk, by show 0 ≤ 2; decide, by show 0 ≤ 2; decide⟩
theorem tailOf_le (c : UInt8) (b : Bytes) : (tailOf c b).1 ≤ 2 := by
  unfold tailOf
  split
  · show 1 ≤ 2; decide
  · split
    · exact Nat.le_refl _
    · show 0 ≤ 2; decide
theorem rightCon_ok {b : Bytes} {c : Con} (h : rightCon b = some c) : ConOk c := by
  unfold rightCon at h
  dsimp only at h
  cases hn : numOf (tailOf 120 (tailOf 121 b).2).2 with
  | none => rw [hn] at h; cases h
  | some n =>
    rw [hn] at h
    rw [← Option.some.inj h]
    exact ⟨numOf_lt hn, tailOf_le .., tailOf_le ..⟩
theorem nil_ok : ConOk NIL := ⟨by show 0 < W; decide, by show 0 ≤ 2; decide, by show 0 ≤ 2; decide⟩
theorem patOf_ok {con : Bytes → Option Con} (hc : ∀ {b c}, con b = some c → ConOk c) {l : Bytes} {p : Pat} (h : patOf con l = some p) : PatOk p := by
  rw [patOf_raw] at h
  cases hr : rawOf nameOf con l with
  | none => rw [hr] at h; cases h
  | some r =>
    rw [hr] at h
    have hf := raw_fit hr
    rw [← Option.some.inj h]
    unfold rawOf rawW rawR at hr
    match hw : piecesAt 32 l, hr with
    | [], hr => cases hr
    | w :: ws, hr =>
      dsimp only at hr
      cases ho : opOf w with
      | none => rw [ho] at hr; cases hr
      | some o =>
        rw [ho] at hr
        match ws, hr with
        | [], hr => cases hr
        | [a], hr =>
          dsimp only at hr
          split at hr
          · rename_i q
            cases ha : nameOf a with
            | none => rw [ha] at hr; cases hr
            | some x =>
              rw [ha] at hr
              rw [← Option.some.inj hr]
              exact ⟨nameOf_lt ha, by show 0 < 4; decide, nil_ok, fun _ => rfl⟩
          · cases hr
        | [a, b], hr =>
          dsimp only at hr
          split at hr
          · rename_i q
            cases ha : nameOf a with
            | none => rw [ha] at hr; cases hr
            | some x =>
              cases hb : nameOf b with
              | none => rw [ha, hb] at hr; cases hr
              | some y =>
                rw [ha, hb] at hr
                rw [← Option.some.inj hr]
                exact ⟨nameOf_lt ha, nameOf_lt hb, nil_ok, fun _ => rfl⟩
          · split at hr
            · rename_i q
              cases ha : nameOf a with
              | none => rw [ha] at hr; cases hr
              | some x =>
                cases hb : con b with
                | none => rw [ha, hb] at hr; cases hr
                | some y =>
                  rw [ha, hb] at hr
                  rw [← Option.some.inj hr]
                  refine ⟨nameOf_lt ha, by show 0 < 4; decide, hc hb, fun z => ?_⟩
                  have z2 : o.con = false := z
                  rw [q] at z2
                  cases z2
            · cases hr
        | a :: b :: c :: r, hr => cases hr
/-- on the left -/
def PatL (p : Pat) : Prop := PatOk p ∧ (p.op.con = true → LeftCon p.con)
theorem patOf_left {l : Bytes} {p : Pat} (h : patOf leftCon l = some p) : PatL p := by
  refine ⟨patOf_ok (fun h => (leftCon_ok h).ok) h, fun hc => ?_⟩
  rw [patOf_raw] at h
  cases hr : rawOf nameOf leftCon l with
  | none => rw [hr] at h; cases h
  | some r =>
    rw [hr] at h
    have hp := Option.some.inj h
    unfold rawOf rawW rawR at hr
    match hw : piecesAt 32 l, hr with
    | [], hr => cases hr
    | w :: ws, hr =>
      dsimp only at hr
      cases ho : opOf w with
      | none => rw [ho] at hr; cases hr
      | some o =>
        rw [ho] at hr
        match ws, hr with
        | [], hr => cases hr
        | [a], hr =>
          dsimp only at hr
          split at hr
          · rename_i q
            cases ha : nameOf a with
            | none => rw [ha] at hr; cases hr
            | some x =>
              rw [ha] at hr
              rw [← Option.some.inj hr] at hp
              rw [← hp] at hc
              have z : o.con = true := hc
              rw [q.2] at z
              cases z
          · cases hr
        | [a, b], hr =>
          dsimp only at hr
          split at hr
          · rename_i q
            cases ha : nameOf a with
            | none => rw [ha] at hr; cases hr
            | some x =>
              cases hb : nameOf b with
              | none => rw [ha, hb] at hr; cases hr
              | some y =>
                rw [ha, hb] at hr
                rw [← Option.some.inj hr] at hp
                rw [← hp] at hc
                have z : o.con = true := hc
                rw [two_con q] at z
                cases z
          · split at hr
            · cases ha : nameOf a with
              | none => rw [ha] at hr; cases hr
              | some x =>
                cases hb : leftCon b with
                | none => rw [ha, hb] at hr; cases hr
                | some y =>
                  rw [ha, hb] at hr
                  rw [← Option.some.inj hr] at hp
                  rw [← hp]
                  exact leftCon_ok hb
            · cases hr
        | a :: b :: c :: r, hr => cases hr
def RuleOk (r : Rule) : Prop := (∀ p ∈ r.left, PatL p) ∧ ∀ p ∈ r.right, PatOk p
theorem readRule_ok {t : Bytes} {r : Rule} (h : readRule t = .ok r) : RuleOk r := by
  unfold readRule at h
  dsimp only at h
  generalize (piecesAt 10 t).dropLast = l at h
  generalize l.findIdx (fun x => x == str "=>") = n at h
  cases ha : readEach (patOf leftCon) 0 (l.take n) with
  | error k => rw [ha] at h; cases h
  | ok a =>
    rw [ha] at h
    dsimp only at h
    split at h
    · cases h
    · cases hb : readEach (patOf rightCon) (n + 1) (l.drop (n + 1)) with
      | error k => rw [hb] at h; cases h
      | ok b =>
        rw [hb] at h
        dsimp only at h
        split at h
        · have e : (⟨a, b⟩ : Rule) = r := by injection h
          rw [← e]
          refine ⟨fun p hp => ?_, fun p hp => ?_⟩
          · obtain ⟨x, _, hx⟩ := (readEach_mem ha).1 p hp
            exact patOf_left hx
          · obtain ⟨x, _, hx⟩ := (readEach_mem hb).1 p hp
            exact patOf_ok rightCon_ok hx
        · cases h
/-! ### fitting -/
def BoundOk (b : Bound) : Prop := b.regs.length = 4 ∧ (∀ x, b.x = some x → x < W) ∧ ∀ y, b.y = some y → y < W
def B0 : Bound := ⟨List.replicate NAMES NONE, none, none⟩
theorem B0_ok : BoundOk B0 := ⟨rfl, ⟨(fun _ h => by cases h), (fun _ h => by cases h)⟩⟩
theorem bindReg_ok {b b' : Bound} {n r : Nat} (h : BoundOk b) (e : bindReg b n r = some b') : BoundOk b' := by
  unfold bindReg at e
  split at e
  · rw [← Option.some.inj e]
    exact h
  · split at e
    · rw [← Option.some.inj e]
      exact ⟨by show (b.regs.set n r).length = 4; rw [List.length_set]; exact h.1, h.2⟩
    · cases e
theorem bindAll_short : ∀ {b : Bound} {l : List Pat} {c : Code}, c.length < l.length → bindAll b l c = none
  | _, [], _, h => absurd h (Nat.not_lt_zero _)
  | _, _ :: _, [], _ => rfl
  | b, p :: l, i :: c, h => by
    show (bindIns b p i).bind (fun d => bindAll d l c) = none
    cases bindIns b p i with
    | none => rfl
    | some d => exact bindAll_short (b := d) (by rw [List.length_cons, List.length_cons] at h; omega)
theorem bindAll_take : ∀ {b : Bound} {l : List Pat} {c : Code}, bindAll b l (c.take l.length) = bindAll b l c
  | b, [], c => rfl
  | b, p :: l, [] => rfl
  | b, p :: l, i :: c => by
    show (bindIns b p i).bind (fun d => bindAll d l (c.take l.length)) = (bindIns b p i).bind (fun d => bindAll d l c)
    congr 1
    funext d
    exact bindAll_take
end Pb

set_option Elab.async false
set_option linter.all false
set_option maxRecDepth 100000
set_option maxHeartbeats 4000000
namespace Pb
open PySem PySem.Spec PyProof.Rows L2 Evl PbX
/-! ### constants of rules -/
abbrev cCon (K : PySem.W.Frag) : Addr := He.ga K "Constant"
def fCon (n x y : V) : List (Str × V) := [("number", n), ("times_x", x), ("times_y", y)]
def fConL : List V → List (Str × V)
  | [n, x, y] => fCon n x y
  | _ => []
theorem lkN (n x y : V) : (fCon n x y).lookup ("number" : Str) = some n := rfl
theorem lkTx (n x y : V) : (fCon n x y).lookup ("times_x" : Str) = some x := rfl
theorem lkTy (n x y : V) : (fCon n x y).lookup ("times_y" : Str) = some y := rfl
theorem lkWorth (n x y : V) : (fCon n x y).lookup ("worth" : Str) = none := rfl
theorem G_Constant_init {P : Program} {w : World} {K : PySem.W.Frag} {mg : Str → Option Value} {base : Heap} (T : Txt w K mg) : Has P w K mg base CX0 1 (He.ma K (He.ga K "Constant") "__init__") p_Constant_init (spNew (cCon K) 3 fConL) := by
  refine T.d_Constant_init.has sc_Constant_init (fun vs H Q E h => ?_) (fun cdv A outer s H vs Q E hr h => ⟨_, PSs.nox ((pss_cons (ps_fld (pv 0) (pv 1) rfl)
    (pss_cons (ps_fld (pv 0) (pv 2) rfl)
    (pss_one (ps_fld (pv 0) (pv 3) rfl))))), ?_⟩)
  · exact spNew_len vs H Q E h
  · obtain ⟨p, dx, as, rfl, hn, hp, q⟩ := h
    match as, hn with
    | [w, f, s], _ =>
      refine ⟨_, rfl, _, rfl, p, _, dx, _, rfl, hp, T.cl_Constant, T.nF_Constant_number, by show 0 < 1000; decide, ?_⟩
      refine ⟨_, rfl, _, rfl, p, _, dx, _, rfl, upd_same, T.cl_Constant, T.nF_Constant_times_x, by show 1 < 1000; decide, ?_⟩
      refine ⟨_, rfl, _, rfl, p, _, dx, _, rfl, upd_same, T.cl_Constant, T.nF_Constant_times_y, by show 2 < 1000; decide, ?_⟩
      exact q _ (((ExB.refl _ _).upd).upd).upd upd_same
def ConAt (K : PySem.W.Frag) (H : Hp) (v : V) (c : PeRule.Con) : Prop := ∃ a dx, v = .ref a ∧ H a = some (.ins (cCon K) dx (fCon (.int c.k) (.int (sgn c.x)) (.int (sgn c.y))))
theorem conAt_mono (K : PySem.W.Frag) : MonoK (ConAt K) := fun H H' v k e h => by
  obtain ⟨a, dx, rfl, h1⟩ := h
  exact ⟨a, dx, rfl, e _ _ _ _ h1⟩
def spWorth (K : PySem.W.Frag) : Sp := fun vs H Q _ => ∃ (v : V) (c : PeRule.Con) (x y : Nat), vs = [v, .int x, .int y] ∧ ConAt K H v c ∧ ConOk c ∧ x < PeCode.W ∧ y < PeCode.W ∧ Q (.int (PeRule.value c x y : Nat)) H
theorem sgn_in (n : Nat) : -(2 ^ 64) < sgn n ∧ sgn n < 2 ^ 64 := by
  match n with
  | 0 => decide
  | 1 => decide
  | n + 2 => show -(2 ^ 64) < (-1 : Int) ∧ (-1 : Int) < 2 ^ 64; decide
theorem G_Constant_worth {P : Program} {w : World} {K : PySem.W.Frag} {mg : Str → Option Value} {base : Heap} (T : Txt w K mg) : Has P w K mg base CX0 1 (He.ma K (He.ga K "Constant") "worth") p_Constant_worth (spWorth K) := by
  refine T.d_Constant_worth.has sc_Constant_worth (fun vs H Q E h => ?_) (fun cdv A outer s H vs Q E hr h => ⟨_, PSs.nox ((pss_one (ps_ret (pe_op op_modN (pe_op op_add (pe_op op_add (pe_fld (pv 0) rfl) (pe_op op_mul (pe_fld (pv 0) rfl) (pv 1))) (pe_op op_mul (pe_fld (pv 0) rfl) (pv 2))) (pe_gi T.c_MODULUS))))), ?_⟩)
  · obtain ⟨v, c, x, y, rfl, _⟩ := h
    rfl
  · obtain ⟨v, c, x, y, rfl, ⟨a, dx, rfl, ha⟩, ok, hx, hy, q⟩ := h
    refine ⟨_, rfl, a, _, dx, _, _, rfl, ha, T.cl_Constant, T.nF_Constant_number, lkN .., ?_⟩
    refine ⟨_, rfl, a, _, dx, _, _, rfl, ha, T.cl_Constant, T.nF_Constant_times_x, lkTx .., ?_⟩
    refine ⟨_, rfl, _, _, rfl, rfl, .inl (sgn_in _), _, _, rfl, rfl, ?_⟩
    refine ⟨_, rfl, a, _, dx, _, _, rfl, ha, T.cl_Constant, T.nF_Constant_times_y, lkTy .., ?_⟩
    refine ⟨_, rfl, _, _, rfl, rfl, .inl (sgn_in _), _, _, rfl, rfl, ?_⟩
    refine ⟨_, _, rfl, rfl, (by show (4294967296 : Int) ≠ 0; decide), ?_⟩
    rw [← value_int c ok x y hx hy] at q
    exact q
theorem L_x : Str.ofString "x" = S [120] := by decide +kernel
theorem L_y : Str.ofString "y" = S [121] := by decide +kernel
theorem G_read_left_constant {P : Program} {w : World} {K : PySem.W.Frag} {mg : Str → Option Value} {base : Heap} (T : Txt w K mg) : Has P w K mg base CX0 3 (He.ga K "read_left_constant") p_read_left_constant (spReader (ConAt K) PeRule.leftCon) := by
  have G_read_number := G_read_number (P := P) (base := base) T
  have G_Constant_init := G_Constant_init (P := P) (base := base) T
  refine T.d_read_left_constant.has sc_read_left_constant (fun vs H Q E h => ?_) (fun cdv A outer s H vs Q E hr h => ⟨_, PSs.nox ((pss_cons (ps_if (pt_cmpR op_eq (pv 0) pe_str (nomark _)) (pss_one (ps_ret (pe_makeH T.k_Constant G_Constant_init (hr.mono (by decide)) T.g_Constant pass0 (pa_cons pe_int (pa_cons pe_int (pa_cons pe_int pa_nil)))))) pss_nil)
    (pss_cons (ps_if (pt_cmpR op_eq (pv 0) pe_str (nomark _)) (pss_one (ps_ret (pe_makeH T.k_Constant G_Constant_init (hr.mono (by decide)) T.g_Constant pass0 (pa_cons pe_int (pa_cons pe_int (pa_cons pe_int pa_nil)))))) pss_nil)
    (pss_cons (ps_set (i := 1) sc_read_left_constant.nd rfl (Or.inl rfl) (pe_callH G_read_number (hr.mono (by decide)) T.g_read_number pass0 (pa_cons (pv 0) pa_nil)))
    (pss_cons (ps_if (pt_cmpR op_isN (pv 1) pe_non (nomark _)) (pss_one (ps_ret pe_non)) pss_nil)
    (pss_one (ps_ret (pe_makeH T.k_Constant G_Constant_init (hr.mono (by decide)) T.g_Constant pass0 (pa_cons (pv 1) (pa_cons pe_int (pa_cons pe_int pa_nil))))))))))), ?_⟩)
  · obtain ⟨b, rfl, _⟩ := h
    rfl
  · obtain ⟨b, rfl, lo, hb, q⟩ := h
    unfold PeRule.leftCon at q
    have hx : decide (V.str (S b) = V.str (Str.ofString "x")) = decide (b = [120]) := by rw [L_x]; simp only [V.str.injEq, S_eq]
    have hy : decide (V.str (S b) = V.str (Str.ofString "y")) = decide (b = [121]) := by rw [L_y]; simp only [V.str.injEq, S_eq]
    refine ⟨_, rfl, rfl, _, congrArg V.bl hx, iB (fun c => ?_) (fun c => ?_)⟩
    · rw [if_pos (of_decide_eq_true c)] at q
      exact mk_new rfl fun p dx H2 np e2 h2 => q H2 _ e2 ⟨(by intro z; cases z), p, dx, rfl, h2⟩
    rw [if_neg (of_decide_eq_false c)] at q
    refine ⟨_, rfl, rfl, _, congrArg V.bl hy, iB (fun c => ?_) (fun c => ?_)⟩
    · rw [if_pos (of_decide_eq_true c)] at q
      exact mk_new rfl fun p dx H2 np e2 h2 => q H2 _ e2 ⟨(by intro z; cases z), p, dx, rfl, h2⟩
    rw [if_neg (of_decide_eq_false c)] at q
    refine ⟨_, rfl, b, rfl, lo, hb, ?_⟩
    refine ⟨_, rfl, rfl, _, rfl, ?_⟩
    cases hn : PeCode.numOf b with
    | none =>
      rw [hn] at q
      exact q H .non (Ex.refl H) rfl
    | some n =>
      rw [hn] at q
      refine iF (decide_eq_false (by intro z; cases z)) ?_
      exact ⟨_, rfl, mk_new rfl fun p dx H2 np e2 h2 => q H2 _ e2 ⟨(by intro z; cases z), p, dx, rfl, h2⟩⟩
def spTimes : Sp := fun vs H Q _ => ∃ (b : PeCode.Bytes) (c : UInt8), vs = [.str (S b), .str (S [c])] ∧ b.length ≤ 100000 ∧ Q (.int (sgn (PeRule.tailOf c b).1)) H
theorem L_plus : Str.ofString "+" = S [43] := by decide +kernel
theorem L_minus : Str.ofString "-" = S [45] := by decide +kernel
theorem ends_two (b : PeCode.Bytes) (s c : UInt8) : Txt.endswith (S b) (S [s, c]) = decide (b.drop (b.length - 2) = [s, c]) := by
  rw [S_endswith, Bool.eq_iff_iff, decide_eq_true_iff, decide_eq_true_iff]
  constructor
  · exact fun h => h.2
  · intro h
    refine ⟨?_, h⟩
    have := congrArg List.length h
    rw [List.length_drop] at this
    show 2 ≤ b.length
    simp only [List.length_cons, List.length_nil] at this
    omega
theorem G_times_at_end {P : Program} {w : World} {K : PySem.W.Frag} {mg : Str → Option Value} {base : Heap} (T : Txt w K mg) : Has P w K mg base CX0 1 (He.ga K "times_at_end") p_times_at_end spTimes := by
  refine T.d_times_at_end.has sc_times_at_end (fun vs H Q E h => ?_) (fun cdv A outer s H vs Q E hr h => ⟨_, PSs.nox ((pss_cons (ps_if (pt_val (pe_m1 PySem.F.slot_str_endswith PySem.F.type_str_endswith mt_endswith (pv 0) (pe_op op_add_str pe_str (pv 1)))) (pss_one (ps_ret pe_int)) pss_nil)
    (pss_cons (ps_if (pt_val (pe_m1 PySem.F.slot_str_endswith PySem.F.type_str_endswith mt_endswith (pv 0) (pe_op op_add_str pe_str (pv 1)))) (pss_one (ps_ret (pe_un un_neg pe_int))) pss_nil)
    (pss_one (ps_ret pe_int))))), ?_⟩)
  · obtain ⟨b, c, rfl, _⟩ := h
    rfl
  · obtain ⟨b, c, rfl, hb, q⟩ := h
    unfold PeRule.tailOf at q
    refine ⟨_, rfl, ⟨_, rfl⟩, _, rfl, _, _, rfl, rfl, ?_, ?_⟩
    · rw [L_plus, S_len, S_len]
      exact szl (by show 1 + 1 ≤ 1000000; decide)
    rw [L_plus, S_app]
    refine ⟨S b, _, rfl, rfl, _, congrArg V.bl (ends_two b 43 c), iB (fun d => ?_) (fun d => ?_)⟩
    · rw [if_pos (of_decide_eq_true d)] at q
      exact q
    rw [if_neg (of_decide_eq_false d)] at q
    refine ⟨_, rfl, ⟨_, rfl⟩, _, rfl, _, _, rfl, rfl, ?_, ?_⟩
    · rw [L_minus, S_len, S_len]
      exact szl (by show 1 + 1 ≤ 1000000; decide)
    rw [L_minus, S_app]
    refine ⟨S b, _, rfl, rfl, _, congrArg V.bl (ends_two b 45 c), iB (fun d => ?_) (fun d => ?_)⟩
    · rw [if_pos (of_decide_eq_true d)] at q
      exact ⟨_, rfl, q⟩
    rw [if_neg (of_decide_eq_false d)] at q
    exact q
/-- what stands ahead of a tail -/
theorem tail_rest (c : UInt8) (b : PeCode.Bytes) : (PeRule.tailOf c b).2 = if sgn (PeRule.tailOf c b).1 = 0 then b else b.take (b.length - 2) := by
  unfold PeRule.tailOf
  split
  · rfl
  · split <;> rfl
theorem tail_len (c : UInt8) (b : PeCode.Bytes) : (PeRule.tailOf c b).2.length ≤ b.length := by
  rw [tail_rest]
  split
  · exact Nat.le_refl _
  · exact List.length_take_le' ..
theorem tail_lo {c : UInt8} {b : PeCode.Bytes} (h : Lo b) : Lo (PeRule.tailOf c b).2 := by
  rw [tail_rest]
  split
  · exact h
  · exact h.take _
theorem dec0 (i : Int) : decide (V.int i = V.int 0) = decide (i = 0) := by simp only [V.int.injEq]
theorem tail_if {c : UInt8} {b : PeCode.Bytes} {σ : L2.St} {H : Hp} {i j : Nat} (hi : σ[i]? = some (some (.int (sgn (PeRule.tailOf c b).1)))) (hj : σ[j]? = some (some (.str (S b)))) (hl : b.length ≤ 100000) (Q : VK) (q : Q (.str (S (PeRule.tailOf c b).2)) H) :
    tIf (tTest (tOp rEq (tVar i) (tC (V.int 0)))) (tVar j) (tSl rSlS (tVar j) tNoPart (tPart (tUn (rU fun i => V.int (-i)) (tC (V.int 2))))) σ H Q := by
  rw [tail_rest] at q
  refine ⟨_, hi, rfl, _, congrArg V.bl (dec0 _), iB (fun d => ?_) (fun d => ?_)⟩
  · rw [if_pos (of_decide_eq_true d)] at q
    exact ⟨_, hj, q⟩
  · rw [if_neg (of_decide_eq_false d)] at q
    refine ⟨_, hj, 2, rfl, -2, rfl, S b, rfl, szl (by rw [S_len]; omega), ?_⟩
    rw [S_cut2]
    exact q
theorem G_read_right_constant {P : Program} {w : World} {K : PySem.W.Frag} {mg : Str → Option Value} {base : Heap} (T : Txt w K mg) : Has P w K mg base CX0 3 (He.ga K "read_right_constant") p_read_right_constant (spReader (ConAt K) PeRule.rightCon) := by
  have G_read_number := G_read_number (P := P) (base := base) T
  have G_times_at_end := G_times_at_end (P := P) (base := base) T
  have G_Constant_init := G_Constant_init (P := P) (base := base) T
  refine T.d_read_right_constant.has sc_read_right_constant (fun vs H Q E h => ?_) (fun cdv A outer s H vs Q E hr h => ⟨_, PSs.nox ((pss_cons (ps_set (i := 1) sc_read_right_constant.nd rfl (Or.inl rfl) (pe_callH G_times_at_end (hr.mono (by decide)) T.g_times_at_end pass0 (pa_cons (pv 0) (pa_cons pe_str pa_nil))))
    (pss_cons (ps_set (i := 2) sc_read_right_constant.nd rfl (Or.inl rfl) (pe_ifExp (pt_cmpR op_eq (pv 1) pe_int (nomark _)) (pv 0) (pe_slice sl_str (pv 0) po_none (po_some (pe_un un_neg pe_int)))))
    (pss_cons (ps_set (i := 3) sc_read_right_constant.nd rfl (Or.inl rfl) (pe_callH G_times_at_end (hr.mono (by decide)) T.g_times_at_end pass0 (pa_cons (pv 2) (pa_cons pe_str pa_nil))))
    (pss_cons (ps_set (i := 2) sc_read_right_constant.nd rfl (Or.inl rfl) (pe_ifExp (pt_cmpR op_eq (pv 3) pe_int (nomark _)) (pv 2) (pe_slice sl_str (pv 2) po_none (po_some (pe_un un_neg pe_int)))))
    (pss_cons (ps_set (i := 4) sc_read_right_constant.nd rfl (Or.inl rfl) (pe_callH G_read_number (hr.mono (by decide)) T.g_read_number pass0 (pa_cons (pv 2) pa_nil)))
    (pss_cons (ps_if (pt_cmpR op_isN (pv 4) pe_non (nomark _)) (pss_one (ps_ret pe_non)) pss_nil)
    (pss_one (ps_ret (pe_makeH T.k_Constant G_Constant_init (hr.mono (by decide)) T.g_Constant pass0 (pa_cons (pv 4) (pa_cons (pv 3) (pa_cons (pv 1) pa_nil))))))))))))), ?_⟩)
  · obtain ⟨b, rfl, _⟩ := h
    rfl
  · obtain ⟨b, rfl, lo, hb, q⟩ := h
    unfold PeRule.rightCon at q
    dsimp only at q
    have hl := tail_len 121 b
    have hl2 := tail_len 120 (PeRule.tailOf 121 b).2
    refine ⟨_, rfl, b, 121, by rw [L_y], hb, ?_⟩
    refine tail_if rfl rfl hb _ ?_
    refine ⟨_, rfl, _, 120, by rw [L_x], by omega, ?_⟩
    refine tail_if rfl rfl (by omega) _ ?_
    refine ⟨_, rfl, _, rfl, tail_lo (tail_lo lo), by omega, ?_⟩
    refine ⟨_, rfl, rfl, _, rfl, ?_⟩
    cases hn : PeCode.numOf (PeRule.tailOf 120 (PeRule.tailOf 121 b).2).2 with
    | none =>
      rw [hn] at q
      exact q H .non (Ex.refl H) rfl
    | some n =>
      rw [hn] at q
      refine iF (decide_eq_false (by intro z; cases z)) ?_
      exact ⟨_, rfl, _, rfl, _, rfl, mk_new rfl fun p dx H2 np e2 h2 => q H2 _ e2 ⟨(by intro z; cases z), p, dx, rfl, h2⟩⟩
/-! ### rules -/
abbrev cRule (K : PySem.W.Frag) : Addr := He.ga K "Rule"
def fRule (l r t : V) : List (Str × V) := [("left", l), ("right", r), ("text", t)]
def fRuleL : List V → List (Str × V)
  | [l, r, t] => fRule l r t
  | _ => []
theorem lkLeft (l r t : V) : (fRule l r t).lookup ("left" : Str) = some l := rfl
theorem lkRight (l r t : V) : (fRule l r t).lookup ("right" : Str) = some r := rfl
theorem lkText (l r t : V) : (fRule l r t).lookup ("text" : Str) = some t := rfl
theorem G_Rule_init {P : Program} {w : World} {K : PySem.W.Frag} {mg : Str → Option Value} {base : Heap} (T : Txt w K mg) : Has P w K mg base CX0 1 (He.ma K (He.ga K "Rule") "__init__") p_Rule_init (spNew (cRule K) 3 fRuleL) := by
  refine T.d_Rule_init.has sc_Rule_init (fun vs H Q E h => ?_) (fun cdv A outer s H vs Q E hr h => ⟨_, PSs.nox ((pss_cons (ps_fld (pv 0) (pv 1) rfl)
    (pss_cons (ps_fld (pv 0) (pv 2) rfl)
    (pss_one (ps_fld (pv 0) (pv 3) rfl))))), ?_⟩)
  · exact spNew_len vs H Q E h
  · obtain ⟨p, dx, as, rfl, hn, hp, q⟩ := h
    match as, hn with
    | [w, f, s], _ =>
      refine ⟨_, rfl, _, rfl, p, _, dx, _, rfl, hp, T.cl_Rule, T.nF_Rule_left, by show 0 < 1000; decide, ?_⟩
      refine ⟨_, rfl, _, rfl, p, _, dx, _, rfl, upd_same, T.cl_Rule, T.nF_Rule_right, by show 1 < 1000; decide, ?_⟩
      refine ⟨_, rfl, _, rfl, p, _, dx, _, rfl, upd_same, T.cl_Rule, T.nF_Rule_text, by show 2 < 1000; decide, ?_⟩
      exact q _ (((ExB.refl _ _).upd).upd).upd upd_same
/-- a rule's instruction: its third field -/
def SecP (K : PySem.W.Frag) (H : Hp) (s : V) (p : PeRule.Pat) : Prop := if p.op.two = true then s = .int p.b else if p.op.con = true then ConAt K H s p.con else s = .non
def PatAt (K : PySem.W.Frag) (H : Hp) (v : V) (p : PeRule.Pat) : Prop := ∃ a dx s, v = .ref a ∧ H a = some (.ins (cIns K) dx (fIns (.str (S p.op.word)) (.int p.a) s)) ∧ SecP K H s p
theorem PatAt.mono {K : PySem.W.Frag} {H H' : Hp} (e : ExI H H') {v : V} {p : PeRule.Pat} (h : PatAt K H v p) : PatAt K H' v p := by
  obtain ⟨a, dx, s, rfl, h1, h2⟩ := h
  refine ⟨a, dx, s, rfl, e _ _ _ _ h1, ?_⟩
  unfold SecP at h2 ⊢
  split
  · rename_i c
    rw [if_pos c] at h2
    exact h2
  · rename_i c
    rw [if_neg c] at h2
    split
    · rename_i c2
      rw [if_pos c2] at h2
      exact conAt_mono K _ _ _ _ e h2
    · rename_i c2
      rw [if_neg c2] at h2
      exact h2
theorem PatAt.word {K : PySem.W.Frag} {H : Hp} {v : V} {p : PeRule.Pat} (h : PatAt K H v p) : WordV K H v p.op := by
  obtain ⟨a, dx, s, rfl, h1, _⟩ := h
  exact ⟨a, dx, _, _, rfl, h1⟩
theorem patAt_raw {K : PySem.W.Frag} {H : Hp} {v : V} {r : Raw PeRule.Con} (f : r.fit) (h : RawAt K (ConAt K) H v r) : PatAt K H v r.pat := by
  obtain ⟨a, dx, s, rfl, h1, h2⟩ := h
  obtain ⟨op, x, sec⟩ := r
  cases sec with
  | no =>
    have f2 : op.two = false ∧ op.con = false := f
    refine ⟨a, dx, s, rfl, h1, ?_⟩
    unfold SecP
    show if op.two = true then _ else if op.con = true then _ else _
    rw [if_neg (by rw [f2.1]; exact Bool.false_ne_true), if_neg (by rw [f2.2]; exact Bool.false_ne_true)]
    exact h2
  | reg n =>
    have f2 : op.two = true := f
    refine ⟨a, dx, s, rfl, h1, ?_⟩
    unfold SecP
    show if op.two = true then _ else _
    rw [if_pos f2]
    exact h2
  | con k =>
    have f2 : op.con = true := f
    refine ⟨a, dx, s, rfl, h1, ?_⟩
    unfold SecP
    show if op.two = true then _ else if op.con = true then _ else _
    rw [if_neg (by rw [con_two f2]; exact Bool.false_ne_true), if_pos f2]
    exact h2
def SideV (K : PySem.W.Frag) (H : Hp) (vs : List V) (l : List PeRule.Pat) : Prop := All2 (PatAt K H) vs l
theorem sideV_raw {K : PySem.W.Frag} {H : Hp} {vs : List V} {rs : List (Raw PeRule.Con)} (f : ∀ r ∈ rs, r.fit) (h : All2 (RawAt K (ConAt K) H) vs rs) : SideV K H vs (rs.map Raw.pat) :=
  All2.map_r (R := fun v r => RawAt K (ConAt K) H v r ∧ r.fit) (fun v r q => patAt_raw q.2 q.1) (all2_mem h fun v r hr q => ⟨q, f r hr⟩)
/-- a rule as an object -/
def RuleAt (K : PySem.W.Frag) (H : Hp) (v : V) (r : PeRule.Rule) : Prop := ∃ a dx l m us ws, v = .ref a ∧ H a = some (.ins (cRule K) dx (fRule (.ref l) (.ref m) (.str (S r.text)))) ∧ H l = some (.lst us) ∧ H m = some (.lst ws) ∧ SideV K H us r.left ∧ SideV K H ws r.right
theorem RuleAt.mono {K : PySem.W.Frag} {H H' : Hp} (e : Ex H H') {v : V} {r : PeRule.Rule} (h : RuleAt K H v r) : RuleAt K H' v r := by
  obtain ⟨a, dx, l, m, us, ws, rfl, h1, h2, h3, h4, h5⟩ := h
  exact ⟨a, dx, l, m, us, ws, rfl, e _ _ h1, e _ _ h2, e _ _ h3, h4.mono fun _ _ => PatAt.mono (ExI.of e), h5.mono fun _ _ => PatAt.mono (ExI.of e)⟩
theorem held_left {P : Program} {w : World} {K : PySem.W.Frag} {mg : Str → Option Value} {base : Heap} (T : Txt w K mg) : Held P w K mg base 3 (He.ga K "read_left_constant") (spReader (ConAt K) PeRule.leftCon) := (G_read_left_constant T).held (by decide)
theorem held_right {P : Program} {w : World} {K : PySem.W.Frag} {mg : Str → Option Value} {base : Heap} (T : Txt w K mg) : Held P w K mg base 3 (He.ga K "read_right_constant") (spReader (ConAt K) PeRule.rightCon) := (G_read_right_constant T).held (by decide)
end Pb

set_option Elab.async false
set_option linter.all false
set_option maxRecDepth 100000
set_option maxHeartbeats 4000000
namespace Pb
open PySem PySem.Spec PyProof.Rows L2 Evl PbX
/-! ### slices -/
theorem cutV_to (xs : List V) (j : Nat) : cutV xs none (some (j : Int)) = xs.take j := by
  unfold cutV
  have e1 : HT.sIx xs.length 0 none = 0 := rfl
  have e2 : HT.sIx xs.length xs.length (some (j : Int)) = min j xs.length := by
    unfold HT.sIx
    simp
    omega
  rw [e1, e2, List.drop_zero, Nat.sub_zero, List.take_eq_take_iff]
  omega
theorem cutV_from (xs : List V) (j : Nat) : cutV xs (some (j : Int)) none = xs.drop j := by
  unfold cutV
  have e2 : HT.sIx xs.length xs.length none = xs.length := rfl
  have e1 : HT.sIx xs.length 0 (some (j : Int)) = min j xs.length := by
    unfold HT.sIx
    simp
    omega
  rw [e1, e2]
  by_cases h : j ≤ xs.length
  · rw [Nat.min_eq_left h, List.take_of_length_le (by rw [List.length_drop]; exact Nat.le_refl _)]
  · rw [Nat.min_eq_right (by omega), List.drop_of_length_le (Nat.le_refl _), List.drop_of_length_le (by omega)]
    simp
theorem cutV_mid (xs : List V) (i j : Nat) : cutV xs (some (i : Int)) (some ((i : Int) + (j : Int))) = (xs.drop i).take j := by
  unfold cutV
  rw [show ((i : Int) + (j : Int)) = ((i + j : Nat) : Int) by omega, HT.sIx_nat, HT.sIx_nat]
  by_cases h : i ≤ xs.length
  · rw [Nat.min_eq_left h, List.take_eq_take_iff, List.length_drop]
    omega
  · have h1 : min i xs.length = xs.length := by omega
    rw [h1, List.drop_of_length_le (Nat.le_refl _), List.drop_of_length_le (by omega)]
    simp
theorem names_V : ([V.str "a", V.str "b", V.str "c", V.str "d"] : List V) = txV NAMB := by decide +kernel
theorem L_part : Str.ofString "=>" = S (PeCode.str "=>") := by decide +kernel
theorem findIdx_or (l : List PeCode.Bytes) (u : PeCode.Bytes) : l.findIdx (fun x => x == u) = ((l.findIdx? (fun x => x == u)).getD l.length) := by
  cases h : l.findIdx? (fun x => x == u) with
  | none =>
    rw [List.findIdx?_eq_none_iff] at h
    exact List.findIdx_eq_length.mpr fun x hx => h x hx
  | some i =>
    exact (List.findIdx?_eq_some_iff_findIdx_eq.mp h).2
/-- a rule whose lists are new -/
def RuleNew (K : PySem.W.Frag) (H H' : Hp) (v : V) (r : PeRule.Rule) : Prop := RuleAt K H' v r ∧ ∀ a dx l m t, v = .ref a → H' a = some (.ins (cRule K) dx (fRule (.ref l) (.ref m) t)) → H l = none ∧ H m = none
theorem RuleNew.mono {K : PySem.W.Frag} {H H1 H2 : Hp} {v : V} {r : PeRule.Rule} (h : RuleNew K H H1 v r) (e : Ex H1 H2) : RuleNew K H H2 v r := by
  refine ⟨h.1.mono e, fun a dx l m t ev h2 => ?_⟩
  obtain ⟨a', dx', l', m', us, ws, ev', h1, _⟩ := h.1
  have ea : a = a' := V.ref.inj (ev.symm.trans ev')
  subst ea
  rw [e _ _ h1] at h2
  refine h.2 a dx l m t ev ?_
  rw [h1]
  exact h2
def spReadRule (K : PySem.W.Frag) : Sp := fun vs H Q E => ∃ b : PeCode.Bytes, vs = [.str (S b)] ∧ Lo b ∧ b.length ≤ 90000 ∧ (∀ k, PeRule.readRule b = .error k → Refused K E H [.int (-6), .int k]) ∧
  ∀ r, PeRule.readRule b = .ok r → ∀ H' v, Ex H H' → RuleNew K H H' v r → Q v H'
theorem readEach_pat {con : PeCode.Bytes → Option PeRule.Con} (i : Nat) (ls : List PeCode.Bytes) : PeCode.readEach (PeRule.patOf con) i ls = mapE Raw.pat (PeCode.readEach (rawOf PeRule.nameOf con) i ls) := readEach_map (patOf_raw con) ls i
theorem G_read_rule {P : Program} {w : World} {K : PySem.W.Frag} {mg : Str → Option Value} {base : Heap} (T : Txt w K mg) : Has P w K mg base (L2.CX P w) 6 (He.ga K "read_rule") p_read_rule (spReadRule K) := by
  have G_lines_of := G_lines_of (P := P) (base := base) T
  have G_has_open_end := G_has_open_end (P := P) (base := base) T
  have G_NotReadable_init := G_NotReadable_init (P := P) (base := base) T
  have G_Rule_init := G_Rule_init (P := P) (base := base) T
  have GL := G_read_instructions (P := P) (base := base) T nameOf_place (conAt_mono K) (held_left T)
  have GR := G_read_instructions (P := P) (base := base) T nameOf_place (conAt_mono K) (held_right T)
  refine T.d_read_rule.hasX sc_read_rule (fun vs H Q E h => ?_) (fun cdv A outer s H vs Q E hr h => ⟨_, (pss_cons (ps_set (i := 1) sc_read_rule.nd rfl (Or.inl rfl) (pe_callH G_lines_of (hr.mono (by decide)) T.g_lines_of pass0 (pa_cons (pv 0) pa_nil)))
    (pss_cons (ps_set (i := 2) sc_read_rule.nd rfl (Or.inl rfl) (pe_ifExp (pt_cmpR op_in_seq (pe_gs T.c_PARTING) (pv 1) (by rfl)) (pe_bm PySem.F.plainAttrs_list PySem.F.slot_list_index PySem.F.type_list_index mt_index (pv 1) (pa_cons (pe_gs T.c_PARTING) pa_nil)) (pe_callB call_len_seq (by rfl) T.u_len PySem.boot_len (pa_cons (pv 1) pa_nil))))
    (pss_cons (ps_set (i := 3) sc_read_rule.nd rfl (Or.inl rfl) (pe_callH GL (hr.mono (by decide)) T.g_read_instructions (passes_call (takes_of rfl rfl rfl rfl) (fun _ _ _ _ h => h)) (pa_cons (pe_slice sl_list (pv 1) po_none (po_some (pv 2))) (pa_cons pe_int (pa_cons (pe_callTy call_list_of (by rfl) T.u_list (by decide +kernel) (pa_cons (pe_gr T.g_NAMES) pa_nil)) (pa_cons (pe_gr T.g_read_left_constant) pa_nil))))))
    (pss_cons (ps_set (i := 4) sc_read_rule.nd rfl (Or.inl rfl) (pe_callH GR (hr.mono (by decide)) T.g_read_instructions (passes_call (takes_of rfl rfl rfl rfl) (fun _ _ _ _ h => h)) (pa_cons (pe_slice sl_list (pv 1) (po_some (pe_op op_add (pv 2) pe_int)) po_none) (pa_cons (pe_op op_add (pv 2) pe_int) (pa_cons (pe_callTy call_list_of (by rfl) T.u_list (by decide +kernel) (pa_cons (pe_gr T.g_NAMES) pa_nil)) (pa_cons (pe_gr T.g_read_right_constant) pa_nil))))))
    (pss_cons (ps_if (PW.pt (pw_or (pt_cmpR op_eq (pv 2) (pe_callB call_len_seq (by rfl) T.u_len PySem.boot_len (pa_cons (pv 1) pa_nil)) (nomark _)) (pw_or1 (pt_val (pe_callH G_has_open_end (hr.mono (by decide)) T.g_has_open_end pass0 (pa_cons (pv 0) pa_nil)))))) (pss_one (ps_raise rfl (takes_of rfl rfl rfl rfl) (pmk_cH T.x_NotReadable G_NotReadable_init (hr.mono (by decide)) T.g_NotReadable (pa_cons (pe_callB call_len_seq (by rfl) T.u_len PySem.boot_len (pa_cons (pv 1) pa_nil)) pa_nil)))) pss_nil)
    (pss_one (ps_ret (pe_makeH T.k_Rule G_Rule_init (hr.mono (by decide)) T.g_Rule pass0 (pa_cons (pv 3) (pa_cons (pv 4) (pa_cons (pv 0) pa_nil))))))))))), ?_⟩)
  · obtain ⟨b, rfl, _⟩ := h
    rfl
  · obtain ⟨b, rfl, lo, hb, qE, qV⟩ := h
    have L := lines_lo lo hb
    refine ⟨_, rfl, b, rfl, by omega, fun H1 p hp e1 hl => ?_⟩
    have hl : H1 p = some (.lst (txV (PeCode.piecesAt 10 b).dropLast)) := hl
    unfold PeRule.readRule at qE qV
    dsimp only at qE qV
    have hopen : openEnd b = decide ((PeCode.piecesAt 10 b).getLast? ≠ some []) := rfl
    generalize hls : (PeCode.piecesAt 10 b).dropLast = ls at L hl qE qV
    generalize hn : ls.findIdx (fun x => x == PeCode.str "=>") = n at qE qV
    -- where the sides are parted
    refine (ev_if (v := V.int (n : Nat)) (b := inV (.str (Str.ofString "=>")) (txV ls)) (et_test (ev_op ev_c (ev_var rfl) (rv_isL (sq_of hl) rfl (txV_flat _)))) (fun c => ?_) (fun c => ?_)) H1 (Ex.refl H1) _ (fun H2 e2 => ?_)
    · rw [L_part, inV_txV] at c
      intro H2 e2 Q2 q2
      have hlt : n < ls.length := by
        rw [← hn]
        obtain ⟨x, hx, hxe⟩ := List.any_eq_true.mp c
        exact List.findIdx_lt_length.mpr ⟨x, hx, hxe⟩
      have hat : (ls[n] == PeCode.str "=>") = true := by
        have := List.findIdx_getElem (p := fun x => x == PeCode.str "=>") (xs := ls) (w := by rw [hn]; exact hlt)
        simpa [hn] using this
      refine ⟨_, rfl, .inl ⟨rfl, _, sq_of (e2 _ _ hl)⟩, p, txV ls, .str (S (PeCode.str "=>")), n, .str (S ls[n]), rfl, by rw [L_part], sq_of (e2 _ _ hl), rfl, txV_flat _, ?_, ?_, ?_, q2 H2 (Ex.refl H2)⟩
      · rw [List.getElem?_map, List.getElem?_eq_getElem hlt]
        rfl
      · rw [eqV_S]
        exact hat
      · intro m z hm hz
        obtain ⟨x, hx, rfl⟩ := map_at hz
        rw [eqV_S]
        have hml : m < ls.length := by omega
        rw [List.getElem?_eq_getElem hml] at hx
        rw [← Option.some.inj hx]
        have := List.not_of_lt_findIdx (p := fun x => x == PeCode.str "=>") (xs := ls) (i := m) (by rw [hn]; exact hm)
        simpa using this
    · rw [L_part, inV_txV] at c
      intro H2 e2 Q2 q2
      have hlen : n = ls.length := by
        rw [← hn]
        refine List.findIdx_eq_length.mpr fun x hx => ?_
        cases e : x == PeCode.str "=>" with
        | false => rfl
        | true => rw [List.any_eq_true.mpr ⟨x, hx, e⟩] at c; cases c
      refine ⟨_, rfl, p, txV ls, rfl, .inl (sq_of (e2 _ _ hl)), ?_⟩
      rw [List.length_map, ← hlen]
      exact q2 H2 (Ex.refl H2)
    have hn2 : n ≤ ls.length := by rw [← hn]; exact List.findIdx_le_length
    have e12 := e1.trans e2
    have hl2 := e2 _ _ hl
    -- the left side
    refine ⟨_, rfl, _, rfl, _, rfl, p, _, rfl, SqL.of hl2, fun p2 hp2 => ?_⟩
    refine ⟨_, _, rfl, .inr (T.tp_NAMES _), fun p3 hp3 => ?_⟩
    have e3 := (e12.trans (Ex.new (o := .lst (cutV (txV ls) none (some (n : Int)))) hp2)).trans (Ex.new (o := .lst [V.str "a", V.str "b", V.str "c", V.str "d"]) hp3)
    have hl3 := ((Ex.new (o := .lst (cutV (txV ls) none (some (n : Int)))) hp2).trans (Ex.new (o := .lst [V.str "a", V.str "b", V.str "c", V.str "d"]) hp3)) _ _ hl2
    refine ⟨p2, p3, 0, ls.take n, rfl, SqL.of ?_, ?_, fun l hl => L.2 l (List.mem_of_mem_take hl), SqL.of ?_, ?_, ?_⟩
    · rw [upd_ne (ne_of_none upd_same hp3), upd_same, cutV_to, ← List.map_take]
    · rw [List.length_take]
      omega
    · rw [upd_same, names_V]
    · intro k hk
      have hk2 : PeCode.readEach (PeRule.patOf PeRule.leftCon) 0 (ls.take n) = .error k := by rw [readEach_pat, hk]; rfl
      rw [hk2] at qE
      exact (qE k rfl).mono e3
    intro rs hk H4 p4 vs hp4 e4 hv hall
    have hk2 : PeCode.readEach (PeRule.patOf PeRule.leftCon) 0 (ls.take n) = .ok (rs.map Raw.pat) := by rw [readEach_pat, hk]; rfl
    have hside : SideV K H4 vs (rs.map Raw.pat) := sideV_raw (readEach_all (fun l a h => raw_fit h) hk) hall
    rw [hk2] at qE qV
    have e34 := e3.trans e4
    have hl4 := e4 _ _ hl3
    -- the right side
    refine ⟨_, rfl, _, rfl, _, _, rfl, rfl, _, rfl, p, _, rfl, SqL.of hl4, fun p5 hp5 => ?_⟩
    refine ⟨_, rfl, _, _, rfl, rfl, _, _, rfl, .inr (T.tp_NAMES _), fun p6 hp6 => ?_⟩
    have x5 := Ex.new (o := .lst (cutV (txV ls) (some ((n : Int) + 1)) none)) hp5
    have x6 := Ex.new (o := .lst [V.str "a", V.str "b", V.str "c", V.str "d"]) hp6
    have e6 := (e34.trans x5).trans x6
    have hl6 := (x5.trans x6) _ _ hl4
    refine ⟨p5, p6, n + 1, ls.drop (n + 1), rfl, SqL.of ?_, ?_, fun l hl => L.2 l (List.mem_of_mem_drop hl), SqL.of ?_, ?_, ?_⟩
    · rw [upd_ne (ne_of_none upd_same hp6), upd_same, show ((n : Int) + 1) = ((n + 1 : Nat) : Int) from rfl, cutV_from, ← List.map_drop]
    · rw [List.length_drop]
      omega
    · rw [upd_same, names_V]
    · intro k hk
      by_cases hlt : ls.length ≤ n
      · rw [List.drop_of_length_le (by omega)] at hk
        cases hk
      · have hk3 : PeCode.readEach (PeRule.patOf PeRule.rightCon) (n + 1) (ls.drop (n + 1)) = .error k := by rw [readEach_pat, hk]; rfl
        refine (qE k ?_).mono e6
        dsimp only
        rw [if_neg hlt, hk3]
    intro rs2 hk2' H7 p7 ws hp7 e7 hw hall2
    have hk3 : PeCode.readEach (PeRule.patOf PeRule.rightCon) (n + 1) (ls.drop (n + 1)) = .ok (rs2.map Raw.pat) := by rw [readEach_pat, hk2']; rfl
    have hside2 : SideV K H7 ws (rs2.map Raw.pat) := sideV_raw (readEach_all (fun l a h => raw_fit h) hk2') hall2
    have e67 := e6.trans e7
    have hl7 := e7 _ _ hl6
    have hv7 := e7 _ _ ((x5.trans x6) _ _ hv)
    have hside7 : SideV K H7 vs (rs.map Raw.pat) := hside.mono fun _ _ => PatAt.mono (ExI.of ((x5.trans x6).trans e7))
    dsimp only at qE qV
    have raise_ : Refused K E H7 [.int (-6), .int (ls.length : Nat)] → ∀ D : Ends, (tMkO (He.ga K "NotReadable") (spRefOwn K 1 argsF) [] (tCons (tCB (fun xs H Q => ∃ p ys, xs = [V.ref p] ∧ (SqL K H p ys ∨ SqT K H p ys) ∧ Q (V.int ys.length) H) (tCons (tVar 1) tNil)) tNil)) [some (.str (S b)), some (.ref p), some (.int (n : Nat)), some (.ref p4), some (.ref p7)] H7 (fun cls d H' => E cls d H') := fun hR D => by
      refine ⟨_, rfl, p, _, rfl, .inl (SqL.of hl7), ?_⟩
      refine mkO_ref T.x_NotReadable hR rfl (by decide) (by show 2 ≤ 1000; decide) fun _ _ => ⟨_, rfl, ?_⟩
      rw [List.length_map]
    refine ⟨_, rfl, _, rfl, p, _, rfl, .inl (SqL.of hl7), rfl, _, rfl, iB (fun c => ?_) (fun c => ?_)⟩
    · have hlen : n = ls.length := by
        have := V.int.inj (of_decide_eq_true c)
        rw [List.length_map] at this
        omega
      refine raise_ ((qE ls.length ?_).mono e67) ⟨fun _ _ => True, fun _ _ => True, fun _ _ => True, fun _ _ => True⟩
      rw [if_pos (by omega)]
    have hlt : ¬ ls.length ≤ n := by
      intro z
      refine of_decide_eq_false c ?_
      have hz : n = ls.length := by omega
      rw [List.length_map, ← hz]
    rw [if_neg hlt, hk3] at qE qV
    dsimp only at qE qV
    refine ⟨_, rfl, b, rfl, _, rfl, iB (fun c => ?_) (fun c => ?_)⟩
    · rw [hopen] at c
      refine raise_ ((qE ls.length ?_).mono e67) ⟨fun _ _ => True, fun _ _ => True, fun _ _ => True, fun _ _ => True⟩
      rw [if_neg (of_decide_eq_true c)]
    · rw [hopen] at c
      have c2 := Classical.not_not.mp (of_decide_eq_false c)
      rw [if_pos c2] at qV
      have hrr : PeRule.readRule b = .ok ⟨rs.map Raw.pat, rs2.map Raw.pat⟩ := by
        unfold PeRule.readRule
        dsimp only
        rw [hls, hn, hk2]
        dsimp only
        rw [if_neg hlt, hk3]
        dsimp only
        rw [if_pos c2]
      refine ⟨_, rfl, _, rfl, _, rfl, mk_new rfl fun q dx H8 nq e8 h8 => ?_⟩
      refine qV _ rfl H8 _ (e67.trans e8) ⟨⟨q, dx, p4, p7, vs, ws, rfl, ?_, e8 _ _ hv7, e8 _ _ hw, ?_, ?_⟩, fun a' dx' l' m' t' ev h2 => ?_⟩
      · rw [h8, readRule_text hrr]
        rfl
      · exact hside7.mono fun _ _ => PatAt.mono (ExI.of e8)
      · exact hside2.mono fun _ _ => PatAt.mono (ExI.of e8)
      · have ea := V.ref.inj ev
        subst ea
        rw [h8] at h2
        injection h2 with h2
        injection h2 with _ _ h2
        injection h2 with h3 h4
        injection h4 with h4 _
        injection h3 with _ h3
        injection h4 with _ h4
        have h3 := V.ref.inj h3
        have h4 := V.ref.inj h4
        subst h3 h4
        exact ⟨fresh_back e3 hp4, fresh_back e6 hp7⟩
end Pb

set_option Elab.async false
set_option linter.all false
set_option maxRecDepth 100000
set_option maxHeartbeats 4000000
namespace Pb
open PySem PySem.Spec PyProof.Rows L2 Evl PbX
/-! ### parts -/
def partV (p : PeRule.Pat) : List V := V.int (p.a : Nat) :: ((if p.op.two = true then [V.int (p.b : Nat)] else []) ++ if p.op.con = true then (if p.con.x ≠ 0 then [V.str "x"] else []) ++ (if p.con.y ≠ 0 then [V.str "y"] else []) else [])
def partsV (l : List PeRule.Pat) : List V := l.flatMap partV
theorem partV_len (p : PeRule.Pat) : (partV p).length ≤ 4 := by
  unfold partV
  simp only [List.length_cons, List.length_append]
  split <;> split <;> (try split) <;> (try split) <;> simp
theorem partsV_len : ∀ l : List PeRule.Pat, (partsV l).length ≤ 4 * l.length
  | [] => Nat.le_refl _
  | p :: l => by
    have ih := partsV_len l
    have := partV_len p
    show (partV p ++ partsV l).length ≤ _
    rw [List.length_append, List.length_cons]
    omega
theorem partV_flat (p : PeRule.Pat) : (partV p).all flatV = true := by
  unfold partV
  rw [List.all_cons, List.all_append]
  split <;> split <;> (try split) <;> (try split) <;> rfl
theorem partsV_flat : ∀ l : List PeRule.Pat, (partsV l).all flatV = true
  | [] => rfl
  | p :: l => by
    show (partV p ++ partsV l).all flatV = true
    rw [List.all_append, partV_flat, partsV_flat l]
    rfl
theorem inV_app (v : V) (a b : List V) : inV v (a ++ b) = (inV v a || inV v b) := by
  unfold inV
  rw [List.any_append]
theorem eqI (m n : Nat) : eqV (.int (m : Nat)) (.int (n : Nat)) = (m == n) := by
  show ((m : Int) == (n : Int)) = _
  rw [Bool.eq_iff_iff, beq_iff_eq, beq_iff_eq]
  exact Int.ofNat_inj
theorem in_int (n : Nat) : ∀ l : List PeRule.Pat, inV (.int (n : Nat)) (partsV l) = (PeRule.namesIn l).contains n
  | [] => rfl
  | p :: l => by
    have ih := in_int n l
    show inV _ (partV p ++ partsV l) = (PeRule.Pat.names p ++ PeRule.namesIn l).contains n
    rw [inV_app, ih, List.contains_eq_any_beq, List.contains_eq_any_beq, List.any_append]
    congr 1
    unfold partV PeRule.Pat.names inV
    have e : ∀ m : Nat, (m == n) = (n == m) := fun m => by rw [Bool.eq_iff_iff, beq_iff_eq, beq_iff_eq]; exact ⟨Eq.symm, Eq.symm⟩
    have z : ((if p.op.con = true then (if p.con.x ≠ 0 then [V.str "x"] else []) ++ (if p.con.y ≠ 0 then [V.str "y"] else []) else []) : List V).any (fun y => eqV y (.int (n : Nat))) = false := by
      split <;> (try split) <;> (try split) <;> rfl
    rw [List.any_cons, List.any_append, z, Bool.or_false, eqI, e]
    split
    · show _ = ([p.a, p.b].any fun x => n == x)
      rw [List.any_cons, List.any_cons, List.any_cons, eqI, e]
      rfl
    · rfl
theorem in_x : ∀ l : List PeRule.Pat, (∀ p ∈ l, PatOk p) → inV (.str "x") (partsV l) = PeRule.usesX l
  | [], _ => rfl
  | p :: l, h => by
    have ih := in_x l fun q hq => h q (List.mem_cons_of_mem _ hq)
    have hp := (h p (List.mem_cons_self ..)).2.2.2
    show inV _ (partV p ++ partsV l) = (p.con.x != 0 || PeRule.usesX l)
    rw [inV_app, ih]
    congr 1
    unfold partV inV
    rw [List.any_cons, List.any_append]
    have z : ((if p.op.two = true then [V.int (p.b : Nat)] else []) : List V).any (fun y => eqV y (.str "x")) = false := by
      split <;> rfl
    rw [z, Bool.false_or]
    show (false || _) = _
    rw [Bool.false_or]
    cases hc : p.op.con with
    | false =>
      rw [hp hc]
      rfl
    | true =>
      rw [if_pos rfl, List.any_append]
      by_cases hx : p.con.x = 0
      · rw [if_neg (by simpa using hx)]
        have : (p.con.x != 0) = false := by simpa using hx
        rw [this]
        split <;> rfl
      · rw [if_pos hx]
        have : (p.con.x != 0) = true := by simpa using hx
        rw [this]
        split <;> rfl
theorem in_y : ∀ l : List PeRule.Pat, (∀ p ∈ l, PatOk p) → inV (.str "y") (partsV l) = PeRule.usesY l
  | [], _ => rfl
  | p :: l, h => by
    have ih := in_y l fun q hq => h q (List.mem_cons_of_mem _ hq)
    have hp := (h p (List.mem_cons_self ..)).2.2.2
    show inV _ (partV p ++ partsV l) = (p.con.y != 0 || PeRule.usesY l)
    rw [inV_app, ih]
    congr 1
    unfold partV inV
    rw [List.any_cons, List.any_append]
    have z : ((if p.op.two = true then [V.int (p.b : Nat)] else []) : List V).any (fun y => eqV y (.str "y")) = false := by
      split <;> rfl
    rw [z, Bool.false_or]
    show (false || _) = _
    rw [Bool.false_or]
    cases hc : p.op.con with
    | false =>
      rw [hp hc]
      rfl
    | true =>
      rw [if_pos rfl, List.any_append]
      have zx : ((if p.con.x ≠ 0 then [V.str "x"] else []) : List V).any (fun y => eqV y (.str "y")) = false := by
        split <;> rfl
      rw [zx, Bool.false_or]
      by_cases hx : p.con.y = 0
      · rw [if_neg (by simpa using hx)]
        have : (p.con.y != 0) = false := by simpa using hx
        rw [this]
        rfl
      · rw [if_pos hx]
        have : (p.con.y != 0) = true := by simpa using hx
        rw [this]
        rfl
theorem parts_all (f : V → Bool) : ∀ l : List PeRule.Pat, (∀ p ∈ l, PatOk p) → (partsV l).all f = ((PeRule.namesIn l).all (fun n => f (.int (n : Nat))) && ((!PeRule.usesX l || f (.str "x")) && (!PeRule.usesY l || f (.str "y"))))
  | [], _ => rfl
  | p :: l, h => by
    have ih := parts_all f l fun q hq => h q (List.mem_cons_of_mem _ hq)
    have hp := (h p (List.mem_cons_self ..)).2.2.2
    show (partV p ++ partsV l).all f = ((PeRule.Pat.names p ++ PeRule.namesIn l).all _ && ((!(p.con.x != 0 || PeRule.usesX l) || _) && (!(p.con.y != 0 || PeRule.usesY l) || _)))
    rw [List.all_append, List.all_append, ih]
    have e : (partV p).all f = ((PeRule.Pat.names p).all (fun n => f (.int (n : Nat))) && ((!(p.con.x != 0) || f (.str "x")) && (!(p.con.y != 0) || f (.str "y")))) := by
      unfold partV PeRule.Pat.names
      rw [List.all_cons, List.all_append]
      cases hc : p.op.con with
      | false =>
        rw [hp hc]
        cases p.op.two <;> simp [PeRule.NIL]
      | true =>
        rw [con_two hc]
        have bx : (p.con.x != 0) = decide (p.con.x ≠ 0) := by by_cases hx : p.con.x = 0 <;> simp [hx]
        have by' : (p.con.y != 0) = decide (p.con.y ≠ 0) := by by_cases hx : p.con.y = 0 <;> simp [hx]
        rw [bx, by']
        by_cases hx : p.con.x = 0 <;> by_cases hy : p.con.y = 0 <;> simp [hx, hy]
    rw [e]
    generalize (PeRule.Pat.names p).all (fun n => f (.int (n : Nat))) = a1
    generalize (PeRule.namesIn l).all (fun n => f (.int (n : Nat))) = a2
    cases (p.con.x != 0) <;> cases (p.con.y != 0) <;> cases PeRule.usesX l <;> cases PeRule.usesY l <;> cases f (.str "x") <;> cases f (.str "y") <;> cases a1 <;> cases a2 <;> rfl
end Pb

set_option Elab.async false
set_option linter.all false
set_option maxRecDepth 100000
set_option maxHeartbeats 4000000
namespace Pb
open PySem PySem.Spec PyProof.Rows L2 Evl PbX
theorem SideV.mono {K : PySem.W.Frag} {H H' : Hp} (e : ExI H H') {vs : List V} {l : List PeRule.Pat} (h : SideV K H vs l) : SideV K H' vs l := All2.mono (fun _ _ => PatAt.mono e) h
theorem secP_two {K : PySem.W.Frag} {H : Hp} {s : V} {p : PeRule.Pat} (h : SecP K H s p) (c : p.op.two = true) : s = .int p.b := by
  unfold SecP at h
  rw [if_pos c] at h
  exact h
theorem secP_con {K : PySem.W.Frag} {H : Hp} {s : V} {p : PeRule.Pat} (h : SecP K H s p) (c : p.op.con = true) : ConAt K H s p.con := by
  unfold SecP at h
  rw [if_neg (by rw [con_two c]; exact Bool.false_ne_true), if_pos c] at h
  exact h
theorem sgn0 {n : Nat} (h : n ≤ 2) : (!decide (V.int (sgn n) = V.int 0)) = decide (n ≠ 0) := by
  match n, h with
  | 0, _ => rfl
  | 1, _ => rfl
  | 2, _ => rfl
  | n + 3, h => omega
theorem partsV_snoc (l : List PeRule.Pat) (p : PeRule.Pat) : partsV (l ++ [p]) = partsV l ++ partV p := by
  unfold partsV
  rw [List.flatMap_append, List.flatMap_singleton]
theorem partV_con {p : PeRule.Pat} (c : p.op.con = true) : partV p = V.int (p.a : Nat) :: ((if p.con.x ≠ 0 then [V.str "x"] else []) ++ (if p.con.y ≠ 0 then [V.str "y"] else [])) := by
  unfold partV
  rw [con_two c, c]
  rfl
theorem partV_two {p : PeRule.Pat} (c : p.op.two = true) : partV p = [V.int (p.a : Nat), V.int (p.b : Nat)] := by
  unfold partV
  rw [two_con c, c]
  rfl
theorem partV_no {p : PeRule.Pat} (c : p.op.two = false) (d : p.op.con = false) : partV p = [V.int (p.a : Nat)] := by
  unfold partV
  rw [c, d]
  rfl
def spPartsOf (K : PySem.W.Frag) : Sp := fun vs H Q _ => ∃ (l : Addr) (us : List V) (ps : List PeRule.Pat), vs = [.ref l] ∧ SqL K H l us ∧ SideV K H us ps ∧ (∀ p ∈ ps, PatOk p) ∧ ps.length ≤ 5000 ∧ ∀ H' q, H q = none → Ex H H' → H' q = some (.lst (partsV ps)) → Q (.ref q) H'
theorem G_parts_of {P : Program} {w : World} {K : PySem.W.Frag} {mg : Str → Option Value} {base : Heap} (T : Txt w K mg) : Has P w K mg base CX0 1 (He.ga K "parts_of") p_parts_of (spPartsOf K) := by
  refine T.d_parts_of.has sc_parts_of (fun vs H Q E h => ?_) (fun cdv A outer s H vs Q E hr h => ⟨_, PSs.nox ((pss_cons (ps_set (i := 1) sc_parts_of.nd rfl (Or.inl rfl) (pe_lst pa_nil))
    (pss_cons (ps_for PassesOwn.never rfl (pi_list (pv 0)) (pg_name (i := 2) sc_parts_of.nd rfl (Or.inl rfl)) (pss_cons (ps_expr (pe_bm PySem.F.plainAttrs_list PySem.F.slot_list_append PySem.F.type_list_append mt_append (pv 1) (pa_cons (pe_fld (pv 2) rfl) pa_nil)))
    (pss_cons (ps_if (pt_cmpR op_in_seq (pe_fld (pv 2) rfl) (pe_gr T.g_WITH_SECOND) (by rfl)) (pss_one (ps_expr (pe_bm PySem.F.plainAttrs_list PySem.F.slot_list_append PySem.F.type_list_append mt_append (pv 1) (pa_cons (pe_fld (pv 2) rfl) pa_nil)))) pss_nil)
    (pss_one (ps_if (pt_cmpR op_in_seq (pe_fld (pv 2) rfl) (pe_gr T.g_WITH_CONSTANT) (by rfl)) (pss_cons (ps_if (pt_cmpR op_ne (pe_fld (pe_fld (pv 2) rfl) rfl) pe_int (nomark _)) (pss_one (ps_expr (pe_bm PySem.F.plainAttrs_list PySem.F.slot_list_append PySem.F.type_list_append mt_append (pv 1) (pa_cons pe_str pa_nil)))) pss_nil)
    (pss_one (ps_if (pt_cmpR op_ne (pe_fld (pe_fld (pv 2) rfl) rfl) pe_int (nomark _)) (pss_one (ps_expr (pe_bm PySem.F.plainAttrs_list PySem.F.slot_list_append PySem.F.type_list_append mt_append (pv 1) (pa_cons pe_str pa_nil)))) pss_nil))) pss_nil)))))
    (pss_one (ps_ret (pv 1)))))), ?_⟩)
  · obtain ⟨l, us, ps, rfl, _⟩ := h
    rfl
  · obtain ⟨l, us, ps, rfl, hl, hc, ok, hz, q⟩ := h
    refine ⟨by show 0 ≤ sizeLine; exact Nat.zero_le _, fun t ht => ?_⟩
    refine ⟨_, rfl, l, rfl, ⟨_, ex_l (Ex.new ht) hl⟩, ?_⟩
    refine for_it (walk_list (a := l) (xs := us)) (fun i σ H1 => (∃ x, σ = [some (.ref l), some (.ref t), x]) ∧ Ex H H1 ∧ H1 t = some (.lst (partsV (ps.take i)))) ⟨⟨_, rfl⟩, Ex.new ht, upd_same⟩ (fun i σ H1 _ q => ex_l q.2.1 hl) ?_ ?_
    · rintro i x σ H1 H2 hi ⟨⟨y, rfl⟩, e1, ht1⟩ ⟨rfl, hx⟩
      obtain ⟨p, hp, a, dx, s, rfl, ha, hs⟩ := hc.at_ hx
      have okp := ok p (List.mem_of_getElem? hp)
      have hsz := partsV_len (ps.take i)
      rw [List.length_take] at hsz
      have hin : ∀ H3 : Hp, Ex H H3 → H3 a = some (.ins (cIns K) dx (fIns (.str (S p.op.word)) (.int p.a) s)) := fun H3 e => e a _ ha
      -- what is appended goes on
      have fin : ∀ (H3 : Hp), Ex H H3 → H3 t = some (.lst (partsV (ps.take i) ++ partV p)) → (∃ x, ([some (.ref l), some (.ref t), some (.ref a)] : L2.St) = [some (.ref l), some (.ref t), x]) ∧ Ex H H3 ∧ H3 t = some (.lst (partsV (ps.take (i + 1)))) := fun H3 e3 h3 =>
        ⟨⟨_, rfl⟩, e3, by rw [h3, take_next hp, partsV_snoc]⟩
      -- first
      refine ⟨_, rfl, .inl ⟨rfl, _, SqL.of ht1⟩, _, rfl, a, _, dx, _, _, rfl, hin _ e1, T.cl_Instruction, T.nF_Instruction_first, lkF .., t, _, _, rfl, rfl, ht1, szlt (by omega), ?_⟩
      have e2 := e1.mut (o := .lst (partsV (ps.take i) ++ [V.int (p.a : Nat)])) ht
      have ht2 : upd H2 t (.lst (partsV (ps.take i) ++ [V.int (p.a : Nat)])) t = some (.lst (partsV (ps.take i) ++ [V.int (p.a : Nat)])) := upd_same
      generalize upd H2 t (.lst (partsV (ps.take i) ++ [V.int (p.a : Nat)])) = H3 at e2 ht2 ⊢
      refine ⟨_, rfl, a, _, dx, _, _, rfl, hin _ e2, T.cl_Instruction, T.nF_Instruction_word, lkW .., ?_⟩
      refine ⟨_, _, rfl, .inr (T.tp_WITH_SECOND _), rfl, rfl, p.op.two, congrArg V.bl (two_in p.op), iB (fun c => ?_) (fun c => ?_)⟩
      · -- a second name
        refine ⟨_, rfl, .inl ⟨rfl, _, SqL.of ht2⟩, _, rfl, a, _, dx, _, _, rfl, hin _ e2, T.cl_Instruction, T.nF_Instruction_second, lkS .., ?_⟩
        rw [secP_two hs c]
        refine ⟨t, _, _, rfl, rfl, ht2, szlt (by rw [List.length_append]; show _ + 1 < _; omega), ?_⟩
        have e3 := e2.mut (o := .lst ((partsV (ps.take i) ++ [V.int (p.a : Nat)]) ++ [V.int (p.b : Nat)])) ht
        refine ⟨_, rfl, a, _, dx, _, _, rfl, hin _ e3, T.cl_Instruction, T.nF_Instruction_word, lkW .., ?_⟩
        refine ⟨_, _, rfl, .inr (T.tp_WITH_CONSTANT _), rfl, rfl, false, congrArg V.bl ((con_in p.op).trans (two_con c)), ?_⟩
        refine fin _ e3 ?_
        rw [upd_same]
        rw [partV_two c]
        simp
      refine ⟨_, rfl, a, _, dx, _, _, rfl, hin _ e2, T.cl_Instruction, T.nF_Instruction_word, lkW .., ?_⟩
      refine ⟨_, _, rfl, .inr (T.tp_WITH_CONSTANT _), rfl, rfl, p.op.con, congrArg V.bl (con_in p.op), iB (fun c2 => ?_) (fun c2 => ?_)⟩
      · have hcon := secP_con hs c2
        obtain ⟨b, db, rfl, hb⟩ := hcon
        have hbin : ∀ H3 : Hp, Ex H H3 → H3 b = some (.ins (cCon K) db (fCon (.int p.con.k) (.int (sgn p.con.x)) (.int (sgn p.con.y)))) := fun H3 e => e b _ hb
        have rest : ∀ (H4 : Hp), Ex H H4 → H4 t = some (.lst ((partsV (ps.take i) ++ [V.int (p.a : Nat)]) ++ (if p.con.x ≠ 0 then [V.str "x"] else []))) → ∀ D : Ends, D.nx = (fun σ H1 => (∃ x, σ = [some (.ref l), some (.ref t), x]) ∧ Ex H H1 ∧ H1 t = some (.lst (partsV (ps.take (i + 1))))) →
            tIfS (tTest (tOp rNe (tFld K (tFld K (tVar 2) "second") "times_y") (tC (V.int 0)))) (tDrop (tBM K "list" rAppend (tVar 1) (tCons (tC (V.str "y")) tNil))) tNext D [some (.ref l), some (.ref t), some (.ref a)] H4 := fun H4 e4 h4 D hD => by
          have hl4 : ((partsV (ps.take i) ++ [V.int (p.a : Nat)]) ++ (if p.con.x ≠ 0 then [V.str "x"] else [])).length ≤ 4 * 5000 + 2 := by
            rw [List.length_append, List.length_append]
            show (_ + 1) + _ ≤ _
            split <;> simp <;> omega
          refine ⟨_, rfl, a, _, dx, _, _, rfl, hin _ e4, T.cl_Instruction, T.nF_Instruction_second, lkS .., b, _, db, _, _, rfl, hbin _ e4, T.cl_Constant, T.nF_Constant_times_y, lkTy .., rfl, _, congrArg V.bl (sgn0 okp.2.2.1.2.2), iB (fun d => ?_) (fun d => ?_)⟩
          · refine ⟨_, rfl, .inl ⟨rfl, _, SqL.of h4⟩, t, _, _, rfl, rfl, h4, szlt (by omega), ?_⟩
            rw [hD]
            refine fin _ (e4.mut ht) ?_
            rw [upd_same]
            rw [partV_con c2, if_pos (of_decide_eq_true d)]
            simp
          · show D.nx _ _
            rw [hD]
            refine fin _ e4 ?_
            rw [h4]
            rw [partV_con c2, if_neg (of_decide_eq_false d)]
            simp
        refine ⟨_, rfl, a, _, dx, _, _, rfl, hin _ e2, T.cl_Instruction, T.nF_Instruction_second, lkS .., b, _, db, _, _, rfl, hbin _ e2, T.cl_Constant, T.nF_Constant_times_x, lkTx .., rfl, _, congrArg V.bl (sgn0 okp.2.2.1.2.1), iB (fun d => ?_) (fun d => ?_)⟩
        · refine ⟨_, rfl, .inl ⟨rfl, _, SqL.of ht2⟩, t, _, _, rfl, rfl, ht2, szlt (by rw [List.length_append]; show _ + 1 < _; omega), ?_⟩
          refine rest _ (e2.mut ht) ?_ _ rfl
          rw [upd_same, if_pos (of_decide_eq_true d)]
        · refine rest _ e2 ?_ _ rfl
          rw [ht2, if_neg (of_decide_eq_false d), List.append_nil]
      · refine fin _ e2 ?_
        rw [ht2]
        rw [partV_no c c2]
    · rintro σ H1 ⟨⟨y, rfl⟩, e1, ht1⟩
      rw [hc.length, List.take_length] at ht1
      exact ⟨_, rfl, q H1 t ht e1 ht1⟩
end Pb

set_option Elab.async false
set_option linter.all false
set_option maxRecDepth 100000
set_option maxHeartbeats 4000000
namespace Pb
open PySem PySem.Spec PyProof.Rows L2 Evl PbX
def spFormed (K : PySem.W.Frag) : Sp := fun vs H Q _ => ∃ (v : V) (r : PeRule.Rule), vs = [v] ∧ RuleAt K H v r ∧ RuleOk r ∧ r.left.length ≤ 5000 ∧ r.right.length ≤ 5000 ∧ ∀ H', Ex H H' → Q (.bl r.formed) H'
theorem formed_no1 {r : PeRule.Rule} (h : ¬ (1 ≤ r.left.length ∧ r.left.length ≤ 4)) : r.formed = false := by
  unfold PeRule.Rule.formed PeRule.SIDE
  by_cases h1 : 1 ≤ r.left.length
  · have h2 : ¬ r.left.length ≤ 4 := fun z => h ⟨h1, z⟩
    rw [decide_eq_false h2]
    simp
  · rw [decide_eq_false h1]
    simp
theorem formed_no2 {r : PeRule.Rule} (h : r.left.length < r.right.length) : r.formed = false := by
  unfold PeRule.Rule.formed
  rw [decide_eq_false (show ¬ r.right.length ≤ r.left.length by omega)]
  simp
theorem formed_yes {r : PeRule.Rule} (ok : RuleOk r) (h1 : 1 ≤ r.left.length) (h2 : r.left.length ≤ 4) (h3 : r.right.length ≤ r.left.length) : r.formed = (partsV r.right).all fun v => inV v (partsV r.left) := by
  unfold PeRule.Rule.formed PeRule.SIDE
  rw [decide_eq_true h1, decide_eq_true h2, decide_eq_true h3, parts_all _ _ ok.2, in_x _ fun p hp => (ok.1 p hp).1, in_y _ fun p hp => (ok.1 p hp).1]
  simp only [Bool.true_and, in_int]
theorem G_is_formed {P : Program} {w : World} {K : PySem.W.Frag} {mg : Str → Option Value} {base : Heap} (T : Txt w K mg) : Has P w K mg base CX0 2 (He.ga K "is_formed") p_is_formed (spFormed K) := by
  have G_parts_of := G_parts_of (P := P) (base := base) T
  refine T.d_is_formed.has sc_is_formed (fun vs H Q E h => ?_) (fun cdv A outer s H vs Q E hr h => ⟨_, PSs.nox ((pss_cons (ps_if (PW.pt (pw_or (pt_not (pt_chain op_le op_le pe_int (pe_callB call_len_seq (by rfl) T.u_len PySem.boot_len (pa_cons (pe_fld (pv 0) rfl) pa_nil)) (pe_gi T.c_MOST_LEFT))) (pw_or1 (pt_cmpR op_gt (pe_callB call_len_seq (by rfl) T.u_len PySem.boot_len (pa_cons (pe_fld (pv 0) rfl) pa_nil)) (pe_callB call_len_seq (by rfl) T.u_len PySem.boot_len (pa_cons (pe_fld (pv 0) rfl) pa_nil)) (nomark _))))) (pss_one (ps_ret pe_bl)) pss_nil)
    (pss_cons (ps_set (i := 1) sc_is_formed.nd rfl (Or.inr rfl) (pe_callH G_parts_of (hr.mono (by decide)) T.g_parts_of pass0 (pa_cons (pe_fld (pv 0) rfl) pa_nil)))
    (pss_one (ps_ret (pe_callB (cr_all rfl) (by rfl) T.u_all (by decide +kernel) (by exact (pa_cons (pe_lc (own := [("part", 2)]) (g := gName 2) (tt := tYes) rfl sc_is_formed.nd (pi_list (pe_callH G_parts_of (hr.mono (by decide)) T.g_parts_of pass0 (pa_cons (pe_fld (pv 0) rfl) pa_nil))) (blkOk_by (N := n_is_formed) (sc := defScope s_is_formed) (by decide +kernel)) (fun _ _ _ _ _ => pg_name (i := 2) sc_is_formed.nd rfl (Or.inl rfl)) (fun _ _ _ _ _ => pts_nil) (fun _ _ _ _ _ => (pe_cmpR (op_in_seqK (K := K) rfl) (pv 2) (pv 1) (by rfl)))) pa_nil)))))))), ?_⟩)
  · obtain ⟨v, r, rfl, _⟩ := h
    rfl
  · obtain ⟨v, r, rfl, ⟨a, dx, l, m, us, ws, rfl, ha, hl, hm, sl, sr⟩, ok, z1, z2, q⟩ := h
    have nu := sl.length
    have nw := sr.length
    refine ⟨_, rfl, a, _, dx, _, _, rfl, ha, T.cl_Rule, T.nF_Rule_left, lkLeft .., l, us, rfl, .inl (SqL.of hl), ?_⟩
    refine ⟨_, _, rfl, rfl, _, rfl, iB (fun c => ?_) (fun c => ?_)⟩
    · have c1 : 1 ≤ r.left.length := by
        have := of_decide_eq_true c
        omega
      refine ⟨_, _, rfl, rfl, _, rfl, ?_⟩
      show (fun b H1 => if b = true then _ else _) (!decide ((us.length : Int) ≤ 4)) H
      refine iB (fun d => ?_) (fun d => ?_)
      · have d1 : decide ((us.length : Int) ≤ 4) = false := by simpa using d
        have d2 := of_decide_eq_false d1
        have e : r.formed = false := formed_no1 (by omega)
        rw [e] at q
        exact q H (Ex.refl H)
      have d1 : decide ((us.length : Int) ≤ 4) = true := by simpa using d
      have d2 := of_decide_eq_true d1
      refine ⟨_, rfl, a, _, dx, _, _, rfl, ha, T.cl_Rule, T.nF_Rule_right, lkRight .., m, ws, rfl, .inl (SqL.of hm), ?_⟩
      refine ⟨_, rfl, a, _, dx, _, _, rfl, ha, T.cl_Rule, T.nF_Rule_left, lkLeft .., l, us, rfl, .inl (SqL.of hl), ?_⟩
      refine ⟨_, _, rfl, rfl, _, rfl, iB (fun g => ?_) (fun g => ?_)⟩
      · have g2 := of_decide_eq_true g
        have e : r.formed = false := formed_no2 (by omega)
        rw [e] at q
        exact q H (Ex.refl H)
      have g2 := of_decide_eq_false g
      have e := formed_yes ok c1 (by omega) (by omega)
      refine ⟨_, rfl, a, _, dx, _, _, rfl, ha, T.cl_Rule, T.nF_Rule_left, lkLeft .., l, us, r.left, rfl, SqL.of hl, sl, (fun p hp => (ok.1 p hp).1), z1, fun H1 t ht e1 h1 => ?_⟩
      refine ⟨_, rfl, a, _, dx, _, _, rfl, e1 a _ ha, T.cl_Rule, T.nF_Rule_right, lkRight .., m, ws, r.right, rfl, SqL.of (e1 m _ hm), sr.mono (ExI.of e1), ok.2, z2, fun H2 t2 ht2 e2 h2 => ?_⟩
      refine ⟨t2, rfl, ⟨_, SqL.of h2⟩, fun D hD => ?_⟩
      have hl2 := partsV_len r.right
      refine lc_it (walk_list (a := t2) (xs := partsV r.right)) (fun i H3 => Ex H2 H3 ∧ H3 D = some (.lst (((partsV r.right).take i).map fun v => V.bl (inV v (partsV r.left))))) ⟨Ex.new hD, upd_same⟩ (fun i H3 _ q => SqL.of (q.1 _ _ h2)) ?_ ?_
      · rintro i x H3 H4 hi ⟨e3, h3⟩ ⟨rfl, hx⟩
        have hf : flatV x = true := List.all_eq_true.mp (partsV_flat r.right) x (List.mem_of_getElem? hx)
        refine ⟨rfl, _, rfl, _, rfl, t, partsV r.left, rfl, .inl (SqL.of (e3 _ _ (e2 _ _ h1))), hf, partsV_flat _, _, h3, ?_, e3.mut hD, ?_⟩
        · rw [List.length_map, List.length_take]
          exact szlt (by omega)
        · rw [upd_same, take_next hx, List.map_append]
          rfl
      · rintro H3 ⟨e3, h3⟩
        rw [List.take_length] at h3
        refine ⟨D, (partsV r.right).map fun v => inV v (partsV r.left), rfl, SqL.of (h3.trans (by rw [List.map_map]; rfl)), ?_⟩
        rw [List.all_map]
        have q2 := q H3 ((e1.trans e2).trans e3)
        rw [e] at q2
        exact q2
    · have c1 := of_decide_eq_false c
      have e : r.formed = false := formed_no1 (by omega)
      rw [e] at q
      exact ⟨_, rfl, q H (Ex.refl H)⟩
/-! ### a side with registers and numbers put in -/
theorem insAt_mk {K : PySem.W.Frag} {H : Hp} {p : Addr} {dx : Addr} {i : PeCode.Ins} {s : V} (h : H p = some (.ins (cIns K) dx (fIns (.str (S i.op.word)) (.int i.a) s))) (hs : s = secI i) : InsAt K H (.ref p) i := ⟨p, dx, rfl, by rw [h, hs]⟩
def spFilledIn (K : PySem.W.Frag) : Sp := fun vs H Q _ => ∃ (l g : Addr) (us : List V) (ps : List PeRule.Pat) (rs : List Nat) (x y : Nat), vs = [.ref l, .ref g, .int x, .int y] ∧ SqL K H l us ∧ SideV K H us ps ∧ (∀ p ∈ ps, PatOk p) ∧ ps.length ≤ 5000 ∧ SqL K H g (natV rs) ∧ 4 ≤ rs.length ∧ x < PeCode.W ∧ y < PeCode.W ∧
  ∀ H' q vs', H q = none → Ex H H' → H' q = some (.lst vs') → CodeV K H' vs' (PeRule.putIn ps rs x y) → Q (.ref q) H'
theorem putIn_snoc (l : List PeRule.Pat) (p : PeRule.Pat) (rs : List Nat) (x y : Nat) : PeRule.putIn (l ++ [p]) rs x y = PeRule.putIn l rs x y ++ PeRule.putIn [p] rs x y := by
  unfold PeRule.putIn
  rw [List.map_append]
theorem G_filled_in {P : Program} {w : World} {K : PySem.W.Frag} {mg : Str → Option Value} {base : Heap} (T : Txt w K mg) : Has P w K mg base CX0 3 (He.ga K "filled_in") p_filled_in (spFilledIn K) := by
  have G_Constant_worth := G_Constant_worth (P := P) (base := base) T
  have G_Instruction_init := G_Instruction_init (P := P) (base := base) T
  refine T.d_filled_in.has sc_filled_in (fun vs H Q E h => ?_) (fun cdv A outer s H vs Q E hr h => ⟨_, PSs.nox ((pss_cons (ps_set (i := 4) sc_filled_in.nd rfl (Or.inl rfl) (pe_lst pa_nil))
    (pss_cons (ps_for PassesOwn.never rfl (pi_list (pv 0)) (pg_name (i := 5) sc_filled_in.nd rfl (Or.inl rfl)) (pss_cons (ps_set (i := 6) sc_filled_in.nd rfl (Or.inl rfl) (pe_fld (pv 5) rfl))
    (pss_cons (ps_if (pt_cmpR op_in_seq (pe_fld (pv 5) rfl) (pe_gr T.g_WITH_SECOND) (by rfl)) (pss_one (ps_set (i := 6) sc_filled_in.nd rfl (Or.inl rfl) (pe_ix ix_list (pv 1) (pv 6) (fun _ _ => rfl)))) pss_nil)
    (pss_cons (ps_if (pt_cmpR op_in_seq (pe_fld (pv 5) rfl) (pe_gr T.g_WITH_CONSTANT) (by rfl)) (pss_one (ps_set (i := 6) sc_filled_in.nd rfl (Or.inl rfl) (pe_methH (pv 6) T.cl_Constant T.m_Constant_worth G_Constant_worth (hr.mono (by decide)) pass0 (pa_cons (pv 2) (pa_cons (pv 3) pa_nil))))) pss_nil)
    (pss_one (ps_expr (pe_bm PySem.F.plainAttrs_list PySem.F.slot_list_append PySem.F.type_list_append mt_append (pv 4) (pa_cons (pe_makeH T.k_Instruction G_Instruction_init (hr.mono (by decide)) T.g_Instruction pass0 (pa_cons (pe_fld (pv 5) rfl) (pa_cons (pe_ix ix_list (pv 1) (pe_fld (pv 5) rfl) (fun _ _ => rfl)) (pa_cons (pv 6) pa_nil)))) pa_nil))))))))
    (pss_one (ps_ret (pv 4)))))), ?_⟩)
  · obtain ⟨l, g, us, ps, rs, x, y, rfl, _⟩ := h
    rfl
  · obtain ⟨l, g, us, ps, rs, x, y, rfl, hl, hc, ok, hz, hg, hg4, hx, hy, q⟩ := h
    refine ⟨by show 0 ≤ sizeLine; exact Nat.zero_le _, fun t ht => ?_⟩
    refine ⟨_, rfl, l, rfl, ⟨_, ex_l (Ex.new ht) hl⟩, ?_⟩
    refine for_it (walk_list (a := l) (xs := us)) (fun i σ H1 => (∃ z1 z2, σ = [some (.ref l), some (.ref g), some (.int x), some (.int y), some (.ref t), z1, z2]) ∧ Ex H H1 ∧ ∃ ws, H1 t = some (.lst ws) ∧ CodeV K H1 ws (PeRule.putIn (ps.take i) rs x y)) ⟨⟨_, _, rfl⟩, Ex.new ht, [], upd_same, .nil⟩ (fun i σ H1 _ q => ex_l q.2.1 hl) ?_ ?_
    · rintro i v σ H1 H2 hi ⟨⟨z1, z2, rfl⟩, e1, ws, ht1, hcv⟩ ⟨rfl, hv⟩
      obtain ⟨p, hp, a, dx, s, rfl, ha, hs⟩ := hc.at_ hv
      have okp := ok p (List.mem_of_getElem? hp)
      have hin : ∀ H3 : Hp, Ex H H3 → H3 a = some (.ins (cIns K) dx (fIns (.str (S p.op.word)) (.int p.a) s)) := fun H3 e => e a _ ha
      have hlen := hcv.length
      have hput : (PeRule.putIn (ps.take i) rs x y).length ≤ i := by
        unfold PeRule.putIn
        rw [List.length_map, List.length_take]
        omega
      have hps := hc.length
      -- the end of a turn, with what stands in the third field
      have fin : ∀ (s2 : V) (z : V), s2 = secI (⟨p.op, rs.getD p.a 0, if p.op.two = true then rs.getD p.b 0 else 0, if p.op.con = true then PeRule.value p.con x y else 0⟩ : PeCode.Ins) → ∀ D : Ends, D.nx = (fun σ H1 => (∃ z1 z2, σ = [some (.ref l), some (.ref g), some (.int x), some (.int y), some (.ref t), z1, z2]) ∧ Ex H H1 ∧ ∃ ws, H1 t = some (.lst ws) ∧ CodeV K H1 ws (PeRule.putIn (ps.take (i + 1)) rs x y)) →
          tDrop (tBM K "list" rAppend (tVar 4) (tCons (tMk (cIns K) (spNew (cIns K) 3 fInsL) E0 (tCons (tFld K (tVar 5) "word") (tCons (tOp (rIxL K) (tVar 1) (tFld K (tVar 5) "first")) (tCons (tVar 6) tNil)))) tNil)) D [some (.ref l), some (.ref g), some (.int x), some (.int y), some (.ref t), some (.ref a), some s2] H2 := fun s2 z hs2 D hD => by
        refine ⟨_, rfl, .inl ⟨rfl, _, SqL.of ht1⟩, ?_⟩
        refine ⟨_, rfl, a, _, dx, _, _, rfl, hin _ e1, T.cl_Instruction, T.nF_Instruction_word, lkW .., ?_⟩
        refine ⟨_, rfl, _, rfl, a, _, dx, _, _, rfl, hin _ e1, T.cl_Instruction, T.nF_Instruction_first, lkF .., g, _, _, _, rfl, rfl, ex_l e1 hg, natV_at (show p.a < rs.length by have := okp.1; omega), ?_⟩
        refine ⟨_, rfl, ?_⟩
        intro q1 dq nq nd ne
        refine mk_newA nq nd rfl fun H3 e3 h3 => ⟨rfl, ?_⟩
        have ht3 := e3 _ _ ht1
        refine ⟨t, ws, _, rfl, rfl, ht3, szlt (by omega), ?_⟩
        rw [hD]
        refine ⟨⟨_, _, rfl⟩, (e1.trans e3).mut ht, ws ++ [.ref q1], upd_same, ?_⟩
        rw [take_next hp, putIn_snoc]
        refine All2.append (hcv.mono ((ExI.of e3).trans (ExI.lst ht3))) (.cons ?_ .nil)
        refine InsAt.mono (ExI.lst ht3) (insAt_mk (dx := dq) (s := s2) ?_ hs2)
        rw [h3]
        rfl
      refine ⟨_, rfl, a, _, dx, _, _, rfl, hin _ e1, T.cl_Instruction, T.nF_Instruction_second, lkS .., ?_⟩
      refine ⟨_, rfl, a, _, dx, _, _, rfl, hin _ e1, T.cl_Instruction, T.nF_Instruction_word, lkW .., ?_⟩
      refine ⟨_, _, rfl, .inr (T.tp_WITH_SECOND _), rfl, rfl, p.op.two, congrArg V.bl (two_in p.op), iB (fun c => ?_) (fun c => ?_)⟩
      · refine ⟨_, rfl, s, rfl, ?_⟩
        rw [secP_two hs c]
        refine ⟨g, _, _, _, rfl, rfl, ex_l e1 hg, natV_at (show p.b < rs.length by have := okp.2.1; omega), ?_⟩
        refine ⟨_, rfl, a, _, dx, _, _, rfl, hin _ e1, T.cl_Instruction, T.nF_Instruction_word, lkW .., ?_⟩
        refine ⟨_, _, rfl, .inr (T.tp_WITH_CONSTANT _), rfl, rfl, false, congrArg V.bl ((con_in p.op).trans (two_con c)), ?_⟩
        refine fin (.int (PeCode.at_ rs p.b : Nat)) .non ?_ _ rfl
        unfold secI
        dsimp only
        rw [if_pos c, if_pos c]
        rfl
      refine ⟨_, rfl, a, _, dx, _, _, rfl, hin _ e1, T.cl_Instruction, T.nF_Instruction_word, lkW .., ?_⟩
      refine ⟨_, _, rfl, .inr (T.tp_WITH_CONSTANT _), rfl, rfl, p.op.con, congrArg V.bl (con_in p.op), iB (fun c2 => ?_) (fun c2 => ?_)⟩
      · obtain ⟨b, db, rfl, hb⟩ := secP_con hs c2
        refine ⟨_, rfl, b, db, _, rfl, e1 b _ hb, lkWorth .., ?_⟩
        refine ⟨_, rfl, _, rfl, .ref b, p.con, x, y, rfl, ⟨b, db, rfl, e1 b _ hb⟩, okp.2.2.1, hx, hy, ?_⟩
        refine fin (.int (PeRule.value p.con x y : Nat)) .non ?_ _ rfl
        unfold secI
        dsimp only
        rw [if_neg (by rw [c]; exact Bool.false_ne_true), if_pos c2, if_pos c2]
      · refine fin s .non ?_ _ rfl
        unfold SecP at hs
        rw [if_neg (by rw [c]; exact Bool.false_ne_true), if_neg (by rw [c2]; exact Bool.false_ne_true)] at hs
        unfold secI
        dsimp only
        rw [if_neg (by rw [c]; exact Bool.false_ne_true), if_neg (by rw [c2]; exact Bool.false_ne_true)]
        exact hs
    · rintro σ H1 ⟨⟨z1, z2, rfl⟩, e1, ws, ht1, hcv⟩
      rw [hc.length, List.take_length] at hcv
      exact ⟨_, rfl, q H1 t ws ht e1 ht1 hcv⟩
end Pb

set_option Elab.async false
set_option linter.all false
set_option maxRecDepth 100000
set_option maxHeartbeats 4000000
namespace Pb
open PySem PySem.Spec PyProof.Rows L2 Evl PbX
/-! ### trials -/
def unit6 (j n : Nat) : List Nat := (List.range n).map fun i => if i = j then 1 else 0
theorem unit6_snoc (j n : Nat) : unit6 j (n + 1) = unit6 j n ++ [if n = j then 1 else 0] := by
  unfold unit6
  rw [List.range_succ, List.map_append]
  rfl
/-- a list of these numbers -/
def NumsAt (H : Hp) (v : V) (t : List Nat) : Prop := ∃ a, v = .ref a ∧ H a = some (.lst (natV t))
theorem NumsAt.mono {H H' : Hp} (e : Ex H H') {v : V} {t : List Nat} (h : NumsAt H v t) : NumsAt H' v t := by
  obtain ⟨a, rfl, h1⟩ := h
  exact ⟨a, rfl, e _ _ h1⟩
def trialsTo (n m : Nat) : List (List Nat) := List.replicate n 0 :: (List.range m).map fun j => unit6 j n
theorem trialsTo_snoc (n m : Nat) : trialsTo n (m + 1) = trialsTo n m ++ [unit6 m n] := by
  unfold trialsTo
  rw [List.range_succ, List.map_append]
  rfl
theorem trialsTo_6 : trialsTo 6 6 = PeRule.trials := rfl
theorem trialsTo_8 : trialsTo 8 8 = PeCode.states := rfl
theorem trialsTo_len (n m : Nat) : (trialsTo n m).length = m + 1 := by
  unfold trialsTo
  rw [List.length_cons, List.length_map, List.length_range]
theorem flat_zero (n : Nat) : (List.replicate n [V.int 0]).flatten = natV (List.replicate n 0) := by
  induction n with
  | zero => rfl
  | succ n ih =>
    rw [List.replicate_succ, List.flatten_cons, ih, List.replicate_succ]
    rfl
def spZero : Sp := fun vs H Q _ => ∃ n : Nat, vs = [.int n] ∧ n ≤ 100 ∧ ∀ H' q ts, H q = none → Ex H H' → H' q = some (.lst ts) → All2 (NumsAt H') ts (trialsTo n n) → Q (.ref q) H'
theorem G_zero_and_ones {P : Program} {w : World} {K : PySem.W.Frag} {mg : Str → Option Value} {base : Heap} (T : Txt w K mg) : Has P w K mg base CX0 1 (He.ga K "zero_and_ones") p_zero_and_ones spZero := by
  refine T.d_zero_and_ones.has sc_zero_and_ones (fun vs H Q E h => ?_) (fun cdv A outer s H vs Q E hr h => ⟨_, PSs.nox ((pss_cons (ps_set (i := 1) sc_zero_and_ones.nd rfl (Or.inl rfl) (pe_lst (pa_cons (pe_op op_rep (pe_lst (pa_cons pe_int pa_nil)) (pv 0)) pa_nil)))
    (pss_cons (ps_for PassesOwn.never rfl (pi_range1 (by rfl) T.u_range (pa_cons (pv 0) pa_nil)) (pg_name (i := 2) sc_zero_and_ones.nd rfl (Or.inr rfl)) (pss_one (ps_expr (pe_bm PySem.F.plainAttrs_list PySem.F.slot_list_append PySem.F.type_list_append mt_append (pv 1) (pa_cons (pe_lc (own := [("other", 3)]) (g := gName 3) (tt := tYes) rfl sc_zero_and_ones.nd (pi_range1 (by rfl) T.u_range (pa_cons (pv 0) pa_nil)) (blkOk_by (N := n_zero_and_ones) (sc := defScope s_zero_and_ones) (by decide +kernel)) (fun _ _ _ _ _ => pg_name (i := 3) sc_zero_and_ones.nd rfl (Or.inl rfl)) (fun _ _ _ _ _ => pts_nil) (fun _ _ _ _ _ => (pe_ifExp (pt_cmpR op_eq (pv 3) (pv 2) (nomark _)) pe_int pe_int))) pa_nil)))))
    (pss_one (ps_ret (pv 1)))))), ?_⟩)
  · obtain ⟨n, rfl, _⟩ := h
    rfl
  · obtain ⟨n, rfl, hn, q⟩ := h
    refine ⟨by show 1 ≤ sizeLine; decide, fun p0 hp0 => ?_⟩
    refine ⟨_, rfl, p0, n, _, rfl, rfl, upd_same, by omega, by omega, ?_, fun p1 hp1 => ?_⟩
    · show 1 * ((n : Int)).toNat ≤ sizeLine
      exact szl (by omega)
    rw [show ((n : Int)).toNat = n by omega, flat_zero] at *
    have x1 := Ex.new (o := .lst [V.int 0]) hp0
    have x2 := Ex.new (o := .lst (natV (List.replicate n 0))) hp1
    refine ⟨by show 1 ≤ sizeLine; decide, fun p2 hp2 => ?_⟩
    have x3 := Ex.new (o := .lst [V.ref p1]) hp2
    have e3 := (x1.trans x2).trans x3
    have hH2 : H p2 = none := fresh_back (x1.trans x2) hp2
    have h1 : (upd (upd (upd H p0 (.lst [V.int 0])) p1 (.lst (natV (List.replicate n 0)))) p2 (.lst [V.ref p1])) p1 = some (.lst (natV (List.replicate n 0))) := x3 _ _ upd_same
    have h2 : (upd (upd (upd H p0 (.lst [V.int 0])) p1 (.lst (natV (List.replicate n 0)))) p2 (.lst [V.ref p1])) p2 = some (.lst [V.ref p1]) := upd_same
    generalize upd (upd (upd H p0 (.lst [V.int 0])) p1 (.lst (natV (List.replicate n 0)))) p2 (.lst [V.ref p1]) = H3 at e3 h1 h2 ⊢
    refine ⟨_, rfl, n, rfl, by omega, by omega, ?_⟩
    refine for_it (walk_range (lo := 0) (n := n)) (fun i σ H1 => (∃ x y, σ = [some (.int n), some (.ref p2), x, y]) ∧ Ex H H1 ∧ ∃ ts, H1 p2 = some (.lst ts) ∧ All2 (fun v t => NumsAt H1 v t ∧ v ≠ .ref p2) ts (trialsTo n i)) ?_ (fun _ _ _ _ _ => trivial) ?_ ?_
    · refine ⟨⟨_, _, rfl⟩, e3, [.ref p1], h2, .cons ⟨⟨p1, rfl, h1⟩, ?_⟩ .nil⟩
      intro z
      have z2 : p1 = p2 := V.ref.inj z
      rw [z2, h2] at h1
      have h3 := HO.lst.inj (Option.some.inj h1)
      cases n with
      | zero => cases h3
      | succ n =>
        rw [List.replicate_succ] at h3
        injection h3 with h4 h5
        cases h4
    · rintro i x σ H1 H2 hi ⟨⟨y, z, rfl⟩, e1, ts, hts, hall⟩ ⟨rfl, rfl⟩
      have hlen := hall.length
      rw [trialsTo_len] at hlen
      refine ⟨_, rfl, .inl ⟨rfl, _, SqL.of hts⟩, _, rfl, n, rfl, by omega, by omega, fun D hD => ?_⟩
      have hDp : D ≠ p2 := fun z => by rw [z, hts] at hD; cases hD
      refine lc_it (walk_range (lo := 0) (n := n)) (fun j H3 => Ex H2 H3 ∧ H3 D = some (.lst (natV (unit6 i j)))) ⟨Ex.new hD, upd_same⟩ (fun _ _ _ _ => trivial) ?_ ?_
      · rintro j x H3 H4 hj ⟨e4, hd⟩ ⟨rfl, rfl⟩
        have hb : decide (V.int (0 + (j : Int)) = V.int (0 + (i : Int))) = decide (j = i) := by
          simp only [V.int.injEq, Int.zero_add]
          exact decide_eq_decide.mpr Int.ofNat_inj
        refine ⟨rfl, _, rfl, _, rfl, rfl, _, congrArg V.bl hb, ?_⟩
        have ee : ∀ m : Nat, (if j = i then 1 else 0) = m → ∃ acc, H4 D = some (.lst acc) ∧ acc.length < sizeLine ∧ Ex H2 (upd H4 D (.lst (acc ++ [V.int (m : Nat)]))) ∧ upd H4 D (.lst (acc ++ [V.int (m : Nat)])) D = some (.lst (natV (unit6 i (j + 1)))) := fun m hm => by
          refine ⟨_, hd, ?_, e4.mut hD, ?_⟩
          · unfold unit6
            rw [List.length_map, List.length_map, List.length_range]
            exact szlt (by omega)
          · rw [upd_same, unit6_snoc, hm, natV, natV, List.map_append]
            rfl
        refine iB (fun c => ?_) (fun c => ?_)
        · exact ee 1 (if_pos (of_decide_eq_true c))
        · exact ee 0 (if_neg (of_decide_eq_false c))
      · rintro H3 ⟨e4, hd⟩
        have hd : H3 D = some (.lst (natV (unit6 i n))) := by
          simpa using hd
        refine ⟨p2, ts, _, rfl, rfl, e4 _ _ hts, szlt (by omega), ⟨_, _, rfl⟩, (e1.trans e4).mut hH2, ts ++ [.ref D], upd_same, ?_⟩
        rw [trialsTo_snoc]
        refine All2.append (hall.mono fun v t h => ?_) (.cons ⟨⟨D, rfl, ?_⟩, ?_⟩ .nil)
        · obtain ⟨⟨a, rfl, ha⟩, hn⟩ := h
          have hap : a ≠ p2 := fun z => hn (by rw [z])
          exact ⟨⟨a, rfl, by rw [upd_ne hap]; exact e4 _ _ ha⟩, hn⟩
        · rw [upd_ne hDp]
          exact hd
        · intro z
          exact hDp (V.ref.inj z)
    · rintro σ H1 ⟨⟨y, z, rfl⟩, e1, ts, hts, hall⟩
      have hall : All2 (fun v t => NumsAt H1 v t ∧ v ≠ .ref p2) ts (trialsTo n n) := by
        simpa using hall
      exact ⟨_, rfl, q H1 p2 ts hH2 e1 hts (hall.mono fun _ _ h => h.1)⟩
def spTrials : Sp := fun vs H Q _ => vs = [] ∧ ∀ H' q ts, H q = none → Ex H H' → H' q = some (.lst ts) → All2 (NumsAt H') ts PeRule.trials → Q (.ref q) H'
theorem G_seven_trials {P : Program} {w : World} {K : PySem.W.Frag} {mg : Str → Option Value} {base : Heap} (T : Txt w K mg) : Has P w K mg base CX0 2 (He.ga K "seven_trials") p_seven_trials spTrials := by
  have G_zero_and_ones := G_zero_and_ones (P := P) (base := base) T
  refine T.d_seven_trials.has sc_seven_trials (fun vs H Q E h => ?_) (fun cdv A outer s H vs Q E hr h => ⟨_, PSs.nox ((pss_one (ps_ret (pe_callH G_zero_and_ones (hr.mono (by decide)) T.g_zero_and_ones pass0 (pa_cons (pe_gi T.c_TRIAL_NUMBERS) pa_nil))))), ?_⟩)
  · exact congrArg List.length h.1
  · obtain ⟨rfl, q⟩ := h
    exact ⟨6, rfl, by decide, fun H' p ts hp e h1 h2 => q H' p ts hp e h1 h2⟩
/-! ### a trial -/
theorem putIn_ok {ps : List PeRule.Pat} {rs : List Nat} {x y : Nat} (ok : ∀ p ∈ ps, PatOk p) (h : ∀ n ∈ rs, n < 8) : CodeOk (PeRule.putIn ps rs x y) := by
  intro i hi
  unfold PeRule.putIn at hi
  obtain ⟨p, hp, rfl⟩ := List.mem_map.mp hi
  have hg : ∀ n, rs.getD n 0 < 8 := fun n => by
    rw [List.getD_eq_getElem?_getD]
    cases e : rs[n]? with
    | none => show 0 < 8; decide
    | some k => exact h k (List.mem_of_getElem? e)
  refine ⟨hg _, ?_, ?_⟩
  · show (if p.op.two = true then rs.getD p.b 0 else 0) < 8
    split
    · exact hg _
    · decide
  · show (if p.op.con = true then PeRule.value p.con x y else 0) < PeCode.W
    split
    · exact plus_lt ..
    · decide
theorem stOk_trial {t : List Nat} (h6 : t.length = 6) (h : ∀ n ∈ t, n < PeCode.W) : StOk (t.take 4 ++ [0, 0, 0, 0]) := by
  refine ⟨by rw [List.length_append, List.length_take]; show min 4 t.length + 4 = 8; omega, fun n hn => ?_⟩
  rcases List.mem_append.mp hn with hn | hn
  · exact h n (List.mem_of_mem_take hn)
  · have : n = 0 := by simpa using hn
    rw [this]
    decide
def spOnTrial (K : PySem.W.Frag) : Sp := fun vs H Q _ => ∃ (l g : Addr) (us : List V) (ps : List PeRule.Pat) (t : List Nat), vs = [.ref l, .ref g] ∧ SqL K H l us ∧ SideV K H us ps ∧ (∀ p ∈ ps, PatOk p) ∧ ps.length ≤ 5000 ∧ H g = some (.lst (natV t)) ∧ t.length = 6 ∧ (∀ n ∈ t, n < PeCode.W) ∧
  ∀ H' q, H q = none → Ex H H' → H' q = some (.lst (natV (PeRule.trialRun ps t))) → Q (.ref q) H'
theorem G_state_on_trial {P : Program} {w : World} {K : PySem.W.Frag} {mg : Str → Option Value} {base : Heap} (T : Txt w K mg) : Has P w K mg base CX0 4 (He.ga K "state_on_trial") p_state_on_trial (spOnTrial K) := by
  have G_filled_in := G_filled_in (P := P) (base := base) T
  have G_state_after := G_state_after (P := P) (base := base) T
  refine T.d_state_on_trial.has sc_state_on_trial (fun vs H Q E h => ?_) (fun cdv A outer s H vs Q E hr h => ⟨_, PSs.nox ((pss_cons (ps_set (i := 2) sc_state_on_trial.nd rfl (Or.inl rfl) (pe_callB call_len_seq (by rfl) T.u_len PySem.boot_len (pa_cons (pe_gr T.g_NAMES) pa_nil)))
    (pss_cons (ps_set (i := 3) sc_state_on_trial.nd rfl (Or.inl rfl) (pe_callH G_filled_in (hr.mono (by decide)) T.g_filled_in pass0 (pa_cons (pv 0) (pa_cons (pe_listRg rfl (by rfl) T.u_list (prg_1 (by rfl) T.u_range (pv 2))) (pa_cons (pe_ix ix_list (pv 1) (pv 2) (fun _ _ => rfl)) (pa_cons (pe_ix ix_list (pv 1) (pe_op op_add (pv 2) pe_int) (fun _ _ => rfl)) pa_nil))))))
    (pss_one (ps_ret (pe_callH G_state_after (hr.mono (by decide)) T.g_state_after pass0 (pa_cons (pv 3) (pa_cons (pe_op op_cat (pe_slice sl_list (pv 1) po_none (po_some (pv 2))) (pe_lst (pa_cons pe_int (pa_cons pe_int (pa_cons pe_int (pa_cons pe_int pa_nil)))))) pa_nil)))))))), ?_⟩)
  · obtain ⟨l, g, us, ps, t, rfl, _⟩ := h
    rfl
  · obtain ⟨l, g, us, ps, t, rfl, hl, hc, ok, hz, hg, h6, hw, q⟩ := h
    have hat : ∀ i, i < 6 → t.getD i 0 < PeCode.W := fun i hi => by
      rw [List.getD_eq_getElem?_getD, List.getElem?_eq_getElem (by omega)]
      exact hw _ (List.getElem_mem _)
    refine ⟨_, _, rfl, .inr (T.tp_NAMES _), ?_⟩
    refine ⟨_, rfl, _, rfl, 4, rfl, ?_⟩
    refine ⟨RgOk.of_le (by decide) (by decide) (by decide) (by decide), fun p1 hp1 => ?_⟩
    have x1 := Ex.new (o := .lst (rgV 0 4)) hp1
    have h1 : upd H p1 (.lst (rgV 0 4)) p1 = some (.lst (natV [0, 1, 2, 3])) := upd_same
    generalize upd H p1 (.lst (rgV 0 4)) = H1 at x1 h1 ⊢
    have hg1 := x1 _ _ hg
    have a4 : atI (natV t) 4 = some (V.int (t.getD 4 0 : Nat)) := natV_at (r := 4) (by omega)
    have a5 : atI (natV t) 5 = some (V.int (t.getD 5 0 : Nat)) := natV_at (r := 5) (by omega)
    refine ⟨_, rfl, _, rfl, g, _, _, _, rfl, rfl, SqL.of hg1, a4, ?_⟩
    refine ⟨_, rfl, _, rfl, _, _, rfl, rfl, g, _, _, _, rfl, rfl, SqL.of hg1, a5, ?_⟩
    refine ⟨l, p1, us, ps, [0, 1, 2, 3], _, _, rfl, ex_l x1 hl, hc.mono (ExI.of x1), ok, hz, SqL.of h1, by show 4 ≤ 4; decide, hat 4 (by decide), hat 5 (by decide), fun H2 p2 ws hp2 e2 h2 hcv => ?_⟩
    have e12 := x1.trans e2
    have hg2 := e2 _ _ hg1
    refine ⟨_, rfl, _, rfl, _, rfl, _, rfl, g, _, rfl, SqL.of hg2, fun p3 hp3 => ?_⟩
    have x3 := Ex.new (o := .lst (cutV (natV t) none (some 4))) hp3
    refine ⟨by show 4 ≤ sizeLine; decide, fun p4 hp4 => ?_⟩
    have x4 := Ex.new (o := .lst [V.int 0, V.int 0, V.int 0, V.int 0]) hp4
    have hcut : cutV (natV t) none (some 4) = natV (t.take 4) := by
      rw [show (4 : Int) = ((4 : Nat) : Int) from rfl, cutV_to, ← List.map_take]
    refine ⟨p3, p4, _, _, rfl, rfl, x4 _ _ upd_same, upd_same, ?_, fun p5 hp5 => ?_⟩
    · show (cutV (natV t) none (some 4)).length + 4 ≤ sizeLine
      rw [hcut, List.length_map, List.length_take]
      exact szl (by show min 4 t.length + 4 ≤ 1000000; omega)
    have x5 := Ex.new (o := .lst (cutV (natV t) none (some 4) ++ [V.int 0, V.int 0, V.int 0, V.int 0])) hp5
    have x345 := (x3.trans x4).trans x5
    refine ⟨p2, ws, _, p5, t.take 4 ++ [0, 0, 0, 0], rfl, SqL.of (x345 _ _ h2), hcv.mono (ExI.of x345), putIn_ok ok (by decide), SqL.of ?_, stOk_trial h6 hw, fun H6 p6 hp6 e6 h6' => ?_⟩
    · rw [upd_same]
      show some (HO.lst (cutV (natV t) none (some 4) ++ natV [0, 0, 0, 0])) = _
      rw [hcut, natV, natV, natV, List.map_append]
    · exact q H6 p6 (fresh_back (e12.trans x345) hp6) ((e12.trans x345).trans e6) h6'
/-! ### the first trial against a rule -/
abbrev natD (s : List Nat) : List PyData := s.map fun n => PyData.int (n : Nat)
theorem eqv_nat : ∀ a b : List Nat, PyData.eqvAll (natD a) (natD b) = (a == b)
  | [], [] => by simp [PyData.eqvAll]
  | [], _ :: _ => by simp [PyData.eqvAll]
  | _ :: _, [] => by simp [PyData.eqvAll]
  | x :: a, y :: b => by
    have ih := eqv_nat a b
    show PyData.eqvAll (PyData.int (x : Nat) :: natD a) (PyData.int (y : Nat) :: natD b) = _
    unfold PyData.eqvAll
    rw [ih]
    unfold PyData.eqv
    have : ((x : Int) == (y : Int)) = (x == y) := by
      rw [Bool.eq_iff_iff, beq_iff_eq, beq_iff_eq]
      exact Int.ofNat_inj
    rw [this]
    rfl
theorem dpAll_nat {K : PySem.W.Frag} {H : Hp} : ∀ s : List Nat, DpAll K H (natV s) (natD s)
  | [] => .nil
  | x :: s => .cons (.int _) (dpAll_nat s)
theorem dp_nat {K : PySem.W.Frag} {H : Hp} {a : Addr} {s : List Nat} (h : H a = some (.lst (natV s))) : Dp K H (.ref a) (.list (natD s)) := .lst (SqL.of h) (dpAll_nat s)
theorem canLay_nat : ∀ s : List Nat, PyData.canLayAll0 (natD s) = true
  | [] => by simp [PyData.canLayAll0]
  | x :: s => by
    show PyData.canLayAll0 (PyData.int (x : Nat) :: natD s) = true
    unfold PyData.canLayAll0
    rw [canLay_nat s]
    simp [PyData.canLay0]
end Pb

set_option Elab.async false
set_option linter.all false
set_option maxRecDepth 100000
set_option maxHeartbeats 4000000
namespace Pb
open PySem PySem.Spec PyProof.Rows L2 Evl PbX
theorem depth_nat : ∀ s : List Nat, PyData.depthAll (natD s) = 0
  | [] => by simp [PyData.depthAll]
  | x :: s => by
    show PyData.depthAll (PyData.int (x : Nat) :: natD s) = 0
    unfold PyData.depthAll
    rw [depth_nat s]
    simp [PyData.depth]
theorem shaped_nat (s : List Nat) : SeqAt.shaped (.list (natD s)) = true := by
  unfold SeqAt.shaped PyData.canLay0 PyData.depth
  rw [canLay_nat, depth_nat]
  rfl
theorem ne_nat (a b : List Nat) : (!PyData.eqv (.list (natD a)) (.list (natD b))) = (a != b) := by
  unfold PyData.eqv
  rw [eqv_nat]
  rfl
theorem trials_ok : ∀ t ∈ PeRule.trials, t.length = 6 ∧ ∀ n ∈ t, n < PeCode.W := by decide +kernel
def TrialV (H : Hp) (v : V) : Option (List Nat) → Prop
  | none => v = .non
  | some t => NumsAt H v t
def spAgainst (K : PySem.W.Frag) : Sp := fun vs H Q _ => ∃ (v : V) (r : PeRule.Rule), vs = [v] ∧ RuleAt K H v r ∧ RuleOk r ∧ r.left.length ≤ 5000 ∧ r.right.length ≤ 5000 ∧ ∀ H' v', Ex H H' → TrialV H' v' r.bad → Q v' H'
theorem find_drop {α : Type} {p : α → Bool} {l : List α} {i : Nat} {x : α} (h : l[i]? = some x) : (l.drop i).find? p = if p x = true then some x else (l.drop (i + 1)).find? p := by
  have hi : i < l.length := (List.getElem?_eq_some_iff.mp h).1
  have e : l[i] = x := (List.getElem?_eq_some_iff.mp h).2
  rw [List.drop_eq_getElem_cons hi, List.find?_cons, e]
  cases p x <;> rfl
theorem G_trial_against {P : Program} {w : World} {K : PySem.W.Frag} {mg : Str → Option Value} {base : Heap} (T : Txt w K mg) : Has P w K mg base CX0 5 (He.ga K "trial_against") p_trial_against (spAgainst K) := by
  have G_seven_trials := G_seven_trials (P := P) (base := base) T
  have G_state_on_trial := G_state_on_trial (P := P) (base := base) T
  refine T.d_trial_against.has sc_trial_against (fun vs H Q E h => ?_) (fun cdv A outer s H vs Q E hr h => ⟨_, PSs.nox ((pss_cons (ps_for PassesOwn.never rfl (pi_list (pe_call0H G_seven_trials (hr.mono (by decide)) T.g_seven_trials pass0)) (pg_name (i := 1) sc_trial_against.nd rfl (Or.inl rfl)) (pss_one (ps_if (pt_cmpR (op_neD hr.units) (pe_callH G_state_on_trial (hr.mono (by decide)) T.g_state_on_trial pass0 (pa_cons (pe_fld (pv 0) rfl) (pa_cons (pv 1) pa_nil))) (pe_callH G_state_on_trial (hr.mono (by decide)) T.g_state_on_trial pass0 (pa_cons (pe_fld (pv 0) rfl) (pa_cons (pv 1) pa_nil))) (nomark _)) (pss_one (ps_ret (pv 1))) pss_nil)))
    (pss_one (ps_ret pe_non)))), ?_⟩)
  · obtain ⟨v, r, rfl, _⟩ := h
    rfl
  · obtain ⟨v, r, rfl, ⟨a, dx, l, m, us, ws, rfl, ha, hl, hm, sl, sr⟩, ok, z1, z2, q⟩ := h
    unfold PeRule.Rule.bad at q
    refine ⟨rfl, fun H1 p ts hp e1 hts hall => ?_⟩
    refine ⟨p, rfl, ⟨_, SqL.of hts⟩, ?_⟩
    refine for_it (walk_list (a := p) (xs := ts)) (fun i σ H2 => (∃ x, σ = [some (.ref a), x]) ∧ Ex H1 H2 ∧ PeRule.trials.find? (fun t => PeRule.trialRun r.left t != PeRule.trialRun r.right t) = (PeRule.trials.drop i).find? (fun t => PeRule.trialRun r.left t != PeRule.trialRun r.right t)) ⟨⟨_, rfl⟩, Ex.refl H1, rfl⟩ (fun i σ H2 _ q => SqL.of (q.2.1 _ _ hts)) ?_ ?_
    · rintro i x σ H2 H3 hi ⟨⟨y, rfl⟩, e2, hfind⟩ ⟨rfl, hx⟩
      obtain ⟨t, ht, b, rfl, hb⟩ := hall.at_ hx
      have tok := trials_ok t (List.mem_of_getElem? ht)
      rw [find_drop ht] at hfind
      have e12 := e1.trans e2
      have hb2 := e2 _ _ hb
      refine ⟨_, rfl, a, _, dx, _, _, rfl, e12 a _ ha, T.cl_Rule, T.nF_Rule_left, lkLeft .., _, rfl, l, b, us, r.left, t, rfl, SqL.of (e12 l _ hl), sl.mono (ExI.of e12), (fun p hp => (ok.1 p hp).1), z1, hb2, tok.1, tok.2, fun H4 p4 hp4 e4 h4 => ?_⟩
      have e14 := e12.trans e4
      refine ⟨_, rfl, a, _, dx, _, _, rfl, e14 a _ ha, T.cl_Rule, T.nF_Rule_right, lkRight .., _, rfl, m, b, ws, r.right, t, rfl, SqL.of (e14 m _ hm), sr.mono (ExI.of e14), ok.2, z2, e4 _ _ hb2, tok.1, tok.2, fun H5 p5 hp5 e5 h5 => ?_⟩
      refine ⟨_, _, dp_nat (e5 _ _ h4), dp_nat h5, shaped_nat _, shaped_nat _, _, congrArg V.bl (ne_nat _ _), iB (fun c => ?_) (fun c => ?_)⟩
      · rw [if_pos c] at hfind
        rw [hfind] at q
        exact ⟨_, rfl, q H5 _ (e14.trans e5) ⟨b, rfl, e5 _ _ (e4 _ _ hb2)⟩⟩
      · rw [if_neg (by rw [c]; exact Bool.false_ne_true)] at hfind
        exact ⟨⟨_, rfl⟩, (e2.trans e4).trans e5, hfind⟩
    · rintro σ H2 ⟨⟨y, rfl⟩, e2, hfind⟩
      rw [hall.length, List.drop_length] at hfind
      rw [hfind] at q
      exact q H2 .non (e1.trans e2) rfl
def spSound (K : PySem.W.Frag) : Sp := fun vs H Q E => ∃ b : PeCode.Bytes, vs = [.str (S b)] ∧ Lo b ∧ b.length ≤ 5000 ∧ (∀ k, PeRule.readRule b = .error k → Refused K E H [.int (-6), .int k]) ∧
  ∀ r, PeRule.readRule b = .ok r → (r.formed = false → Refused K E H [.int (-2)]) ∧ (r.formed = true → r.cheaper = false → Refused K E H [.int (-4)]) ∧
    (∀ t, r.formed = true → r.cheaper = true → r.bad = some t → Refused K E H (.int (-3) :: natV t)) ∧ (r.formed = true → r.cheaper = true → r.bad = none → ∀ H' v, Ex H H' → RuleNew K H H' v r → Q v H')
theorem readRule_len {b : PeCode.Bytes} {r : PeRule.Rule} (h : PeRule.readRule b = .ok r) : r.left.length ≤ b.length ∧ r.right.length ≤ b.length := by
  have hc := pieces_count (c := 10) b
  unfold PeRule.readRule at h
  dsimp only at h
  generalize hl : (PeCode.piecesAt 10 b).dropLast = l at h
  have hll : l.length ≤ b.length := by
    rw [← hl, List.length_dropLast]
    omega
  generalize l.findIdx (fun x => x == PeCode.str "=>") = n at h
  cases ha : PeCode.readEach (PeRule.patOf PeRule.leftCon) 0 (l.take n) with
  | error k => rw [ha] at h; cases h
  | ok a =>
    rw [ha] at h
    dsimp only at h
    split at h
    · cases h
    · cases hb : PeCode.readEach (PeRule.patOf PeRule.rightCon) (n + 1) (l.drop (n + 1)) with
      | error k => rw [hb] at h; cases h
      | ok c =>
        rw [hb] at h
        dsimp only at h
        split at h
        · have e : (⟨a, c⟩ : PeRule.Rule) = r := by injection h
          rw [← e]
          have h1 := (readEach_mem ha).2
          have h2 := (readEach_mem hb).2
          rw [List.length_take] at h1
          rw [List.length_drop] at h2
          exact ⟨by show a.length ≤ _; omega, by show c.length ≤ _; omega⟩
        · cases h
theorem natV_len (t : List Nat) : (natV t).length = t.length := List.length_map ..
theorem bad_mem {r : PeRule.Rule} {t : List Nat} (h : r.bad = some t) : t.length = 6 := (trials_ok t (List.mem_of_find?_eq_some h)).1
theorem G_read_sound_rule {P : Program} {w : World} {K : PySem.W.Frag} {mg : Str → Option Value} {base : Heap} (T : Txt w K mg) : Has P w K mg base (L2.CX P w) 7 (He.ga K "read_sound_rule") p_read_sound_rule (spSound K) := by
  have G_cost_of := G_cost_of (P := P) (base := base) T
  have G_is_formed := G_is_formed (P := P) (base := base) T
  have G_read_rule := G_read_rule (P := P) (base := base) T
  have G_trial_against := G_trial_against (P := P) (base := base) T
  have G_NotCheaper_init := G_NotCheaper_init (P := P) (base := base) T
  have G_NotFormed_init := G_NotFormed_init (P := P) (base := base) T
  have G_NotRight_init := G_NotRight_init (P := P) (base := base) T
  refine T.d_read_sound_rule.hasX sc_read_sound_rule (fun vs H Q E h => ?_) (fun cdv A outer s H vs Q E hr h => ⟨_, ((pss_cons (ps_set (i := 1) sc_read_sound_rule.nd rfl (Or.inl rfl) (pe_callH G_read_rule (hr.mono (by decide)) T.g_read_rule (passes_call (takes_of rfl rfl rfl rfl) (fun _ _ _ _ h => h)) (pa_cons (pv 0) pa_nil)))
    (pss_cons (ps_if (pt_not (pt_val (pe_callH G_is_formed (hr.mono (by decide)) T.g_is_formed pass0 (pa_cons (pv 1) pa_nil)))) (pss_one (ps_raise rfl (takes_of rfl rfl rfl rfl) (pmk_c0H T.x_NotFormed G_NotFormed_init (hr.mono (by decide)) T.g_NotFormed))) pss_nil)
    (pss_cons (ps_if (pt_cmpR op_ge (pe_callH G_cost_of (hr.mono (by decide)) T.g_cost_of pass0 (pa_cons (pe_fld (pv 1) rfl) pa_nil)) (pe_callH G_cost_of (hr.mono (by decide)) T.g_cost_of pass0 (pa_cons (pe_fld (pv 1) rfl) pa_nil)) (nomark _)) (pss_one (ps_raise rfl (takes_of rfl rfl rfl rfl) (pmk_c0H T.x_NotCheaper G_NotCheaper_init (hr.mono (by decide)) T.g_NotCheaper))) pss_nil)
    (pss_cons (ps_set (i := 2) sc_read_sound_rule.nd rfl (Or.inl rfl) (pe_callH G_trial_against (hr.mono (by decide)) T.g_trial_against pass0 (pa_cons (pv 1) pa_nil)))
    (pss_cons (ps_if (pt_cmpR op_notN (pv 2) pe_non (nomark _)) (pss_one (ps_raise rfl (takes_of rfl rfl rfl rfl) (pmk_cH T.x_NotRight G_NotRight_init (hr.mono (by decide)) T.g_NotRight (pa_cons (pv 2) pa_nil)))) pss_nil)
    (pss_one (ps_ret (pv 1))))))))), ?_⟩)
  · obtain ⟨b, rfl, _⟩ := h
    rfl
  · obtain ⟨b, rfl, lo, hb, qE, qV⟩ := h
    refine ⟨_, rfl, b, rfl, lo, by omega, qE, fun r hr H1 v e1 hvn => ?_⟩
    have hv := hvn.1
    have ok := readRule_ok hr
    have ln := readRule_len hr
    obtain ⟨q2, q4, q3, q0⟩ := qV r hr
    refine ⟨_, rfl, v, r, rfl, hv, ok, by omega, by omega, fun H2 e2 => ?_⟩
    have e12 := e1.trans e2
    refine ⟨_, rfl, ?_⟩
    refine iB (fun c => ?_) (fun c => ?_)
    · exact mkO_ref T.x_NotFormed ((q2 (by simpa using c)).mono e12) rfl (by decide) (by decide) fun _ _ => ⟨rfl, rfl⟩
    have hf : r.formed = true := by simpa using c
    obtain ⟨a, dx, l, m, us, ws, rfl, ha, hl, hm, sl, sr⟩ := hv
    refine ⟨_, rfl, a, _, dx, _, _, rfl, e2 a _ ha, T.cl_Rule, T.nF_Rule_right, lkRight .., m, ws, r.right.map (·.op), rfl, SqL.of (e2 m _ hm), ?_, by rw [List.length_map]; omega, fun H3 e3 => ?_⟩
    · exact (sr.mono (ExI.of e2)).map_r fun _ _ h => h.word
    refine ⟨_, rfl, a, _, dx, _, _, rfl, e3 a _ (e2 a _ ha), T.cl_Rule, T.nF_Rule_left, lkLeft .., l, us, r.left.map (·.op), rfl, SqL.of (e3 l _ (e2 l _ hl)), ?_, by rw [List.length_map]; omega, fun H4 e4 => ?_⟩
    · exact (sl.mono (ExI.of (e2.trans e3))).map_r fun _ _ h => h.word
    have e14 := (e12.trans e3).trans e4
    have hch : decide (((((r.left.map (·.op)).map fun o => o.cost).sum : Nat) : Int) ≤ ((((r.right.map (·.op)).map fun o => o.cost).sum : Nat) : Int)) = !r.cheaper := by
      unfold PeRule.Rule.cheaper
      rw [sideCost_sum, sideCost_sum, List.map_map, List.map_map]
      rw [show ((fun o : PeCode.Op => o.cost) ∘ fun x : PeRule.Pat => x.op) = fun i : PeRule.Pat => i.op.cost from rfl, ← decide_not]
      exact decide_eq_decide.mpr ⟨fun h => by omega, fun h => by omega⟩
    refine ⟨_, _, rfl, rfl, _, congrArg V.bl hch, iB (fun d => ?_) (fun d => ?_)⟩
    · exact mkO_ref T.x_NotCheaper ((q4 hf (by simpa using d)).mono e14) rfl (by decide) (by decide) fun _ _ => ⟨rfl, rfl⟩
    have hcp : r.cheaper = true := by simpa using d
    have hv4 : RuleAt K H4 (.ref a) r := RuleAt.mono ((e2.trans e3).trans e4) ⟨a, dx, l, m, us, ws, rfl, ha, hl, hm, sl, sr⟩
    refine ⟨_, rfl, _, r, rfl, hv4, ok, by omega, by omega, fun H5 v5 e5 ht => ?_⟩
    have e15 := e14.trans e5
    refine ⟨_, rfl, rfl, _, rfl, ?_⟩
    cases hbad : r.bad with
    | none =>
      rw [hbad] at ht
      have hv5 : v5 = .non := ht
      subst hv5
      exact ⟨_, rfl, q0 hf hcp hbad H5 _ e15 (hvn.mono (((e2.trans e3).trans e4).trans e5))⟩
    | some t =>
      rw [hbad] at ht
      obtain ⟨c, rfl, hc⟩ := ht
      refine iT (by rw [decide_eq_false (by intro z; cases z)]; rfl) ?_
      refine ⟨_, rfl, ?_⟩
      have h6 := bad_mem hbad
      refine mkO_ref T.x_NotRight ((q3 t hf hcp hbad).mono e15) rfl (by decide) (by rw [List.length_cons, natV_len]; omega) fun a2 na2 => ⟨c, natV t, rfl, ?_, by rw [natV_len]; omega, rfl⟩
      rw [upd_ne (ne_of_none hc na2)]
      exact hc
end Pb

set_option Elab.async false
set_option linter.all false
set_option maxRecDepth 100000
set_option maxHeartbeats 4000000
namespace Pb
open PySem PySem.Spec PyProof.Rows L2 Evl PbX
/-! lists of plain data, compared -/
section
variable {α : Type} {f : α → PyData}
theorem eqvAll_map [DecidableEq α] (he : ∀ x y, PyData.eqv (f x) (f y) = decide (x = y)) : ∀ a b : List α, PyData.eqvAll (a.map f) (b.map f) = decide (a = b)
  | [], [] => by simp [PyData.eqvAll]
  | [], _ :: _ => by simp [PyData.eqvAll]
  | _ :: _, [] => by simp [PyData.eqvAll]
  | x :: a, y :: b => by
    rw [List.map_cons, List.map_cons, PyData.eqvAll, he, eqvAll_map he a b, Bool.eq_iff_iff, Bool.and_eq_true, decide_eq_true_iff, decide_eq_true_iff, decide_eq_true_iff, List.cons.injEq]
theorem eqv_map [DecidableEq α] (he : ∀ x y, PyData.eqv (f x) (f y) = decide (x = y)) (a b : List α) : PyData.eqv (.list (a.map f)) (.list (b.map f)) = decide (a = b) := by
  rw [PyData.eqv, eqvAll_map he]
theorem canLay_map (h : ∀ x, (f x).canLay0 = true) : ∀ a : List α, PyData.canLayAll0 (a.map f) = true
  | [] => by simp [PyData.canLayAll0]
  | x :: a => by
    rw [List.map_cons, PyData.canLayAll0, h, canLay_map h a]
    rfl
theorem depth_map {n : Nat} (h : ∀ x, (f x).depth ≤ n) : ∀ a : List α, PyData.depthAll (a.map f) ≤ n
  | [] => by simp [PyData.depthAll]
  | x :: a => by
    rw [List.map_cons, PyData.depthAll]
    exact Nat.max_le.mpr ⟨h x, depth_map h a⟩
theorem shaped_map {n : Nat} (h1 : ∀ x, (f x).canLay0 = true) (h2 : ∀ x, (f x).depth ≤ n) (hn : n ≤ 50) (a : List α) : SeqAt.shaped (.list (a.map f)) = true := by
  unfold SeqAt.shaped
  rw [PyData.canLay0, canLay_map h1, Bool.true_and, decide_eq_true_iff, PyData.depth]
  have := depth_map h2 a
  omega
theorem dpAll_map {K : PySem.W.Frag} {H : Hp} {g : V → α → Prop} (h : ∀ v x, g v x → Dp K H v (f x)) : ∀ {vs : List V} {xs : List α}, All2 g vs xs → DpAll K H vs (xs.map f)
  | _, _, .nil => .nil
  | _, _, .cons a t => .cons (h _ _ a) (dpAll_map h t)
end
/-! words -/
def opD (o : PeCode.Op) : PyData := .str (S o.word)
theorem opD_eqv (x y : PeCode.Op) : PyData.eqv (opD x) (opD y) = decide (x = y) := by
  cases x <;> cases y <;> decide +kernel
theorem opD_lay (x : PeCode.Op) : (opD x).canLay0 = true := by cases x <;> decide +kernel
theorem opD_depth (x : PeCode.Op) : (opD x).depth ≤ 0 := by cases x <;> decide +kernel
def opV (o : PeCode.Op) : V := .str (S o.word)
theorem dp_ops {K : PySem.W.Frag} {H : Hp} {a : Addr} {os : List PeCode.Op} (h : H a = some (.lst (os.map opV))) : Dp K H (.ref a) (.list (os.map opD)) := by
  refine .lst (SqL.of h) ?_
  clear h
  induction os with
  | nil => exact .nil
  | cons o os ih => exact .cons (.str _) ih
theorem shaped_ops (os : List PeCode.Op) : SeqAt.shaped (.list (os.map opD)) = true := shaped_map opD_lay opD_depth (by decide) os
theorem ne_ops (a b : List PeCode.Op) : (!PyData.eqv (.list (a.map opD)) (.list (b.map opD))) = !decide (a = b) := by rw [eqv_map opD_eqv]
/-! pairs of numbers -/
def pairD (x : Nat × Nat) : PyData := .tuple [.int x.1, .int x.2]
theorem pairD_eqv (x y : Nat × Nat) : PyData.eqv (pairD x) (pairD y) = decide (x = y) := by
  obtain ⟨a, b⟩ := x
  obtain ⟨c, d⟩ := y
  unfold pairD
  simp only [PyData.eqv, PyData.eqvAll, Bool.and_true]
  rw [Bool.eq_iff_iff, Bool.and_eq_true, beq_iff_eq, beq_iff_eq, decide_eq_true_iff, Prod.mk.injEq]
  omega
theorem pairD_lay (x : Nat × Nat) : (pairD x).canLay0 = true := by simp [pairD, PyData.canLay0, PyData.canLayAll0]
theorem pairD_depth (x : Nat × Nat) : (pairD x).depth ≤ 5 := by simp [pairD, PyData.depth, PyData.depthAll]
/-- a tuple of two numbers -/
def PairAt (H : Hp) (v : V) (x : Nat × Nat) : Prop := ∃ t, v = .ref t ∧ H t = some (.tup [.int x.1, .int x.2])
theorem PairAt.dp {K : PySem.W.Frag} {H : Hp} {v : V} {x : Nat × Nat} (h : PairAt H v x) : Dp K H v (pairD x) := by
  obtain ⟨t, rfl, h1⟩ := h
  exact .tup (SqT.of h1) (.cons (.int _) (.cons (.int _) .nil))
theorem shaped_pairs (xs : List (Nat × Nat)) : SeqAt.shaped (.list (xs.map pairD)) = true := shaped_map pairD_lay pairD_depth (by decide) xs
theorem eq_pairs (a b : List (Nat × Nat)) : PyData.eqv (.list (a.map pairD)) (.list (b.map pairD)) = decide (a = b) := eqv_map pairD_eqv a b
theorem dp_pairs {K : PySem.W.Frag} {H : Hp} {a : Addr} {vs : List V} {xs : List (Nat × Nat)} (h : H a = some (.lst vs)) (p : All2 (PairAt H) vs xs) : Dp K H (.ref a) (.list (xs.map pairD)) := .lst (SqL.of h) (dpAll_map (fun _ _ q => q.dp) p)
end Pb

set_option Elab.async false
set_option linter.all false
set_option maxRecDepth 100000
set_option maxHeartbeats 4000000
namespace Pb
open PySem PySem.Spec PyProof.Rows L2 Evl PbX
/-! ### fits -/
abbrev cFit (K : PySem.W.Frag) : Addr := He.ga K "Fit"
def fFit (p x y : V) : List (Str × V) := [("places", p), ("x", x), ("y", y)]
theorem lkP (p x y : V) : (fFit p x y).lookup ("places" : Str) = some p := rfl
theorem lkX (p x y : V) : (fFit p x y).lookup ("x" : Str) = some x := rfl
theorem lkY (p x y : V) : (fFit p x y).lookup ("y" : Str) = some y := rfl
theorem lkToldX (p x y : V) : (fFit p x y).lookup ("told_x" : Str) = none := rfl
theorem lkToldY (p x y : V) : (fFit p x y).lookup ("told_y" : Str) = none := rfl
theorem lkPutN (p x y : V) : (fFit p x y).lookup ("put_name" : Str) = none := rfl
theorem lkPutC (p x y : V) : (fFit p x y).lookup ("put_constant" : Str) = none := rfl
theorem putX (p x y z : V) : putF "x" z (fFit p x y) = fFit p z y := rfl
theorem putY (p x y z : V) : putF "y" z (fFit p x y) = fFit p x z := rfl
def FitAt (K : PySem.W.Frag) (H : Hp) (a p : Addr) (b : PeRule.Bound) : Prop := (∃ dx, H a = some (.ins (cFit K) dx (fFit (.ref p) (optI b.x) (optI b.y)))) ∧ H p = some (.lst (natV b.regs))
def spFitInit (K : PySem.W.Frag) : Sp := fun vs H Q _ => ∃ (a dx : Addr), vs = [.ref a] ∧ H a = some (.ins (cFit K) dx []) ∧ ∀ H' p, H p = none → ExB a H H' → H' a = some (.ins (cFit K) dx (fFit (.ref p) .non .non)) → H' p = some (.lst (natV [8, 8, 8, 8])) → Q .non H'
theorem G_Fit_init {P : Program} {w : World} {K : PySem.W.Frag} {mg : Str → Option Value} {base : Heap} (T : Txt w K mg) : Has P w K mg base CX0 1 (He.ma K (He.ga K "Fit") "__init__") p_Fit_init (spFitInit K) := by
  refine T.d_Fit_init.has sc_Fit_init (fun vs H Q E h => ?_) (fun cdv A outer s H vs Q E hr h => ⟨_, PSs.nox ((pss_cons (ps_fld (pv 0) (pe_op op_rep (pe_lst (pa_cons (pe_gi T.c_NO_REGISTER) pa_nil)) (pe_callB call_len_seq (by rfl) T.u_len PySem.boot_len (pa_cons (pe_gr T.g_NAMES) pa_nil))) rfl)
    (pss_cons (ps_fld (pv 0) pe_non rfl)
    (pss_one (ps_fld (pv 0) pe_non rfl))))), ?_⟩)
  · obtain ⟨a, dx, rfl, _⟩ := h
    rfl
  · obtain ⟨a, dx, rfl, ha, q⟩ := h
    refine ⟨by show 1 ≤ sizeLine; decide, fun p0 hp0 => ?_⟩
    refine ⟨_, _, rfl, .inr (T.tp_NAMES _), ?_⟩
    refine ⟨p0, 4, _, rfl, rfl, upd_same, by decide, by decide, by show 1 * 4 ≤ sizeLine; decide, fun p hp => ?_⟩
    have x1 := Ex.new (o := .lst [V.int 8]) hp0
    have x2 := Ex.new (o := .lst (List.replicate (4 : Int).toNat [V.int 8]).flatten) hp
    have e3 := x1.trans x2
    have ha2 := e3 _ _ ha
    have hl : (upd (upd H p0 (.lst [V.int 8])) p (.lst (List.replicate (4 : Int).toNat [V.int 8]).flatten)) p = some (.lst (natV [8, 8, 8, 8])) := upd_same
    have hp2 : H p = none := fresh_back x1 hp
    generalize upd (upd H p0 (.lst [V.int 8])) p (.lst (List.replicate (4 : Int).toNat [V.int 8]).flatten) = H2 at e3 ha2 hl ⊢
    have hpa : p ≠ a := fun z => by rw [z, ha] at hp2; cases hp2
    refine ⟨_, rfl, a, _, dx, _, rfl, ha2, T.cl_Fit, T.nF_Fit_places, by show 0 < 1000; decide, ?_⟩
    refine ⟨_, rfl, a, _, dx, _, rfl, upd_same, T.cl_Fit, T.nF_Fit_x, by show 1 < 1000; decide, ?_⟩
    refine ⟨_, rfl, a, _, dx, _, rfl, upd_same, T.cl_Fit, T.nF_Fit_y, by show 2 < 1000; decide, ?_⟩
    refine q _ p hp2 ((((ExB.of e3).upd).upd).upd) upd_same ?_
    rw [upd_ne hpa, upd_ne hpa, upd_ne hpa, hl]
/-! ### registers put for names -/
def spPutName (K : PySem.W.Frag) : Sp := fun vs H Q _ => ∃ (a p : Addr) (b : PeRule.Bound) (n r : Nat), vs = [.ref a, .int n, .int r] ∧ FitAt K H a p b ∧ BoundOk b ∧ n < 4 ∧ r < 8 ∧
  (∀ b', PeRule.bindReg b n r = some b' → ∀ H', ExB p H H' → FitAt K H' a p b' → Q (.bl true) H') ∧ (PeRule.bindReg b n r = none → Q (.bl false) H)
theorem natV_flat (s : List Nat) : (natV s).all flatV = true := by
  rw [List.all_map]
  exact List.all_eq_true.mpr fun _ _ => rfl
theorem inV_nat (n : Nat) (s : List Nat) : inV (.int (n : Nat)) (natV s) = s.contains n := by
  unfold inV
  rw [List.any_map, List.contains_eq_any_beq]
  congr 1
  funext x
  show eqV (.int (x : Nat)) (.int (n : Nat)) = (n == x)
  rw [eqI, Bool.eq_iff_iff, beq_iff_eq, beq_iff_eq]
  exact ⟨Eq.symm, Eq.symm⟩
theorem decN (m n : Nat) : decide (V.int (m : Nat) = V.int (n : Nat)) = decide (m = n) := by
  simp only [V.int.injEq]
  exact decide_eq_decide.mpr Int.ofNat_inj
theorem G_Fit_put_name {P : Program} {w : World} {K : PySem.W.Frag} {mg : Str → Option Value} {base : Heap} (T : Txt w K mg) : Has P w K mg base CX0 1 (He.ma K (He.ga K "Fit") "put_name") p_Fit_put_name (spPutName K) := by
  refine T.d_Fit_put_name.has sc_Fit_put_name (fun vs H Q E h => ?_) (fun cdv A outer s H vs Q E hr h => ⟨_, PSs.nox ((pss_cons (ps_if (PW.pt (pw_and (pt_cmpR op_eq (pe_ix ix_list (pe_fld (pv 0) rfl) (pv 1) (fun _ _ => rfl)) (pe_gi T.c_NO_REGISTER) (nomark _)) (pw_and1 (pt_cmpR op_notIn_seq (pv 2) (pe_fld (pv 0) rfl) (by rfl))))) (pss_one (ps_asg (pv 2) (pg_sub (pe_fld (pv 0) rfl) (pv 1) set_list))) pss_nil)
    (pss_one (ps_ret (pe_cmpR op_eq (pe_ix ix_list (pe_fld (pv 0) rfl) (pv 1) (fun _ _ => rfl)) (pv 2) (nomark _)))))), ?_⟩)
  · obtain ⟨a, p, b, n, r, rfl, _⟩ := h
    rfl
  · obtain ⟨a, p, b, n, r, rfl, ⟨⟨dx, ha⟩, hp⟩, bok, hn, hr8, qY, qN⟩ := h
    have hat : atI (natV b.regs) (n : Int) = some (V.int (PeCode.at_ b.regs n : Nat)) := natV_at (by rw [bok.1]; exact hn)
    have hg : b.regs.getD n PeRule.NONE = PeCode.at_ b.regs n := by
      have : n < b.regs.length := by rw [bok.1]; exact hn
      unfold PeCode.at_
      rw [List.getD_eq_getElem?_getD, List.getD_eq_getElem?_getD, List.getElem?_eq_getElem this]
      rfl
    unfold PeRule.bindReg at qY qN
    rw [hg] at qY qN
    -- what is told behind the test, with these registers
    have fin : ∀ (H1 : Hp) (s : List Nat), H1 a = some (.ins (cFit K) dx (fFit (.ref p) (optI b.x) (optI b.y))) → H1 p = some (.lst (natV s)) → s.length = 4 → Q (.bl (decide (PeCode.at_ s n = r))) H1 → ∀ D : Ends, D.rt = Q →
        tRet (tOp rEq (tOp (rIxL K) (tFld K (tVar 0) "places") (tVar 1)) (tVar 2)) D [some (.ref a), some (.int (n : Nat)), some (.int (r : Nat))] H1 := fun H1 s h1 h2 h4 hq D hD => by
      refine ⟨_, rfl, a, _, dx, _, _, rfl, h1, T.cl_Fit, T.nF_Fit_places, lkP .., _, rfl, p, _, _, _, rfl, rfl, SqL.of h2, natV_at (by rw [h4]; exact hn), _, rfl, rfl, ?_⟩
      rw [decN, hD]
      exact hq
    refine ⟨_, rfl, a, _, dx, _, _, rfl, ha, T.cl_Fit, T.nF_Fit_places, lkP .., _, rfl, p, _, _, _, rfl, rfl, SqL.of hp, hat, rfl, _, congrArg V.bl (decN _ 8), iB (fun c => ?_) (fun c => ?_)⟩
    · have c8 := of_decide_eq_true c
      refine ⟨_, rfl, _, rfl, a, _, dx, _, _, rfl, ha, T.cl_Fit, T.nF_Fit_places, lkP .., p, _, rfl, .inl (SqL.of hp), rfl, natV_flat _, _, congrArg V.bl (congrArg not (inV_nat r b.regs)), iB (fun d => ?_) (fun d => ?_)⟩
      · have d2 : b.regs.contains r = false := by simpa using d
        have hset := natV_set b.regs n r
        refine ⟨_, rfl, _, rfl, a, _, dx, _, _, rfl, ha, T.cl_Fit, T.nF_Fit_places, lkP .., _, rfl, p, _, _, _, rfl, rfl, hp, ixN_nat (by rw [List.length_map, bok.1]; exact hn), ?_⟩
        have hap : a ≠ p := ne_of ha hp (by intro z; cases z)
        have hp1 : upd H p (.lst ((natV b.regs).set n (V.int (r : Nat)))) p = some (.lst (natV (b.regs.set n r))) := by rw [upd_same, hset]
        refine fin _ (b.regs.set n r) (by rw [upd_ne hap]; exact ha) hp1 (by rw [List.length_set]; exact bok.1) ?_ _ rfl
        have hr1 : PeCode.at_ (b.regs.set n r) n = r := by
          unfold PeCode.at_
          rw [List.getD_eq_getElem?_getD, List.getElem?_set_self (by rw [bok.1]; exact hn)]
          rfl
        rw [hr1, decide_eq_true rfl]
        refine qY { b with regs := b.regs.set n r } ?_ _ (ExB.refl _ _).upd ⟨⟨dx, by rw [upd_ne hap]; exact ha⟩, hp1⟩
        rw [if_neg (by rw [c8]; omega), if_pos ⟨c8, d2⟩]
      · have d2 : b.regs.contains r = true := by simpa using d
        refine fin H b.regs ha hp bok.1 ?_ _ rfl
        rw [decide_eq_false (by rw [c8]; omega)]
        exact qN (by rw [if_neg (by rw [c8]; omega), if_neg (fun z => by rw [d2] at z; cases z.2)])
    · have c8 := of_decide_eq_false c
      refine fin H b.regs ha hp bok.1 ?_ _ rfl
      by_cases hrr : PeCode.at_ b.regs n = r
      · rw [decide_eq_true hrr]
        exact qY b (if_pos hrr) H (ExB.refl _ _) ⟨⟨dx, ha⟩, hp⟩
      · rw [decide_eq_false hrr]
        exact qN (by rw [if_neg hrr, if_neg (fun z => c8 z.1)])
/-! ### numbers put for x and y -/
theorem optN (o : Option Nat) : decide (optI o = V.non) = o.isNone := by cases o <;> rfl
def spTold (K : PySem.W.Frag) (f : PeRule.Bound → Option Nat) : Sp := fun vs H Q _ => ∃ (a p : Addr) (b : PeRule.Bound), vs = [.ref a] ∧ FitAt K H a p b ∧ Q (.int ((f b).getD 0 : Nat)) H
theorem G_Fit_told_x {P : Program} {w : World} {K : PySem.W.Frag} {mg : Str → Option Value} {base : Heap} (T : Txt w K mg) : Has P w K mg base CX0 1 (He.ma K (He.ga K "Fit") "told_x") p_Fit_told_x (spTold K (fun b => b.x)) := by
  refine T.d_Fit_told_x.has sc_Fit_told_x (fun vs H Q E h => ?_) (fun cdv A outer s H vs Q E hr h => ⟨_, PSs.nox ((pss_one (ps_ret (pe_ifExp (pt_cmpR op_isN (pe_fld (pv 0) rfl) pe_non (nomark _)) pe_int (pe_fld (pv 0) rfl))))), ?_⟩)
  · obtain ⟨a, p, b, rfl, _⟩ := h
    rfl
  · obtain ⟨a, p, b, rfl, ⟨⟨dx, ha⟩, hp⟩, q⟩ := h
    refine ⟨_, rfl, a, _, dx, _, _, rfl, ha, T.cl_Fit, T.nF_Fit_x, lkX .., rfl, _, congrArg V.bl (optN _), ?_⟩
    obtain ⟨rs, x, y⟩ := b
    cases x with
    | none => exact q
    | some n => exact ⟨_, rfl, a, _, dx, _, _, rfl, ha, T.cl_Fit, T.nF_Fit_x, lkX .., q⟩
theorem G_Fit_told_y {P : Program} {w : World} {K : PySem.W.Frag} {mg : Str → Option Value} {base : Heap} (T : Txt w K mg) : Has P w K mg base CX0 1 (He.ma K (He.ga K "Fit") "told_y") p_Fit_told_y (spTold K (fun b => b.y)) := by
  refine T.d_Fit_told_y.has sc_Fit_told_y (fun vs H Q E h => ?_) (fun cdv A outer s H vs Q E hr h => ⟨_, PSs.nox ((pss_one (ps_ret (pe_ifExp (pt_cmpR op_isN (pe_fld (pv 0) rfl) pe_non (nomark _)) pe_int (pe_fld (pv 0) rfl))))), ?_⟩)
  · obtain ⟨a, p, b, rfl, _⟩ := h
    rfl
  · obtain ⟨a, p, b, rfl, ⟨⟨dx, ha⟩, hp⟩, q⟩ := h
    refine ⟨_, rfl, a, _, dx, _, _, rfl, ha, T.cl_Fit, T.nF_Fit_y, lkY .., rfl, _, congrArg V.bl (optN _), ?_⟩
    obtain ⟨rs, x, y⟩ := b
    cases y with
    | none => exact q
    | some n => exact ⟨_, rfl, a, _, dx, _, _, rfl, ha, T.cl_Fit, T.nF_Fit_y, lkY .., q⟩
end Pb

set_option Elab.async false
set_option linter.all false
set_option maxRecDepth 100000
set_option maxHeartbeats 4000000
namespace Pb
open PySem PySem.Spec PyProof.Rows L2 Evl PbX
def bindCon (b : PeRule.Bound) (c : PeRule.Con) (k : Nat) : Option PeRule.Bound := if c.x = 1 then (PeRule.bindNum b.x k).map fun x => { b with x := x } else if c.y = 1 then (PeRule.bindNum b.y k).map fun y => { b with y := y } else if c.k = k then some b else none
theorem value_x {x y : Nat} (hx : x < PeCode.W) : PeRule.value ⟨0, 1, 0⟩ x y = x := by
  unfold PeRule.value PeCode.plus
  unfold PeCode.W at *
  simp
  omega
theorem value_y {x y : Nat} (hy : y < PeCode.W) : PeRule.value ⟨0, 0, 1⟩ x y = y := by
  unfold PeRule.value PeCode.plus
  unfold PeCode.W at *
  simp
  omega
theorem value_k {k x y : Nat} (hk : k < PeCode.W) : PeRule.value ⟨k, 0, 0⟩ x y = k := by
  unfold PeRule.value PeCode.plus
  unfold PeCode.W at *
  simp
  omega
theorem sgn1 (n : Nat) (h : n ≤ 2) : decide (V.int (sgn n) = V.int 1) = decide (n = 1) := by
  match n, h with
  | 0, _ => rfl
  | 1, _ => rfl
  | 2, _ => rfl
  | n + 3, h => omega
theorem getD_lt {o : Option Nat} (h : ∀ x, o = some x → x < PeCode.W) : o.getD 0 < PeCode.W := by
  cases o with
  | none => show 0 < PeCode.W; decide
  | some n => exact h n rfl
def spPutCon (K : PySem.W.Frag) : Sp := fun vs H Q _ => ∃ (a p : Addr) (b : PeRule.Bound) (v : V) (c : PeRule.Con) (k : Nat), vs = [.ref a, v, .int k] ∧ FitAt K H a p b ∧ BoundOk b ∧ ConAt K H v c ∧ LeftCon c ∧ k < PeCode.W ∧
  (∀ b', bindCon b c k = some b' → ∀ H', ExB a H H' → FitAt K H' a p b' → Q (.bl true) H') ∧ (bindCon b c k = none → Q (.bl false) H)
theorem G_Fit_put_constant {P : Program} {w : World} {K : PySem.W.Frag} {mg : Str → Option Value} {base : Heap} (T : Txt w K mg) : Has P w K mg base CX0 2 (He.ma K (He.ga K "Fit") "put_constant") p_Fit_put_constant (spPutCon K) := by
  have G_Constant_worth := G_Constant_worth (P := P) (base := base) T
  have G_Fit_told_x := G_Fit_told_x (P := P) (base := base) T
  have G_Fit_told_y := G_Fit_told_y (P := P) (base := base) T
  refine T.d_Fit_put_constant.has sc_Fit_put_constant (fun vs H Q E h => ?_) (fun cdv A outer s H vs Q E hr h => ⟨_, PSs.nox ((pss_cons (ps_if (PW.pt (pw_and (pt_cmpR op_eq (pe_fld (pv 1) rfl) pe_int (nomark _)) (pw_and1 (pt_cmpR op_isN (pe_fld (pv 0) rfl) pe_non (nomark _))))) (pss_one (ps_fld (pv 0) (pv 2) rfl)) pss_nil)
    (pss_cons (ps_if (PW.pt (pw_and (pt_cmpR op_eq (pe_fld (pv 1) rfl) pe_int (nomark _)) (pw_and1 (pt_cmpR op_isN (pe_fld (pv 0) rfl) pe_non (nomark _))))) (pss_one (ps_fld (pv 0) (pv 2) rfl)) pss_nil)
    (pss_one (ps_ret (pe_cmpR op_eq (pe_methH (pv 1) T.cl_Constant T.m_Constant_worth G_Constant_worth (hr.mono (by decide)) pass0 (pa_cons (pe_meth0H (pv 0) T.cl_Fit T.m_Fit_told_x G_Fit_told_x (hr.mono (by decide)) pass0) (pa_cons (pe_meth0H (pv 0) T.cl_Fit T.m_Fit_told_y G_Fit_told_y (hr.mono (by decide)) pass0) pa_nil))) (pv 2) (nomark _))))))), ?_⟩)
  · obtain ⟨a, p, b, v, c, k, rfl, _⟩ := h
    rfl
  · obtain ⟨a, p, b, v, c, k, rfl, ⟨⟨dx, ha⟩, hp⟩, bok, hcon, lc, hk, qY, qN⟩ := h
    obtain ⟨va, vd, rfl, hva⟩ := hcon
    have cok := lc.ok
    have hap : p ≠ a := (ne_of ha hp (by intro z; cases z)).symm
    have hav : va ≠ a := fun z => by
      rw [z, ha] at hva
      have h1 := Option.some.inj hva
      injection h1 with h2 h3 h4
      have h5 : fFit (.ref p) (optI b.x) (optI b.y) = fCon (.int c.k) (.int (sgn c.x)) (.int (sgn c.y)) := h4
      have h6 := congrArg (fun l : List (Str × V) => l.lookup ("places" : Str)) h5
      exact absurd h6 (by intro z; cases z)
    -- the answer, once what is to be put is put
    have fin : ∀ (H1 : Hp) (b1 : PeRule.Bound), H1 va = some (.ins (cCon K) vd (fCon (.int c.k) (.int (sgn c.x)) (.int (sgn c.y)))) → FitAt K H1 a p b1 → BoundOk b1 → Q (.bl (decide (PeRule.value c (b1.x.getD 0) (b1.y.getD 0) = k))) H1 → ∀ D : Ends, D.rt = Q →
        tRet (tOp rEq (tMt (cCon K) "worth" (spWorth K) E0 (tVar 1) (tCons (tMt (cFit K) "told_x" (spTold K (fun b => b.x)) E0 (tVar 0) tNil) (tCons (tMt (cFit K) "told_y" (spTold K (fun b => b.y)) E0 (tVar 0) tNil) tNil))) (tVar 2)) D [some (.ref a), some (.ref va), some (.int (k : Nat))] H1 := fun H1 b1 h1 hf ok1 hq D hD => by
      have hf' := hf
      obtain ⟨⟨d1, ha1⟩, hp1⟩ := hf'
      refine ⟨_, rfl, va, vd, _, rfl, h1, lkWorth .., _, rfl, a, d1, _, rfl, ha1, lkToldX .., a, p, b1, rfl, hf, _, rfl, a, d1, _, rfl, ha1, lkToldY .., a, p, b1, rfl, hf, ?_⟩
      refine ⟨_, c, b1.x.getD 0, b1.y.getD 0, rfl, ⟨va, vd, rfl, h1⟩, cok, getD_lt ok1.2.1, getD_lt ok1.2.2, ?_⟩
      refine ⟨_, rfl, rfl, ?_⟩
      rw [decN, hD]
      exact hq
    obtain ⟨rs, bx, bY⟩ := b
    unfold bindCon at qY qN
    refine ⟨_, rfl, va, _, vd, _, _, rfl, hva, T.cl_Constant, T.nF_Constant_times_x, lkTx .., rfl, _, congrArg V.bl (sgn1 _ cok.2.1), ?_⟩
    rcases lc with rfl | rfl | ⟨k0, rfl, hk0⟩
    · -- x
      refine ⟨_, rfl, a, _, dx, _, _, rfl, ha, T.cl_Fit, T.nF_Fit_x, lkX .., rfl, _, congrArg V.bl (optN _), ?_⟩
      cases bx with
      | none =>
        refine ⟨_, rfl, _, rfl, a, _, dx, _, rfl, ha, T.cl_Fit, T.nF_Fit_x, by show 3 < 1000; decide, ?_⟩
        have h1 : upd H a (.ins (cFit K) dx (putF "x" (.int (k : Nat)) (fFit (.ref p) (optI none) (optI bY)))) va = _ := (upd_ne hav).trans hva
        have hf1 : FitAt K (upd H a (.ins (cFit K) dx (putF "x" (.int (k : Nat)) (fFit (.ref p) (optI none) (optI bY))))) a p ⟨rs, some k, bY⟩ := ⟨⟨dx, upd_same⟩, by rw [upd_ne hap]; exact hp⟩
        refine ⟨_, rfl, va, _, vd, _, _, rfl, h1, T.cl_Constant, T.nF_Constant_times_y, lkTy .., rfl, false, congrArg V.bl (sgn1 0 (by decide)), ?_⟩
        refine fin _ ⟨rs, some k, bY⟩ h1 hf1 ⟨bok.1, (fun x h => by rw [← Option.some.inj h]; exact hk), bok.2.2⟩ ?_ _ rfl
        rw [show (⟨rs, some k, bY⟩ : PeRule.Bound).x.getD 0 = k from rfl, value_x hk, decide_eq_true rfl]
        exact qY _ rfl _ (ExB.refl _ _).upd hf1
      | some j =>
        have hj := bok.2.1 j rfl
        refine ⟨_, rfl, va, _, vd, _, _, rfl, hva, T.cl_Constant, T.nF_Constant_times_y, lkTy .., rfl, false, congrArg V.bl (sgn1 0 (by decide)), ?_⟩
        refine fin _ ⟨rs, some j, bY⟩ hva ⟨⟨dx, ha⟩, hp⟩ bok ?_ _ rfl
        rw [show (⟨rs, some j, bY⟩ : PeRule.Bound).x.getD 0 = j from rfl, value_x hj]
        by_cases hjk : j = k
        · rw [decide_eq_true hjk]
          exact qY ⟨rs, some j, bY⟩ (by show Option.map _ (if j = k then some (some j) else none) = _; rw [if_pos hjk]; rfl) H (ExB.refl _ _) ⟨⟨dx, ha⟩, hp⟩
        · rw [decide_eq_false hjk]
          exact qN (by show Option.map _ (if j = k then some (some j) else none) = _; rw [if_neg hjk]; rfl)
    · -- y
      refine ⟨_, rfl, va, _, vd, _, _, rfl, hva, T.cl_Constant, T.nF_Constant_times_y, lkTy .., rfl, true, congrArg V.bl (sgn1 1 (by decide)), ?_⟩
      refine ⟨_, rfl, a, _, dx, _, _, rfl, ha, T.cl_Fit, T.nF_Fit_y, lkY .., rfl, _, congrArg V.bl (optN _), ?_⟩
      cases bY with
      | none =>
        refine ⟨_, rfl, _, rfl, a, _, dx, _, rfl, ha, T.cl_Fit, T.nF_Fit_y, by show 3 < 1000; decide, ?_⟩
        have h1 : upd H a (.ins (cFit K) dx (putF "y" (.int (k : Nat)) (fFit (.ref p) (optI bx) (optI none)))) va = _ := (upd_ne hav).trans hva
        have hf1 : FitAt K (upd H a (.ins (cFit K) dx (putF "y" (.int (k : Nat)) (fFit (.ref p) (optI bx) (optI none))))) a p ⟨rs, bx, some k⟩ := ⟨⟨dx, upd_same⟩, by rw [upd_ne hap]; exact hp⟩
        refine fin _ ⟨rs, bx, some k⟩ h1 hf1 ⟨bok.1, bok.2.1, (fun x h => by rw [← Option.some.inj h]; exact hk)⟩ ?_ _ rfl
        rw [show (⟨rs, bx, some k⟩ : PeRule.Bound).y.getD 0 = k from rfl, value_y hk, decide_eq_true rfl]
        exact qY _ rfl _ (ExB.refl _ _).upd hf1
      | some j =>
        have hj := bok.2.2 j rfl
        refine fin _ ⟨rs, bx, some j⟩ hva ⟨⟨dx, ha⟩, hp⟩ bok ?_ _ rfl
        rw [show (⟨rs, bx, some j⟩ : PeRule.Bound).y.getD 0 = j from rfl, value_y hj]
        by_cases hjk : j = k
        · rw [decide_eq_true hjk]
          exact qY ⟨rs, bx, some j⟩ (by show Option.map _ (if j = k then some (some j) else none) = _; rw [if_pos hjk]; rfl) H (ExB.refl _ _) ⟨⟨dx, ha⟩, hp⟩
        · rw [decide_eq_false hjk]
          exact qN (by show Option.map _ (if j = k then some (some j) else none) = _; rw [if_neg hjk]; rfl)
    · -- a number
      refine ⟨_, rfl, va, _, vd, _, _, rfl, hva, T.cl_Constant, T.nF_Constant_times_y, lkTy .., rfl, false, congrArg V.bl (sgn1 0 (by decide)), ?_⟩
      refine fin H ⟨rs, bx, bY⟩ hva ⟨⟨dx, ha⟩, hp⟩ bok ?_ _ rfl
      rw [value_k hk0]
      by_cases hkk : k0 = k
      · rw [decide_eq_true hkk]
        exact qY _ (if_pos hkk) H (ExB.refl _ _) ⟨⟨dx, ha⟩, hp⟩
      · rw [decide_eq_false hkk]
        exact qN (if_neg hkk)
end Pb

set_option Elab.async false
set_option linter.all false
set_option maxRecDepth 100000
set_option maxHeartbeats 4000000
namespace Pb
open PySem PySem.Spec PyProof.Rows L2 Evl PbX
/-- all but these two stands -/
def ExF (a p : Addr) (H H' : Hp) : Prop := ∀ b o, b ≠ a → b ≠ p → H b = some o → H' b = some o
theorem ExF.refl (a p : Addr) (H : Hp) : ExF a p H H := fun _ _ _ _ h => h
theorem ExF.ofA {a p : Addr} {H H' : Hp} (e : ExB a H H') : ExF a p H H' := fun b o h _ q => e b o h q
theorem ExF.ofP {a p : Addr} {H H' : Hp} (e : ExB p H H') : ExF a p H H' := fun b o _ h q => e b o h q
theorem ExF.trans {a p : Addr} {H H1 H2 : Hp} (e : ExF a p H H1) (f : ExF a p H1 H2) : ExF a p H H2 := fun b o h1 h2 q => f b o h1 h2 (e b o h1 h2 q)
theorem ExF.ex {a p : Addr} {H0 H H' : Hp} (e : ExF a p H H') (e0 : Ex H0 H) (ha : H0 a = none) (hp : H0 p = none) : Ex H0 H' := fun b o q => e b o (fun z => by rw [z, ha] at q; cases q) (fun z => by rw [z, hp] at q; cases q) (e0 b o q)
theorem decW (o p : PeCode.Op) : (!decide (V.str (S o.word) = V.str (S p.word))) = decide (o ≠ p) := by
  rw [word_eq, decide_not]
theorem optI_ok {o : Option Nat} : True := trivial
/-- put_constant keeps what a fit may hold -/
theorem bindCon_ok {b b' : PeRule.Bound} {c : PeRule.Con} {k : Nat} (h : BoundOk b) (hk : k < PeCode.W) (e : bindCon b c k = some b') : BoundOk b' := by
  unfold bindCon at e
  have num : ∀ (o : Option Nat) (o' : Option Nat), (∀ x, o = some x → x < PeCode.W) → PeRule.bindNum o k = some o' → ∀ x, o' = some x → x < PeCode.W := fun o o' ho e x hx => by
    unfold PeRule.bindNum at e
    cases o with
    | none =>
      rw [← Option.some.inj e] at hx
      rw [← Option.some.inj hx]
      exact hk
    | some j =>
      dsimp only at e
      split at e
      · rw [← Option.some.inj e] at hx
        exact ho x hx
      · cases e
  split at e
  · cases hn : PeRule.bindNum b.x k with
    | none => rw [hn] at e; cases e
    | some o =>
      rw [hn] at e
      rw [← Option.some.inj e]
      exact ⟨h.1, num _ _ h.2.1 hn, h.2.2⟩
  · split at e
    · cases hn : PeRule.bindNum b.y k with
      | none => rw [hn] at e; cases e
      | some o =>
        rw [hn] at e
        rw [← Option.some.inj e]
        exact ⟨h.1, h.2.1, num _ _ h.2.2 hn⟩
    · split at e
      · rw [← Option.some.inj e]
        exact h
      · cases e
theorem bindIns_eq (b : PeRule.Bound) (p : PeRule.Pat) (i : PeCode.Ins) : PeRule.bindIns b p i = if p.op ≠ i.op then none else (PeRule.bindReg b p.a i.a).bind fun c => if p.op.two = true then PeRule.bindReg c p.b i.b else if p.op.con = true then bindCon c p.con i.k else some c := by
  unfold PeRule.bindIns bindCon
  split
  · rfl
  · congr 1
    funext c
    cases ht : p.op.two with
    | true =>
      rw [if_pos rfl, if_pos rfl]
      cases PeRule.bindReg c p.b i.b with
      | none => rfl
      | some d =>
        show (if p.op.con = false then some d else _) = some d
        rw [if_pos (two_con ht)]
    | false =>
      rw [if_neg Bool.false_ne_true, if_neg Bool.false_ne_true]
      show (if p.op.con = false then some c else _) = _
      cases hc : p.op.con with
      | true => rw [if_neg (by decide), if_pos rfl]
      | false => rw [if_pos rfl, if_neg Bool.false_ne_true]
theorem bindIns_ok {b b' : PeRule.Bound} {p : PeRule.Pat} {i : PeCode.Ins} (h : BoundOk b) (hi : InsOk i) (e : PeRule.bindIns b p i = some b') : BoundOk b' := by
  rw [bindIns_eq] at e
  split at e
  · cases e
  · cases hr : PeRule.bindReg b p.a i.a with
    | none => rw [hr] at e; cases e
    | some c =>
      rw [hr] at e
      have e2 : (if p.op.two = true then PeRule.bindReg c p.b i.b else if p.op.con = true then bindCon c p.con i.k else some c) = some b' := e
      have hc := bindReg_ok h hr
      split at e2
      · exact bindReg_ok hc e2
      · split at e2
        · exact bindCon_ok hc hi.2.2 e2
        · rw [← Option.some.inj e2]
          exact hc
def spTakes (K : PySem.W.Frag) : Sp := fun vs H Q _ => ∃ (a p : Addr) (b : PeRule.Bound) (v u : V) (t : PeRule.Pat) (i : PeCode.Ins), vs = [.ref a, v, u] ∧ FitAt K H a p b ∧ BoundOk b ∧ PatAt K H v t ∧ PatL t ∧ InsAt K H u i ∧ InsOk i ∧ t.op = i.op ∧
  (∀ b', PeRule.bindIns b t i = some b' → ∀ H', ExF a p H H' → FitAt K H' a p b' → Q (.bl true) H') ∧ (PeRule.bindIns b t i = none → ∀ H', ExF a p H H' → Q (.bl false) H')
theorem G_takes {P : Program} {w : World} {K : PySem.W.Frag} {mg : Str → Option Value} {base : Heap} (T : Txt w K mg) : Has P w K mg base CX0 3 (He.ga K "takes") p_takes (spTakes K) := by
  have G_Fit_put_constant := G_Fit_put_constant (P := P) (base := base) T
  have G_Fit_put_name := G_Fit_put_name (P := P) (base := base) T
  refine T.d_takes.has sc_takes (fun vs H Q E h => ?_) (fun cdv A outer s H vs Q E hr h => ⟨_, PSs.nox ((pss_cons (ps_if (pt_not (pt_val (pe_methH (pv 0) T.cl_Fit T.m_Fit_put_name G_Fit_put_name (hr.mono (by decide)) pass0 (pa_cons (pe_fld (pv 1) rfl) (pa_cons (pe_fld (pv 2) rfl) pa_nil))))) (pss_one (ps_ret pe_bl)) pss_nil)
    (pss_cons (ps_if (pt_cmpR op_in_seq (pe_fld (pv 1) rfl) (pe_gr T.g_WITH_SECOND) (by rfl)) (pss_one (ps_ret (pe_methH (pv 0) T.cl_Fit T.m_Fit_put_name G_Fit_put_name (hr.mono (by decide)) pass0 (pa_cons (pe_fld (pv 1) rfl) (pa_cons (pe_fld (pv 2) rfl) pa_nil))))) pss_nil)
    (pss_cons (ps_if (pt_cmpR op_in_seq (pe_fld (pv 1) rfl) (pe_gr T.g_WITH_CONSTANT) (by rfl)) (pss_one (ps_ret (pe_methH (pv 0) T.cl_Fit T.m_Fit_put_constant G_Fit_put_constant (hr.mono (by decide)) pass0 (pa_cons (pe_fld (pv 1) rfl) (pa_cons (pe_fld (pv 2) rfl) pa_nil))))) pss_nil)
    (pss_one (ps_ret pe_bl)))))), ?_⟩)
  · obtain ⟨a, p, b, v, u, t, i, rfl, _⟩ := h
    rfl
  · obtain ⟨a, p, b, v, u, t, i, rfl, hf, bok, ⟨va, vd, s, rfl, hva, hs⟩, pl, ⟨ua, ud, rfl, hua⟩, iok, hop, qY, qN⟩ := h
    rw [bindIns_eq] at qY qN
    have pok := pl.1
    have hf0 := hf
    obtain ⟨⟨dx, ha⟩, hp⟩ := hf0
    have fitw : ∀ {c d e : Addr} {w f s : V}, H c = some (.ins (cIns K) d (fIns w f s)) → c ≠ a ∧ c ≠ p := fun {c d e w f s} h => by
      refine ⟨fun z => ?_, ne_of h hp (by intro z; cases z)⟩
      rw [z, ha] at h
      have h1 := Option.some.inj h
      injection h1 with h2 h3 h4
      have h6 := congrArg (fun l : List (Str × V) => l.lookup ("places" : Str)) (show fFit (.ref p) (optI b.x) (optI b.y) = fIns w f s from h4)
      exact absurd h6 (by intro z; cases z)
    have nv := fitw (e := 0) hva
    have nu := fitw (e := 0) hua
    rw [if_neg (fun z => z hop)] at qY qN
    refine ⟨_, rfl, a, dx, _, rfl, ha, lkPutN .., ?_⟩
    refine ⟨_, rfl, va, _, vd, _, _, rfl, hva, T.cl_Instruction, T.nF_Instruction_first, lkF .., ?_⟩
    refine ⟨_, rfl, ua, _, ud, _, _, rfl, hua, T.cl_Instruction, T.nF_Instruction_first, lkF .., ?_⟩
    refine ⟨a, p, b, t.a, i.a, rfl, hf, bok, pok.1, iok.1, fun b1 hb1 H1 e1 hf1 => ?_, fun hb1 => ?_⟩
    · rw [hb1] at qY qN
      have bok1 := bindReg_ok bok hb1
      have hva1 := e1 va _ nv.2 hva
      have hua1 := e1 ua _ nu.2 hua
      have hf1' := hf1
      obtain ⟨⟨dx1, ha1⟩, hp1⟩ := hf1'
      refine ⟨_, rfl, ?_⟩
      refine ⟨_, rfl, va, _, vd, _, _, rfl, hva1, T.cl_Instruction, T.nF_Instruction_word, lkW .., ?_⟩
      refine ⟨_, _, rfl, .inr (T.tp_WITH_SECOND _), rfl, rfl, t.op.two, congrArg V.bl (two_in t.op), iB (fun d => ?_) (fun d => ?_)⟩
      · refine ⟨_, rfl, a, dx1, _, rfl, ha1, lkPutN .., ?_⟩
        refine ⟨_, rfl, va, _, vd, _, _, rfl, hva1, T.cl_Instruction, T.nF_Instruction_second, lkS .., ?_⟩
        refine ⟨_, rfl, ua, _, ud, _, _, rfl, hua1, T.cl_Instruction, T.nF_Instruction_second, lkS .., ?_⟩
        rw [secP_two hs d, show secI i = .int i.b from if_pos (by rw [← hop]; exact d)]
        refine ⟨a, p, b1, t.b, i.b, rfl, hf1, bok1, pok.2.1, iok.2.1, fun b2 hb2 H2 e2 hf2 => ?_, fun hb2 => ?_⟩
        · exact qY b2 (by show (if t.op.two = true then _ else _) = _; rw [if_pos d]; exact hb2) H2 ((ExF.ofP e1).trans (ExF.ofP e2)) hf2
        · exact qN (by show (if t.op.two = true then _ else _) = _; rw [if_pos d]; exact hb2) H1 (ExF.ofP e1)
      have dn : ¬ t.op.two = true := by rw [d]; exact Bool.false_ne_true
      refine ⟨_, rfl, va, _, vd, _, _, rfl, hva1, T.cl_Instruction, T.nF_Instruction_word, lkW .., ?_⟩
      refine ⟨_, _, rfl, .inr (T.tp_WITH_CONSTANT _), rfl, rfl, t.op.con, congrArg V.bl (con_in t.op), iB (fun g => ?_) (fun g => ?_)⟩
      · refine ⟨_, rfl, a, dx1, _, rfl, ha1, lkPutC .., ?_⟩
        refine ⟨_, rfl, va, _, vd, _, _, rfl, hva1, T.cl_Instruction, T.nF_Instruction_second, lkS .., ?_⟩
        refine ⟨_, rfl, ua, _, ud, _, _, rfl, hua1, T.cl_Instruction, T.nF_Instruction_second, lkS .., ?_⟩
        rw [show secI i = .int i.k from by unfold secI; rw [if_neg (by rw [← hop]; exact dn), if_pos (by rw [← hop]; exact g)]]
        have hcon := secP_con hs g
        obtain ⟨ca, cd, rfl, hca⟩ := hcon
        have hca1 : H1 ca = _ := e1 ca _ (ne_of hca hp (by intro z; cases z)) hca
        refine ⟨a, p, b1, .ref ca, t.con, i.k, rfl, hf1, bok1, ⟨ca, cd, rfl, hca1⟩, pl.2 g, iok.2.2, fun b2 hb2 H2 e2 hf2 => ?_, fun hb2 => ?_⟩
        · exact qY b2 (by show (if t.op.two = true then _ else if t.op.con = true then _ else _) = _; rw [if_neg dn, if_pos g]; exact hb2) H2 ((ExF.ofP e1).trans (ExF.ofA e2)) hf2
        · exact qN (by show (if t.op.two = true then _ else if t.op.con = true then _ else _) = _; rw [if_neg dn, if_pos g]; exact hb2) H1 (ExF.ofP e1)
      · exact qY b1 (by show (if t.op.two = true then _ else if t.op.con = true then _ else _) = _; rw [if_neg dn, if_neg (by rw [g]; exact Bool.false_ne_true)]) H1 (ExF.ofP e1) hf1
    · rw [hb1] at qN
      exact ⟨_, rfl, qN rfl H (ExF.refl _ _ _)⟩
end Pb

set_option Elab.async false
set_option linter.all false
set_option maxRecDepth 100000
set_option maxHeartbeats 4000000
namespace Pb
open PySem PySem.Spec PyProof.Rows L2 Evl PbX
/-- sides of other words don't fit -/
theorem bindAll_words : ∀ {l : List PeRule.Pat} {c : PeCode.Code} {b : PeRule.Bound}, (c.take l.length).map (·.op) ≠ l.map (·.op) → PeRule.bindAll b l c = none
  | [], c, b, h => absurd rfl h
  | p :: l, [], b, h => rfl
  | p :: l, i :: c, b, h => by
    show (PeRule.bindIns b p i).bind (fun d => PeRule.bindAll d l c) = none
    by_cases e : p.op = i.op
    · have h2 : (c.take l.length).map (·.op) ≠ l.map (·.op) := fun z => h (by
        show i.op :: (c.take l.length).map (·.op) = p.op :: l.map (·.op)
        rw [z, e])
      cases PeRule.bindIns b p i with
      | none => rfl
      | some d => exact bindAll_words h2
    · have : PeRule.bindIns b p i = none := if_pos e
      rw [this]
      rfl
def spFitAt (K : PySem.W.Frag) : Sp := fun vs H Q _ => ∃ (v : V) (r : PeRule.Rule) (l : Addr) (us : List V) (c : PeCode.Code) (i : Nat), vs = [v, .ref l, .int i] ∧ RuleAt K H v r ∧ RuleOk r ∧ r.left.length ≤ 5000 ∧ SqL K H l us ∧ CodeV K H us c ∧ CodeOk c ∧
  (PeRule.fits r (c.drop i) = none → ∀ H', Ex H H' → Q .non H') ∧ (∀ b, PeRule.fits r (c.drop i) = some b → ∀ H' a p, H a = none → H p = none → Ex H H' → FitAt K H' a p b → BoundOk b → Q (.ref a) H')
theorem G_fit_at {P : Program} {w : World} {K : PySem.W.Frag} {mg : Str → Option Value} {base : Heap} (T : Txt w K mg) : Has P w K mg base CX0 4 (He.ga K "fit_at") p_fit_at (spFitAt K) := by
  have G_takes := G_takes (P := P) (base := base) T
  have G_Fit_init := G_Fit_init (P := P) (base := base) T
  refine T.d_fit_at.has sc_fit_at (fun vs H Q E h => ?_) (fun cdv A outer s H vs Q E hr h => ⟨_, PSs.nox ((pss_cons (ps_set (i := 3) sc_fit_at.nd rfl (Or.inl rfl) (pe_slice sl_list (pv 1) (po_some (pv 2)) (po_some (pe_op op_add (pv 2) (pe_callB call_len_seq (by rfl) T.u_len PySem.boot_len (pa_cons (pe_fld (pv 0) rfl) pa_nil))))))
    (pss_cons (ps_if (pt_cmpR (op_neD hr.units) (pe_lc (own := [("found", 6)]) (g := gName 6) (tt := tYes) rfl sc_fit_at.nd (pi_list (pv 3)) (blkOk_by (N := n_fit_at) (sc := defScope s_fit_at) (by decide +kernel)) (fun _ _ _ _ _ => pg_name (i := 6) sc_fit_at.nd rfl (Or.inl rfl)) (fun _ _ _ _ _ => pts_nil) (fun _ _ _ _ _ => (pe_fldK (K := K) rfl (pv 6) rfl))) (pe_lc (own := [("wanted", 5)]) (g := gName 5) (tt := tYes) rfl sc_fit_at.nd (pi_list (pe_fld (pv 0) rfl)) (blkOk_by (N := n_fit_at) (sc := defScope s_fit_at) (by decide +kernel)) (fun _ _ _ _ _ => pg_name (i := 5) sc_fit_at.nd rfl (Or.inl rfl)) (fun _ _ _ _ _ => pts_nil) (fun _ _ _ _ _ => (pe_fldK (K := K) rfl (pv 5) rfl))) (nomark _)) (pss_one (ps_ret pe_non)) pss_nil)
    (pss_cons (ps_set (i := 4) sc_fit_at.nd rfl (Or.inl rfl) (pe_make0H T.k_Fit G_Fit_init (hr.mono (by decide)) T.g_Fit pass0))
    (pss_cons (ps_for PassesOwn.never rfl (pi_zip (by rfl) T.u_zip (pa_cons (pe_fld (pv 0) rfl) (pa_cons (pv 3) pa_nil))) (pg_tup rfl (pgs_cons (pg_name (i := 5) sc_fit_at.nd rfl (Or.inl rfl)) (pgs_cons (pg_name (i := 6) sc_fit_at.nd rfl (Or.inl rfl)) pgs_nil))) (pss_one (ps_if (pt_not (pt_val (pe_callH G_takes (hr.mono (by decide)) T.g_takes pass0 (pa_cons (pv 4) (pa_cons (pv 5) (pa_cons (pv 6) pa_nil)))))) (pss_one (ps_ret pe_non)) pss_nil)))
    (pss_one (ps_ret (pv 4)))))))), ?_⟩)
  · obtain ⟨v, r, l, us, c, i, rfl, _⟩ := h
    rfl
  · obtain ⟨v, r, l, us, c, i, rfl, hr, rok, hz, hl, hc, cok, qN, qY⟩ := h
    obtain ⟨a, dx, m, m2, ls, rs, rfl, ha, hm, hm2, sl, sr⟩ := hr
    have nl := sl.length
    have nc := hc.length
    unfold PeRule.fits at qN qY
    refine ⟨_, rfl, _, rfl, _, rfl, _, rfl, _, rfl, a, _, dx, _, _, rfl, ha, T.cl_Rule, T.nF_Rule_left, lkLeft .., m, ls, rfl, .inl (SqL.of hm), _, _, rfl, rfl, _, rfl, l, us, rfl, hl, fun p hp => ?_⟩
    have x1 := Ex.new (o := .lst (cutV us (some (i : Int)) (some ((i : Int) + (ls.length : Int))))) hp
    have hcut : cutV us (some (i : Int)) (some ((i : Int) + (ls.length : Int))) = (us.drop i).take r.left.length := by rw [cutV_mid, nl]
    have h1 : upd H p (.lst (cutV us (some (i : Int)) (some ((i : Int) + (ls.length : Int))))) p = some (.lst ((us.drop i).take r.left.length)) := by rw [upd_same, hcut]
    generalize upd H p (.lst (cutV us (some (i : Int)) (some ((i : Int) + (ls.length : Int))))) = H1 at x1 h1 ⊢
    have hcov : CodeV K H1 ((us.drop i).take r.left.length) ((c.drop i).take r.left.length) := ((hc.mono (ExI.of x1)).drop i).take _
    have ncov := hcov.length
    refine ⟨_, rfl, p, rfl, ⟨_, SqL.of h1⟩, fun w1 hw1 => ?_⟩
    refine lc_it (walk_list (a := p) (xs := (us.drop i).take r.left.length)) (fun j H2 => Ex H1 H2 ∧ H2 w1 = some (.lst ((((c.drop i).take r.left.length).take j).map fun x => opV x.op))) ⟨Ex.new hw1, upd_same⟩ (fun j H2 _ q => SqL.of (q.1 _ _ h1)) ?_ ?_
    · rintro j x H2 H3 hj ⟨e3, hlst⟩ ⟨rfl, hx⟩
      obtain ⟨k, hk, b, bd, rfl, hb⟩ := hcov.at_ hx
      refine ⟨rfl, _, rfl, b, _, bd, _, _, rfl, e3 b _ hb, T.cl_Instruction, T.nF_Instruction_word, lkW .., _, hlst, ?_, e3.mut hw1, ?_⟩
      · rw [List.length_map, List.length_take, List.length_take]
        exact szlt (by omega)
      · rw [upd_same, take_next hk, List.map_append]
        rfl
    rintro H2 ⟨e2, hlst⟩
    rw [ncov, List.take_length] at hlst
    refine ⟨_, rfl, a, _, dx, _, _, rfl, (x1.trans e2) a _ ha, T.cl_Rule, T.nF_Rule_left, lkLeft .., m, rfl, ⟨_, SqL.of ((x1.trans e2) m _ hm)⟩, fun w2 hw2 => ?_⟩
    have x12 := x1.trans e2
    refine lc_it (walk_list (a := m) (xs := ls)) (fun j H3 => Ex H2 H3 ∧ H3 w2 = some (.lst ((r.left.take j).map fun x => opV x.op))) ⟨Ex.new hw2, upd_same⟩ (fun j H3 _ q => SqL.of ((x12.trans q.1) m _ hm)) ?_ ?_
    · rintro j x H3 H4 hj ⟨e3, hlst2⟩ ⟨rfl, hx⟩
      obtain ⟨k, hk, hin⟩ := sl.at_ hx
      obtain ⟨b, bd, f, s, rfl, hb⟩ := hin.word
      refine ⟨rfl, _, rfl, b, _, bd, _, _, rfl, (x12.trans e3) b _ hb, T.cl_Instruction, T.nF_Instruction_word, lkW .., _, hlst2, ?_, e3.mut hw2, ?_⟩
      · rw [List.length_map, List.length_take]
        exact szlt (by omega)
      · rw [upd_same, take_next hk, List.map_append]
        rfl
    rintro H3 ⟨e3, hlst2⟩
    rw [nl, List.take_length] at hlst2
    have x13 := e2.trans e3
    have hc1 : H3 w1 = some (.lst ((((c.drop i).take r.left.length).map (·.op)).map opV)) := by
      rw [List.map_map]
      exact e3 _ _ hlst
    have hc2 : H3 w2 = some (.lst ((r.left.map (·.op)).map opV)) := by
      rw [List.map_map]
      exact hlst2
    refine ⟨_, _, dp_ops hc1, dp_ops hc2, shaped_ops _, shaped_ops _, _, congrArg V.bl (ne_ops _ _), iB (fun d => ?_) (fun d => ?_)⟩
    · have d2 : ((c.drop i).take r.left.length).map (·.op) ≠ r.left.map (·.op) := by simpa using d
      refine qN ?_ H3 (x1.trans x13)
      rw [← bindAll_take]
      exact bindAll_words (by rw [List.take_take, Nat.min_self]; exact d2)
    have hops : ((c.drop i).take r.left.length).map (·.op) = r.left.map (·.op) := by simpa using d
    have hlen : ((c.drop i).take r.left.length).length = r.left.length := by
      have := congrArg List.length hops
      rw [List.length_map, List.length_map] at this
      exact this
    have h1 := x13 _ _ h1
    have hcov := hcov.mono (ExI.of x13)
    replace x1 := x1.trans x13
    clear hc1 hc2 hlst hlst2 x12 x13 e2 e3
    generalize H3 = H1 at x1 h1 hcov ⊢
    rw [← bindAll_take] at qN qY
    generalize hcode : (c.drop i).take r.left.length = cc at hcov hlen qN qY ncov hops
    have cok2 : CodeOk cc := fun j hj => by
      rw [← hcode] at hj
      exact cok j (List.mem_of_mem_drop (List.mem_of_mem_take hj))
    -- a new fit
    intro f fd nf nfd fne
    refine ⟨f, fd, rfl, upd_same, fun H2 q hq e2 hf2 hq2 => ⟨rfl, ?_⟩⟩
    have x2 : Ex H1 H2 := fun b o hb => e2 b o (ne_of_none hb nf) (by rw [upd_ne (ne_of_none hb nf), upd_ne (ne_of_none hb nfd)]; exact hb)
    have nq : H1 q = none := by
      by_cases z : q = f
      · rw [z]
        exact nf
      · rw [upd_ne z] at hq
        by_cases z2 : q = fd
        · rw [z2]
          exact nfd
        · rw [upd_ne z2] at hq
          exact hq
    have x12 := x1.trans x2
    have hfit0 : FitAt K H2 f q B0 := ⟨⟨fd, hf2⟩, hq2⟩
    refine ⟨_, rfl, a, _, dx, _, _, rfl, x12 a _ ha, T.cl_Rule, T.nF_Rule_left, lkLeft .., _, rfl, m, p, ls, _, rfl, SqL.of (x12 m _ hm), SqL.of (x2 p _ h1), ?_⟩
    refine for_it (walk_zip (a := m) (b := p) (xs := ls) (ys := (us.drop i).take r.left.length) (n := r.left.length) (by rw [nl, ncov, hlen]; exact (Nat.min_self _).symm)) (fun j σ H3 => (∃ x y, σ = [some (.ref a), some (.ref l), some (.int (i : Nat)), some (.ref p), some (.ref f), x, y]) ∧ Ex H1 H3 ∧ ∃ b, FitAt K H3 f q b ∧ BoundOk b ∧ PeRule.bindAll B0 r.left cc = PeRule.bindAll b (r.left.drop j) (cc.drop j)) ?_ ?_ ?_ ?_
    · exact ⟨⟨_, _, rfl⟩, x2, B0, hfit0, B0_ok, rfl⟩
    · intro j σ H3 _ q3
      exact ⟨SqL.of ((x1.trans q3.2.1) m _ hm), SqL.of (q3.2.1 p _ h1)⟩
    · rintro j v σ H3 H4 hj ⟨⟨y1, y2, rfl⟩, e3, b, hf, bok, hre⟩ ⟨U, u1, u2, rfl, hU, rfl, hu1, hu2⟩
      obtain ⟨t, ht, hpt⟩ := sl.at_ hu1
      obtain ⟨k, hk, hik⟩ := hcov.at_ hu2
      have x4 := Ex.new (o := .tup [u1, u2]) hU
      have e4 := e3.trans x4
      have e04 := x1.trans e4
      have hdl : r.left.drop j = t :: r.left.drop (j + 1) := by
        rw [List.drop_eq_getElem_cons hj]
        rw [List.getElem?_eq_getElem hj] at ht
        rw [Option.some.inj ht]
      have hjc : j < cc.length := by rw [hlen]; exact hj
      have hdc : cc.drop j = k :: cc.drop (j + 1) := by
        rw [List.drop_eq_getElem_cons hjc]
        rw [List.getElem?_eq_getElem hjc] at hk
        rw [Option.some.inj hk]
      rw [hdl, hdc] at hre
      have hre2 : PeRule.bindAll B0 r.left cc = (PeRule.bindIns b t k).bind fun d => PeRule.bindAll d (r.left.drop (j + 1)) (cc.drop (j + 1)) := hre
      have hf4 : FitAt K (upd H3 U (.tup [u1, u2])) f q b := ⟨hf.1.imp fun _ h => x4 _ _ h, x4 _ _ hf.2⟩
      have tl := rok.1 t (List.mem_of_getElem? ht)
      have kok := cok2 k (List.mem_of_getElem? hk)
      have hopj : t.op = k.op := by
        have h1 : (cc.map (·.op))[j]? = some k.op := by rw [List.getElem?_map, hk]; rfl
        have h2 : (r.left.map (·.op))[j]? = some t.op := by rw [List.getElem?_map, ht]; rfl
        rw [hops, h2] at h1
        exact Option.some.inj h1
      refine ⟨U, _, rfl, SqT.of upd_same, rfl, _, _, rfl, _, _, rfl, rfl, ?_⟩
      refine ⟨_, rfl, _, rfl, _, rfl, f, q, b, u1, u2, t, k, rfl, hf4, bok, hpt.mono (ExI.of e04), tl, hik.mono (ExI.of e4), kok, hopj, fun b' hb' H5 e5 hf5 => ?_, fun hb' H5 e5 => ?_⟩
      · rw [hb'] at hre2
        refine ⟨_, rfl, ?_⟩
        exact ⟨⟨_, _, rfl⟩, e5.ex e4 nf nq, b', hf5, bindIns_ok bok kok hb', hre2⟩
      · rw [hb'] at hre2
        refine ⟨_, rfl, ?_⟩
        exact qN hre2 H5 (x1.trans (e5.ex e4 nf nq))
    · rintro σ H3 ⟨⟨y1, y2, rfl⟩, e3, b, hf, bok, hre⟩
      rw [List.drop_length] at hre
      have hre2 : PeRule.bindAll B0 r.left cc = some b := by rw [hre]; rfl
      exact ⟨_, rfl, qY b hre2 H3 f q (fresh_back x1 nf) (fresh_back x1 nq) (x1.trans e3) hf bok⟩
def spPutWork (K : PySem.W.Frag) : Sp := fun vs H Q _ => ∃ (v : V) (r : PeRule.Rule) (a p l : Addr) (b : PeRule.Bound) (us : List V) (c : PeCode.Code) (i : Nat), vs = [v, .ref a, .ref l, .int i] ∧ RuleAt K H v r ∧ RuleOk r ∧ r.left.length ≤ 5000 ∧ r.right.length ≤ 5000 ∧ FitAt K H a p b ∧ BoundOk b ∧ H l = some (.lst us) ∧ CodeV K H us c ∧ c.length ≤ 5000 ∧
  ∀ H' q ws, H q = none → Ex H H' → H' q = some (.lst ws) → CodeV K H' ws (c.take i ++ (PeRule.put r b ++ c.drop (i + r.left.length))) → Q (.ref q) H'
theorem G_put_to_work {P : Program} {w : World} {K : PySem.W.Frag} {mg : Str → Option Value} {base : Heap} (T : Txt w K mg) : Has P w K mg base CX0 4 (He.ga K "put_to_work") p_put_to_work (spPutWork K) := by
  have G_Fit_told_x := G_Fit_told_x (P := P) (base := base) T
  have G_Fit_told_y := G_Fit_told_y (P := P) (base := base) T
  have G_filled_in := G_filled_in (P := P) (base := base) T
  refine T.d_put_to_work.has sc_put_to_work (fun vs H Q E h => ?_) (fun cdv A outer s H vs Q E hr h => ⟨_, PSs.nox ((pss_cons (ps_set (i := 4) sc_put_to_work.nd rfl (Or.inl rfl) (pe_callH G_filled_in (hr.mono (by decide)) T.g_filled_in pass0 (pa_cons (pe_fld (pv 0) rfl) (pa_cons (pe_fld (pv 1) rfl) (pa_cons (pe_meth0H (pv 1) T.cl_Fit T.m_Fit_told_x G_Fit_told_x (hr.mono (by decide)) pass0) (pa_cons (pe_meth0H (pv 1) T.cl_Fit T.m_Fit_told_y G_Fit_told_y (hr.mono (by decide)) pass0) pa_nil))))))
    (pss_one (ps_ret (pe_op op_cat (pe_op op_cat (pe_slice sl_list (pv 2) po_none (po_some (pv 3))) (pv 4)) (pe_slice sl_list (pv 2) (po_some (pe_op op_add (pv 3) (pe_callB call_len_seq (by rfl) T.u_len PySem.boot_len (pa_cons (pe_fld (pv 0) rfl) pa_nil)))) po_none)))))), ?_⟩)
  · obtain ⟨v, r, a, p, l, b, us, c, i, rfl, _⟩ := h
    rfl
  · obtain ⟨v, r, a, p, l, b, us, c, i, rfl, hr, rok, z1, z2, hf, bok, hl, hc, hz, q⟩ := h
    obtain ⟨va, dx, m, m2, ls, rs, rfl, hva, hm, hm2, sl, sr⟩ := hr
    have hf' := hf
    obtain ⟨⟨fd, ha⟩, hp⟩ := hf'
    have nl := sl.length
    have nc := hc.length
    refine ⟨_, rfl, va, _, dx, _, _, rfl, hva, T.cl_Rule, T.nF_Rule_right, lkRight .., ?_⟩
    refine ⟨_, rfl, a, _, fd, _, _, rfl, ha, T.cl_Fit, T.nF_Fit_places, lkP .., ?_⟩
    refine ⟨_, rfl, a, fd, _, rfl, ha, lkToldX .., a, p, b, rfl, hf, ?_⟩
    refine ⟨_, rfl, a, fd, _, rfl, ha, lkToldY .., a, p, b, rfl, hf, ?_⟩
    refine ⟨m2, p, rs, r.right, b.regs, _, _, rfl, SqL.of hm2, sr, rok.2, z2, SqL.of hp, by rw [bok.1]; exact Nat.le_refl _, getD_lt bok.2.1, getD_lt bok.2.2, fun H1 q1 ws nq1 e1 h1 hcv => ?_⟩
    have hput : ws.length = (PeRule.put r b).length := hcv.length
    have nput : (PeRule.put r b).length ≤ 5000 := by
      unfold PeRule.put PeRule.putIn
      rw [List.length_map]
      exact z2
    have hl1 := e1 _ _ hl
    refine ⟨_, rfl, _, rfl, _, rfl, l, us, rfl, SqL.of hl1, fun q2 nq2 => ?_⟩
    have x2 := Ex.new (o := .lst (cutV us none (some (i : Int)))) nq2
    refine ⟨_, rfl, q2, q1, _, ws, rfl, rfl, upd_same, x2 _ _ h1, ?_, fun q3 nq3 => ?_⟩
    · have := cutV_length us none (some (i : Int))
      exact szl (by omega)
    have x3 := Ex.new (o := .lst (cutV us none (some (i : Int)) ++ ws)) nq3
    have x23 := x2.trans x3
    refine ⟨_, rfl, _, rfl, _, rfl, va, _, dx, _, _, rfl, (e1.trans x23) va _ hva, T.cl_Rule, T.nF_Rule_left, lkLeft .., m, ls, rfl, .inl (SqL.of ((e1.trans x23) m _ hm)), _, _, rfl, rfl, _, rfl, l, us, rfl, SqL.of (x23 _ _ hl1), fun q4 nq4 => ?_⟩
    have x4 := Ex.new (o := .lst (cutV us (some ((i : Int) + (ls.length : Int))) none)) nq4
    refine ⟨q3, q4, _, _, rfl, rfl, x4 _ _ upd_same, upd_same, ?_, fun q5 nq5 => ?_⟩
    · have h5 := cutV_length us none (some (i : Int))
      have h6 := cutV_length us (some ((i : Int) + (ls.length : Int))) none
      rw [List.length_append]
      exact szl (by omega)
    have x5 := Ex.new (o := .lst ((cutV us none (some (i : Int)) ++ ws) ++ cutV us (some ((i : Int) + (ls.length : Int))) none)) nq5
    have x25 := (x23.trans x4).trans x5
    have e5 := e1.trans x25
    have hfin : ∀ H5 : Hp, Ex H1 H5 → CodeV K H5 ((cutV us none (some (i : Int)) ++ ws) ++ cutV us (some ((i : Int) + (ls.length : Int))) none) (c.take i ++ (PeRule.put r b ++ c.drop (i + r.left.length))) := fun H5 x => by
      rw [cutV_to, show ((i : Int) + (ls.length : Int)) = ((i + r.left.length : Nat) : Int) by rw [nl]; omega, cutV_from, List.append_assoc]
      have hc5 : CodeV K H5 us c := hc.mono (ExI.of (e1.trans x))
      exact All2.append (hc5.take i) (All2.append (hcv.mono (ExI.of x)) (hc5.drop _))
    exact q _ q5 _ (fresh_back (e1.trans (x23.trans x4)) nq5) e5 upd_same (hfin _ x25)
end Pb

set_option Elab.async false
set_option linter.all false
set_option maxRecDepth 100000
set_option maxHeartbeats 4000000
namespace Pb
open PySem PySem.Spec PyProof.Rows L2 Evl PbX
/-! ### the reader -/
abbrev cReader (K : PySem.W.Frag) : Addr := He.ga K "Reader"
def fReader (l k : V) : List (Str × V) := [("numbers", l), ("place", k)]
theorem lkNumbers (l k : V) : (fReader l k).lookup ("numbers" : Str) = some l := rfl
theorem lkPlace (l k : V) : (fReader l k).lookup ("place" : Str) = some k := rfl
theorem lkTakeN (l k : V) : (fReader l k).lookup ("take_number" : Str) = none := rfl
theorem lkTakeR (l k : V) : (fReader l k).lookup ("take_row" : Str) = none := rfl
theorem lkHasMore (l k : V) : (fReader l k).lookup ("has_more" : Str) = none := rfl
theorem putPlace (l k z : V) : putF "place" z (fReader l k) = fReader l z := rfl
/-- a list that nobody writes -/
def SqF (K : PySem.W.Frag) (H : Hp) (a : Addr) (xs : List V) : Prop := (∃ o, H a = some (.frz o (.lst xs))) ∨
    ∃ (o : Obj) (its : Array Value) (n : Nat), K.lookup a = some o ∧ o.cls = .type "list" ∧ o.dict = none ∧ o.data = .seq its n ∧ its.size ≤ sizeLine ∧ Vals xs its.toList
theorem SqF.sq {K : PySem.W.Frag} {H : Hp} {a : Addr} {xs : List V} (h : SqF K H a xs) : SqL K H a xs := by
  rcases h with h | h
  · exact .inl (.inr h)
  · exact .inr h
theorem SqF.keep {K : PySem.W.Frag} {H H' : Hp} {a : Addr} {xs : List V} (h : SqF K H a xs) (k : ∀ o, H a = some (.frz o (.lst xs)) → H' a = some (.frz o (.lst xs))) : SqF K H' a xs := by
  rcases h with ⟨o, h⟩ | h
  · exact .inl ⟨o, k o h⟩
  · exact .inr h
/-- a reader of these numbers that nobody writes, so many of them taken -/
def ReadAt (K : PySem.W.Frag) (H : Hp) (a : Addr) (ns : List Int) (k : Nat) : Prop := ∃ dx l, H a = some (.ins (cReader K) dx (fReader (.ref l) (.int k))) ∧ SqF K H l (ns.map V.int)
def spReaderInit (K : PySem.W.Frag) : Sp := fun vs H Q _ => ∃ (p dx : Addr) (v : V), vs = [.ref p, v] ∧ H p = some (.ins (cReader K) dx []) ∧ ∀ H', ExB p H H' → H' p = some (.ins (cReader K) dx (fReader v (.int 0))) → Q .non H'
theorem G_Reader_init {P : Program} {w : World} {K : PySem.W.Frag} {mg : Str → Option Value} {base : Heap} (T : Txt w K mg) : Has P w K mg base CX0 1 (He.ma K (He.ga K "Reader") "__init__") p_Reader_init (spReaderInit K) := by
  refine T.d_Reader_init.has sc_Reader_init (fun vs H Q E h => ?_) (fun cdv A outer s H vs Q E hr h => ⟨_, PSs.nox ((pss_cons (ps_fld (pv 0) (pv 1) rfl)
    (pss_one (ps_fld (pv 0) pe_int rfl)))), ?_⟩)
  · obtain ⟨p, dx, v, rfl, _⟩ := h
    rfl
  · obtain ⟨p, dx, v, rfl, hp, q⟩ := h
    refine ⟨_, rfl, _, rfl, p, _, dx, _, rfl, hp, T.cl_Reader, T.nF_Reader_numbers, by show 0 < 1000; decide, ?_⟩
    refine ⟨_, rfl, p, _, dx, _, rfl, upd_same, T.cl_Reader, T.nF_Reader_place, by show 1 < 1000; decide, ?_⟩
    exact q _ ((ExB.refl _ _).upd).upd upd_same
def spHasMore (K : PySem.W.Frag) : Sp := fun vs H Q _ => ∃ (a : Addr) (ns : List Int) (k : Nat), vs = [.ref a] ∧ ReadAt K H a ns k ∧ Q (.bl (decide (k < ns.length))) H
theorem G_Reader_has_more {P : Program} {w : World} {K : PySem.W.Frag} {mg : Str → Option Value} {base : Heap} (T : Txt w K mg) : Has P w K mg base CX0 1 (He.ma K (He.ga K "Reader") "has_more") p_Reader_has_more (spHasMore K) := by
  refine T.d_Reader_has_more.has sc_Reader_has_more (fun vs H Q E h => ?_) (fun cdv A outer s H vs Q E hr h => ⟨_, PSs.nox ((pss_one (ps_ret (pe_cmpR op_lt (pe_fld (pv 0) rfl) (pe_callB call_len_seq (by rfl) T.u_len PySem.boot_len (pa_cons (pe_fld (pv 0) rfl) pa_nil)) (nomark _))))), ?_⟩)
  · obtain ⟨a, ns, k, rfl, _⟩ := h
    rfl
  · obtain ⟨a, ns, k, rfl, ⟨dx, l, ha, hl⟩, q⟩ := h
    refine ⟨_, rfl, a, _, dx, _, _, rfl, ha, T.cl_Reader, T.nF_Reader_place, lkPlace .., ?_⟩
    refine ⟨_, rfl, a, _, dx, _, _, rfl, ha, T.cl_Reader, T.nF_Reader_numbers, lkNumbers .., l, _, rfl, .inl hl.sq, _, _, rfl, rfl, ?_⟩
    have e : decide ((k : Int) < ((ns.map V.int).length : Int)) = decide (k < ns.length) := by
      rw [List.length_map]
      exact decide_eq_decide.mpr ⟨fun h => by omega, fun h => by omega⟩
    rw [← e] at q
    exact q
/-- a number taken: the reader alone changes -/
def spTakeNumber (K : PySem.W.Frag) : Sp := fun vs H Q _ => ∃ (a : Addr) (ns : List Int) (k : Nat) (n : Int), vs = [.ref a] ∧ ReadAt K H a ns k ∧ ns[k]? = some n ∧ ∀ H', ExB a H H' → ReadAt K H' a ns (k + 1) → Q (.int n) H'
theorem sqF_exB {K : PySem.W.Frag} {H H' : Hp} {a l C dx : Addr} {fs : List (Str × V)} {xs : List V} (ha : H a = some (.ins C dx fs)) (e : ExB a H H') (h : SqF K H l xs) : SqF K H' l xs :=
  h.keep fun o z => e _ _ (ne_of z ha (by intro z; cases z)) z
theorem G_Reader_take_number {P : Program} {w : World} {K : PySem.W.Frag} {mg : Str → Option Value} {base : Heap} (T : Txt w K mg) : Has P w K mg base CX0 1 (He.ma K (He.ga K "Reader") "take_number") p_Reader_take_number (spTakeNumber K) := by
  refine T.d_Reader_take_number.has sc_Reader_take_number (fun vs H Q E h => ?_) (fun cdv A outer s H vs Q E hr h => ⟨_, PSs.nox ((pss_cons (ps_set (i := 1) sc_Reader_take_number.nd rfl (Or.inl rfl) (pe_ix ix_list (pe_fld (pv 0) rfl) (pe_fld (pv 0) rfl) (fun _ _ => rfl)))
    (pss_cons (ps_fldaug (pv 0) pe_int in_add)
    (pss_one (ps_ret (pv 1)))))), ?_⟩)
  · obtain ⟨a, ns, k, n, rfl, _⟩ := h
    rfl
  · obtain ⟨a, ns, k, n, rfl, ⟨dx, l, ha, hl⟩, hn, q⟩ := h
    refine ⟨_, rfl, a, _, dx, _, _, rfl, ha, T.cl_Reader, T.nF_Reader_numbers, lkNumbers .., ?_⟩
    refine ⟨_, rfl, a, _, dx, _, _, rfl, ha, T.cl_Reader, T.nF_Reader_place, lkPlace .., l, _, _, _, rfl, rfl, hl.sq, atI_nat (by rw [List.getElem?_map, hn]; rfl), ?_⟩
    refine ⟨_, rfl, a, _, dx, _, _, rfl, ha, T.cl_Reader, T.nF_Reader_place, lkPlace .., _, _, rfl, rfl, _, _, ha, by show 2 < 1000; decide, ?_⟩
    have e := (ExB.refl a H).upd (o := .ins (cReader K) dx (fReader (.ref l) (.int ((k : Int) + 1))))
    exact ⟨_, rfl, q _ e ⟨dx, l, upd_same, sqF_exB ha e hl⟩⟩
/-- a row taken: a new list -/
def spTakeRow (K : PySem.W.Frag) : Sp := fun vs H Q _ => ∃ (a : Addr) (ns : List Int) (k m : Nat), vs = [.ref a] ∧ ReadAt K H a ns k ∧ ns[k]? = some (m : Int) ∧ m ≤ 1000000 ∧ ∀ H' p, H p = none → ExB a H H' → ReadAt K H' a ns (k + 1 + m) → H' p = some (.lst (((ns.drop (k + 1)).take m).map V.int)) → Q (.ref p) H'
theorem G_Reader_take_row {P : Program} {w : World} {K : PySem.W.Frag} {mg : Str → Option Value} {base : Heap} (T : Txt w K mg) : Has P w K mg base CX0 2 (He.ma K (He.ga K "Reader") "take_row") p_Reader_take_row (spTakeRow K) := by
  have G_Reader_take_number := G_Reader_take_number (P := P) (base := base) T
  refine T.d_Reader_take_row.has sc_Reader_take_row (fun vs H Q E h => ?_) (fun cdv A outer s H vs Q E hr h => ⟨_, PSs.nox ((pss_cons (ps_set (i := 1) sc_Reader_take_row.nd rfl (Or.inl rfl) (pe_meth0H (pv 0) T.cl_Reader T.m_Reader_take_number G_Reader_take_number (hr.mono (by decide)) pass0))
    (pss_cons (ps_set (i := 2) sc_Reader_take_row.nd rfl (Or.inl rfl) (pe_slice sl_list (pe_fld (pv 0) rfl) (po_some (pe_fld (pv 0) rfl)) (po_some (pe_op op_add (pe_fld (pv 0) rfl) (pv 1)))))
    (pss_cons (ps_fldaug (pv 0) (pv 1) in_add)
    (pss_one (ps_ret (pv 2))))))), ?_⟩)
  · obtain ⟨a, ns, k, m, rfl, _⟩ := h
    rfl
  · obtain ⟨a, ns, k, m, rfl, hr, hm, hz, q⟩ := h
    have hr' := hr
    obtain ⟨dx0, l0, ha0, hl0⟩ := hr'
    refine ⟨_, rfl, a, dx0, _, rfl, ha0, lkTakeN .., a, ns, k, m, rfl, hr, hm, fun H1 e1 hr1 => ?_⟩
    have hr1' := hr1
    obtain ⟨dx, l, ha, hl⟩ := hr1'
    refine ⟨_, rfl, a, _, dx, _, _, rfl, ha, T.cl_Reader, T.nF_Reader_numbers, lkNumbers .., ?_⟩
    refine ⟨_, rfl, a, _, dx, _, _, rfl, ha, T.cl_Reader, T.nF_Reader_place, lkPlace .., _, rfl, ?_⟩
    refine ⟨_, rfl, a, _, dx, _, _, rfl, ha, T.cl_Reader, T.nF_Reader_place, lkPlace .., _, rfl, _, _, rfl, rfl, _, rfl, l, _, rfl, hl.sq, fun p hp => ?_⟩
    have x1 := Ex.new (o := .lst (cutV (ns.map V.int) (some ((k + 1 : Nat) : Int)) (some (((k + 1 : Nat) : Int) + (m : Int))))) hp
    have hp0 : H p = none := by
      cases z : H p with
      | none => rfl
      | some o =>
        have : p ≠ a := fun y => by rw [y] at hp; rw [ha] at hp; cases hp
        rw [e1 p o this z] at hp
        cases hp
    have hpa : p ≠ a := fun y => by rw [y] at hp; rw [ha] at hp; cases hp
    have ha1 := x1 _ _ ha
    refine ⟨_, rfl, a, _, dx, _, _, rfl, ha1, T.cl_Reader, T.nF_Reader_place, lkPlace .., _, rfl, _, _, rfl, rfl, _, _, ha1, by show 2 < 1000; decide, ?_⟩
    have e2 := (ExB.refl a (upd H1 p (.lst (cutV (ns.map V.int) (some ((k + 1 : Nat) : Int)) (some (((k + 1 : Nat) : Int) + (m : Int))))))).upd (o := .ins (cReader K) dx (fReader (.ref l) (.int (((k + 1 : Nat) : Int) + (m : Int)))))
    refine ⟨_, rfl, q _ p hp0 ((e1.trans (ExB.of x1)).trans e2) ⟨dx, l, ?_, sqF_exB ha1 e2 (hl.keep fun o z => x1 _ _ z)⟩ ?_⟩
    · rw [show (((k + 1 + m : Nat)) : Int) = ((k + 1 : Nat) : Int) + (m : Int) by omega]
      exact upd_same
    · have h1 := e2 p _ hpa upd_same
      rw [cutV_mid, ← List.map_drop, ← List.map_take] at h1
      rw [cutV_mid, ← List.map_drop, ← List.map_take]
      exact h1
end Pb

set_option Elab.async false
set_option linter.all false
set_option maxRecDepth 100000
set_option maxHeartbeats 4000000
namespace Pb
open PySem PySem.Spec PyProof.Rows L2 Evl PbX
/-! ### a call is answered, a refusal too -/
/-- a refusal that is caught tells its answer -/
def Caught (K : PySem.W.Frag) (Q : VK) : XK := fun cls dd H => ∃ C d l, cls = .ref C ∧ dd = some d ∧ Ref K (He.ga K "Refusal") C ∧ H d = some (.xd [("answer", .ref l)]) ∧ Q (.ref l) H
theorem caught_of {K : PySem.W.Frag} {Q : VK} {H : Hp} {ns : List V} (h : ∀ H' l, H l = none → Ex H H' → H' l = some (.lst ns) → Q (.ref l) H') : Refused K (Caught K Q) H ns :=
  fun C d l H' r hl hd e h1 h2 => ⟨C, d, l, rfl, rfl, r, h1, h H' l hl e h2⟩
/-- a call of a local that holds a def: its promise is told where the call is made -/
def tCallAH (P : Program) (w : World) (K : PySem.W.Frag) (mg : Str → Option Value) (base : Heap) (k i : Nat) (E : L2.St → XK) (t : TA) : TE := fun σ H Q => ∃ f sp, σ[i]? = some (some (.ref f)) ∧ HeldX P w K mg base k f sp ∧ t σ H fun vs H1 => sp vs H1 Q (E σ)
theorem pe_callAH {X : Cx} {k i : Nat} {x : Str} {p pos : Pos} {e : Expr} {es : List Expr} {t : TA} {E : L2.St → XK} (hr : Room k X.A)
    (hN : X.N[i]? = some x) (hv : Vis X.env.scope x) (hx : ∀ σ, PassesAt (L2.CX X.prog X.w) X σ (E σ)) (ha : PA X (e :: es) t)
    (hdb : (x == ("__debug__" : Str)) = false := by decide) (hcd : (x == ("__classdict__" : Str)) = false := by decide)
    (he : starEach (e :: es) X.env = (false, eval e X.env) :: starEach es X.env := by rfl) (hpl : (backTo pos (starEach es X.env)).any (·.1) = false := by rfl) :
    PE X (.Call (.Name x p) (e :: es) [] pos) (tCallAH X.prog X.w X.K X.mg X.base k i E t) := by
  constructor
  intro pins s σ H Q I h
  obtain ⟨f, sp, hs, hA, ht⟩ := h
  obtain ⟨fd, ps, F, hk, hb⟩ := hA.ex
  refine wpAny_Call_Name_kw (thn ((pe_var (pos := p) hN hv hdb hcd).run pins s σ H (fun v H1 => v = .ref f ∧ H1 = H) I ⟨.ref f, hs, rfl, rfl⟩) fun u s1 hh => ?_)
  obtain ⟨v, H1, I1, r1, q1, q2⟩ := hh
  subst q1 q2
  cases r1
  refine PySem.W.callWith_K (h₀ := X.base) I.ok.mod.kin hk (thn (ha.run pos pins s1 σ _ _ I1 ht) fun us s2 hh => ?_) he hpl
  obtain ⟨vs, H2, I2, r, q⟩ := hh
  exact ⟨I2.kIn, run_fnS F hr hb (hx σ) I2 r q⟩
theorem HeldX.of {P : Program} {w : World} {K : PySem.W.Frag} {mg : Str → Option Value} {base : Heap} {j k : Nat} {f : Addr} {ps : List Str} {sp : Sp} (G : Has P w K mg base (L2.CX P w) j f ps sp) (h : j ≤ k) : HeldX P w K mg base k f sp := by
  obtain ⟨fd, F, b⟩ := G.ex
  exact ⟨fd, ps, F.mono h, G.kp, b⟩
/-- the level of the calls' defs -/
abbrev lvA : Nat := 12
def spNext (P : Program) (w : World) (K : PySem.W.Frag) (mg : Str → Option Value) (base : Heap) (cv : List V) : Sp := fun vs H Q _ => ∃ (s : V) (r f : Addr) (ns : List Int) (k i : Nat) (sp : Sp), vs = [s, .ref r] ∧ ReadAt K H r ns k ∧ ns[k]? = some (i : Int) ∧ cv[i]? = some (.ref f) ∧ HeldX P w K mg base lvA f sp ∧
  ∀ H1 E', ExB r H H1 → ReadAt K H1 r ns (k + 1) → (∀ cls dd H', Caught K Q cls dd H' → E' cls dd H') → sp [s, .ref r] H1 Q E'
theorem G_next_answer {P : Program} {w : World} {K : PySem.W.Frag} {mg : Str → Option Value} {base : Heap} (T : Txt w K mg) {cv : List V} (hcv : ∀ H, SqT K H (He.ga K "CALLS") cv) : Has P w K mg base CX0 (lvA + 1) (He.ga K "next_answer") p_next_answer (spNext P w K mg base cv) := by
  have G_Reader_take_number := G_Reader_take_number (P := P) (base := base) T
  refine T.d_next_answer.has sc_next_answer (fun vs H Q E h => ?_) (fun cdv A outer s H vs Q E hr h => ⟨_, PSs.nox (pss_cons (ps_set (i := 2) sc_next_answer.nd rfl (Or.inl rfl) (pe_ix ix_tup (pe_gr T.g_CALLS) (pe_meth0H (pv 1) T.cl_Reader T.m_Reader_take_number G_Reader_take_number (hr.mono (by decide)) pass0) (fun _ _ => rfl)))
    (pss_one (ps_try_as (i := 3) (tb := fun W => tRet (tCallAH P w K mg base lvA 2 (WE W) (tCons (tVar 0) (tCons (tVar 1) tNil)))) (ts := fun a cls d => tRet (tCaught K a cls d "answer" (tVar 3))) (Wout := fun _ _ _ _ => False) rfl rfl sc_next_answer.nd rfl rfl ⟨rfl, by decide, Or.inl T.g_Refusal⟩ takes0
      (fun W pn xe tk _ => pss_one (ps_ret (by exact (pe_callAH hr rfl (by first | exact .inl rfl | exact .inr (.inl rfl)) (fun σ => passAt tk σ) (by exact (pa_cons (pv 0) (pa_cons (pv 1) pa_nil)))))))
      (fun a oe cls d pn hz hf => pss_one (ps_ret (by exact (pe_caught hz hf (pv 3)))))))), ?_⟩)
  · obtain ⟨s, r, f, ns, k, i, sp, rfl, _⟩ := h
    rfl
  · obtain ⟨sv, r, f, ns, k, i, sp, rfl, hr1, hi, hf, hS, q⟩ := h
    have hr1' := hr1
    obtain ⟨dx, l, ha, hl⟩ := hr1'
    refine ⟨_, rfl, r, dx, _, rfl, ha, lkTakeN .., r, ns, k, i, rfl, hr1, hi, fun H1 e1 hr2 => ?_⟩
    refine ⟨_, _, _, _, rfl, rfl, hcv _, atI_nat hf, ?_⟩
    refine ⟨f, sp, rfl, hS, _, rfl, _, rfl, q H1 _ e1 hr2 ?_⟩
    rintro cls dd H' ⟨C, d, l2, rfl, rfl, rf, hd, hq⟩
    exact ⟨true, rf.ex, fun _ a na => ⟨_, rfl, rfl, C, d, _, _, rfl, rf.xf, rf.no, rfl, hd, rfl, hq⟩, fun z => nomatch z⟩
end Pb

/-! One flat list of numbers read call by call. -/
namespace Pb
open PyFlat
theorem whole_id (c : List (List Int)) : PyWrpeep.whole c = c := by
  unfold PyWrpeep.whole
  split <;> rfl
theorem map_whole (cs : List (List (List Int))) : cs.map PyWrpeep.whole = cs := by
  rw [show PyWrpeep.whole = id from funext whole_id, List.map_id]
/-- a call without a row -/
theorem call_nums {shape : Int → Option (Nat × Nat)} {p : Int} {r : List Int} {c : List (List Int)} {t : List Int} {n : Nat} (hs : shape p = some (n, 0)) (h : PyFlat.call shape (p :: r) = some (c, t)) : n ≤ r.length ∧ c = [p :: r.take n] ∧ t = r.drop n := by
  unfold PyFlat.call at h
  dsimp only at h
  rw [hs] at h
  dsimp only at h
  split at h
  · cases h
  · rename_i hn
    unfold rows at h
    dsimp only at h
    have e := Option.some.inj h
    injection e with e1 e2
    exact ⟨by omega, e1.symm, e2.symm⟩
/-- a call with one row -/
theorem call_row {shape : Int → Option (Nat × Nat)} {p : Int} {r : List Int} {c : List (List Int)} {t : List Int} {n : Nat} (hs : shape p = some (n, 1)) (h : PyFlat.call shape (p :: r) = some (c, t)) :
    n ≤ r.length ∧ ∃ (m : Nat) (r' : List Int), r.drop n = (m : Int) :: r' ∧ m ≤ r'.length ∧ c = [p :: r.take n, r'.take m] ∧ t = r'.drop m := by
  unfold PyFlat.call at h
  dsimp only at h
  rw [hs] at h
  dsimp only at h
  split at h
  · cases h
  · rename_i hn
    refine ⟨by omega, ?_⟩
    unfold rows at h
    cases hr : r.drop n with
    | nil =>
      rw [hr] at h
      unfold row at h
      cases h
    | cons m r' =>
      rw [hr] at h
      unfold row at h
      dsimp only at h
      by_cases hm : 0 ≤ m ∧ m.toNat ≤ r'.length
      · rw [if_pos hm] at h
        unfold rows at h
        dsimp only at h
        have e := Option.some.inj h
        injection e with e1 e2
        refine ⟨m.toNat, r', ?_, hm.2, e1.symm, e2.symm⟩
        rw [Int.toNat_of_nonneg hm.1]
      · rw [if_neg hm] at h
        cases h
theorem calls_cons {shape : Int → Option (Nat × Nat)} {f : Nat} {p : Int} {r : List Int} {cs : List (List (List Int))} (h : PyFlat.calls shape f (p :: r) = some cs) :
    ∃ f' c t cs', PyFlat.call shape (p :: r) = some (c, t) ∧ PyFlat.calls shape f' t = some cs' ∧ cs = c :: cs' := by
  cases f with
  | zero => cases h
  | succ f =>
    unfold PyFlat.calls at h
    cases hc : PyFlat.call shape (p :: r) with
    | none => rw [hc] at h; cases h
    | some x =>
      obtain ⟨c, t⟩ := x
      rw [hc] at h
      dsimp only at h
      cases ht : PyFlat.calls shape f t with
      | none => rw [ht] at h; cases h
      | some cs' =>
        rw [ht] at h
        exact ⟨f, c, t, cs', rfl, ht, (Option.some.inj h).symm⟩
theorem calls_nil {shape : Int → Option (Nat × Nat)} {f : Nat} {cs : List (List (List Int))} (h : PyFlat.calls shape f [] = some cs) : cs = [] := by
  have e : PyFlat.calls shape f [] = some [] := by cases f <;> rfl
  rw [e] at h
  exact (Option.some.inj h).symm
/-- what stands at a place -/
theorem drop_at {l r : List Int} {k : Nat} {p : Int} (h : l.drop k = p :: r) : l[k]? = some p ∧ r = l.drop (k + 1) := by
  have hk : k < l.length := by
    rcases Nat.lt_or_ge k l.length with q | q
    · exact q
    · rw [List.drop_of_length_le q] at h
      cases h
  rw [List.drop_eq_getElem_cons hk] at h
  injection h with h1 h2
  exact ⟨by rw [List.getElem?_eq_getElem hk, h1], h2.symm⟩
theorem told_cons (a : List Int) (l : List (List Int)) : told (a :: l) = ((a.length : Int) :: a) ++ told l := rfl
theorem played_cons {S : Type} (step : S → List (List Int) → S × List Int) (s : S) (c : List (List Int)) (r : List (List (List Int))) : played step s (c :: r) = (step s c).2 :: played step (step s c).1 r := rfl
/-- bytes out of numbers -/
theorem bytes_of_ints : ∀ l : List Int, (l.all (PyInside.within 0 255)) = true → l = (Lines.ofBytes l).map (fun c => (c.toNat : Int))
  | [], _ => rfl
  | x :: l, h => by
    rw [List.all_cons, Bool.and_eq_true] at h
    have ih := bytes_of_ints l h.2
    have hx : 0 ≤ x ∧ x ≤ 255 := by
      have := h.1
      unfold PyInside.within at this
      rw [Bool.and_eq_true, decide_eq_true_iff, decide_eq_true_iff] at this
      exact this
    show x :: l = ((UInt8.ofNat x.toNat).toNat : Int) :: (Lines.ofBytes l).map (fun c => (c.toNat : Int))
    rw [← ih]
    congr 1
    rw [UInt8.toNat_ofNat']
    omega
end Pb

set_option Elab.async false
set_option linter.all false
set_option maxRecDepth 100000
set_option maxHeartbeats 4000000
namespace Pb
open PySem PySem.Spec PyProof.Rows L2 Evl PbX
/-! ### a call that is not told of a list: it stays as it is -/
theorem hok_del {P : Program} {w : World} {H : Hp} {h : Heap} {d : Addr} {xs : List V} (x : HOk P w H h) (hd : H d = some (.lst xs)) : HOk P w (del H d) h := fun b u e => by
  have hb : b ≠ d := fun z => by rw [z, del_same] at e; cases e
  rw [del_ne hb] at e
  exact (x b u e).stay (fun _ _ _ q => q) (fun c q => by rw [del_ne (ne_of q hd (by intro z; cases z))]; exact q) fun c ys q => by rw [del_ne (ne_of q hd (by intro z; cases z))]; exact q
theorem env0_del {P : Program} {w : World} {K : PySem.W.Frag} {mg : Str → Option Value} {base : Heap} {A : Around} {outer : List Env} {s : Shared} {H : Hp} {d : Addr} {xs : List V} (e : Env0 P w K mg base A outer s H) (hd : H d = some (.lst xs)) : Env0 P w K mg base A outer s (del H d) :=
  ⟨e.frames, e.mod, fun b o q => ⟨(e.bs b o q).1, by
    by_cases hb : b = d
    · rw [hb, del_same]
    · rw [del_ne hb]; exact (e.bs b o q).2⟩, e.bsz, e.funs, fun b q => by
    by_cases hb : b = d
    · rw [hb, del_same]
    · rw [del_ne hb]; exact e.frf b q, hok_del e.hok hd, e.bare⟩
theorem del_none {H : Hp} {b d : Addr} (h : H b = none) : del H d b = none := by
  by_cases hb : b = d
  · rw [hb, del_same]
  · rw [del_ne hb]; exact h
theorem ce_del {outer : List Env} {P : Program} {w : World} {H : Hp} {s s' : Shared} {Q : VK} {u : Value} {d : Addr} {xs : List V} (ok : HOk P w H s.heap) (frf : ∀ b ∈ frs outer, H b = none) (hd : H d = some (.lst xs))
    (h : CE outer P w (del H d) s (fun v H2 => H2 d = none → Q v (upd H2 d (.lst xs))) u s') : CE outer P w H s Q u s' := by
  obtain ⟨v, H', os, bare, un, hok, r, q⟩ := h
  have od : ObjOk P w H s.heap d (.lst xs) := ok d _ hd
  obtain ⟨hz, its, n, hv, hg⟩ := od
  have hfr : d ∉ frs outer := fun z => by
    have := frf d z
    rw [hd] at this
    cases this
  have hn : H' d = none := un.free d _ hg del_same (by simp)
  have hg' := un.keep d _ hg del_same hfr (by simp)
  refine ⟨v, upd H' d (.lst xs), os, bare, ?_, ?_, r, q hn⟩
  · refine ⟨fun b o e n1 n2 n3 => un.keep b o e (del_none n1) n2 n3, fun b o e n1 n2 n3 => un.slot b o e (del_none n1) n2 n3, fun b o e n1 n2 => ?_, un.there, fun b ys e => ?_, fun b o y e => ?_, fun b ps e => ?_⟩
    · rw [upd_ne (ne_of_none hd n1).symm]
      exact un.free b o e (del_none n1) n2
    · have hb := ne_of e hd (by intro z; cases z)
      rw [upd_ne hb]
      exact un.tups b ys (by rw [del_ne hb]; exact e)
    · have hb := ne_of e hd (by intro z; cases z)
      rw [upd_ne hb]
      exact un.frzs b o y (by rw [del_ne hb]; exact e)
    · have hb := ne_of e hd (by intro z; cases z)
      obtain ⟨more, q⟩ := un.tbls b ps (by rw [del_ne hb]; exact e)
      exact ⟨more, by rw [upd_ne hb]; exact q⟩
  · intro b o e
    by_cases hb : b = d
    · subst hb
      rw [upd_same] at e
      cases e
      exact ⟨hz, its, n, hv, hg'⟩
    · rw [upd_ne hb] at e
      have nd : ∀ c o, H' c = some o → c ≠ d := fun c o z => ne_of_none z hn
      exact (hok b o e).stay (fun _ _ _ z => z) (fun c z => by rw [upd_ne (nd c _ z)]; exact z) fun c ys z => by rw [upd_ne (nd c _ z)]; exact z
/-- f(..), where the list at the local i is not told of -/
def tClF (i : Nat) (sp : Sp) (E : XK) (t : TA) : TE := fun σ H Q => ∃ (d : Addr), σ[i]? = some (some (.ref d)) ∧ t σ H fun vs H1 => ∃ xs, H1 d = some (.lst xs) ∧ sp vs (del H1 d) (fun v H2 => H2 d = none → Q v (upd H2 d (.lst xs))) E
section
variable {X : Cx} {k i : Nat} {f : Addr} {fd : FuncData} {ps : List Str} {ds : List Value} {sp : Sp} {dvs : List V} {E : XK} {x : Str} {p pos : Pos} {e : Expr} {es : List Expr} {t : TA}
theorem run_fnF {pins : List (Addr × Obj)} {σ : L2.St} {H : Hp} {s : Shared} {Q : VK} {us : List Value} {vs : List V} {d : Addr} {xs : List V} (F : FnOk X.prog X.w X.K X.mg X.base CX0 k f fd ps sp) (hr : Room k X.A) (hb : Binds X.K fd ps [])
    (I : Inv X pins σ H s) (r : Vals vs us) (hd : H d = some (.lst xs)) (h : sp vs (del H d) (fun v H2 => H2 d = none → Q v (upd H2 d (.lst xs))) E) : wpAny (model X.prog X.w) X.A (call (.ref f) us) (EP X pins σ Q) X.xe s := by
  have hl : us.length = ps.length := by rw [← r.length]; exact F.len _ _ _ _ h
  have hbt := hb s us I.kIn (by rw [List.append_nil]; exact hl)
  rw [List.append_nil] at hbt
  refine wpAny_call (codeAny_mono (F.run X.A X.stack s (del H d) ⟨us, []⟩ us vs _ E hr (env0_del I.env0 hd) hbt r h) fun r s' hq => ?_)
  cases r with
  | error e => exact hq.elim
  | ok fl =>
    cases fl with
    | ret u => exact I.after (ce_del I.hok I.stkFree hd hq)
    | next => exact False.elim hq
    | brk => exact False.elim hq
    | cont => exact False.elim hq
theorem pe_callF (G : Has X.prog X.w X.K X.mg X.base CX0 k f ps sp) (hr : Room k X.A) (hm : X.mg x = some (.ref f)) (ha : PA X (e :: es) t) (hg : Gl X x := by rfl)
    (hdb : (x == ("__debug__" : Str)) = false := by decide) (he : starEach (e :: es) X.env = (false, eval e X.env) :: starEach es X.env := by rfl) (hpl : (backTo pos (starEach es X.env)).any (·.1) = false := by rfl) :
    PE X (.Call (.Name x p) (e :: es) [] pos) (tClF i sp E t) := by
  obtain ⟨fd, F, b⟩ := G.ex
  refine ⟨fun pins s σ H Q I h => ?_⟩
  obtain ⟨d, _, h⟩ := h
  refine wpAny_Call_Name_kw (ld_glob I hg hm ?_ hdb)
  refine PySem.W.callWith_K (h₀ := X.base) I.ok.mod.kin G.kp (thn (ha.run pos pins s σ H _ I h) fun us s1 hh => ?_) he hpl
  obtain ⟨vs, H1, I1, r, xs, hd, q⟩ := hh
  exact ⟨I1.kIn, run_fnF F hr b I1 r hd q⟩
end
end Pb

set_option Elab.async false
set_option linter.all false
set_option maxRecDepth 100000
set_option maxHeartbeats 4000000
namespace Pb
open PySem PySem.Spec PyProof.Rows L2 Evl PbX
/-- what is asked of one call -/
def InC (c : List (List Int)) : Prop := PyInside.call PyWrpeep.bound c = true ∧ Neutral.asked1 c = true
abbrev SARel : Type := Hp → Addr → PeepSpec.State → Prop
/-- the calls' names -/
def callNames : List Str := ["load", "code", "put", "cut", "judge", "rule", "drop", "say", "fits", "at", "step", "run", "trail", "reckon", "form", "same", "state", "undo", "redo"]
/-- what a session's relation must bear -/
structure SAx (K : PySem.W.Frag) (SA : SARel) : Prop where
  ins : ∀ H s d, SA H s d → ∃ dx fs, H s = some (.ins (He.ga K "Session") dx fs) ∧ ∀ m, callNames.contains m = true → fs.lookup m = none
  grow : ∀ H H' s d, SA H s d → Ex H H' → SA H' s d
  read : ∀ H H' s d r dx l k, SA H s d → H r = some (.ins (cReader K) dx (fReader l k)) → ExB r H H' → SA H' s d
theorem SqF.of {K : PySem.W.Frag} {H : Hp} {a : Addr} {xs : List V} (h : SqL K H a xs) (n : OnlyF H) : SqF K H a xs := by
  rcases h with h | h
  · rcases h with h | h
    · rcases n a with z | ⟨o, u, z⟩
      · rw [z] at h; cases h
      · rw [z] at h; cases h
    · exact .inl h
  · exact .inr h
abbrev ReadF := ReadAt
/-- what nobody but the reader writes -/
def FirmR (K : PySem.W.Frag) (o : HO) : Prop := (∃ u x, o = .frz u x) ∨ ∃ dx l k, o = .ins (cReader K) dx (fReader l k)
def StayR (K : PySem.W.Frag) (H H' : Hp) : Prop := ∀ b o, FirmR K o → H b = some o → H' b = some o
theorem StayR.refl (K : PySem.W.Frag) (H : Hp) : StayR K H H := fun _ _ _ h => h
theorem StayR.trans {K : PySem.W.Frag} {H H1 H2 : Hp} (e : StayR K H H1) (f : StayR K H1 H2) : StayR K H H2 := fun b o n h => f b o n (e b o n h)
theorem StayR.of {K : PySem.W.Frag} {H H' : Hp} (e : Ex H H') : StayR K H H' := fun b o _ h => e b o h
theorem StayR.upd {K : PySem.W.Frag} {H : Hp} {a : Addr} {o u : HO} (h : H a = some o) (n : ¬ FirmR K o) : StayR K H (upd H a u) := fun b x f hb => by
  rw [upd_ne (ne_of hb h (by intro z; subst z; exact n f))]
  exact hb
theorem ReadF.stay {K : PySem.W.Frag} {H H' : Hp} {a : Addr} {ns : List Int} {k : Nat} (h : ReadF K H a ns k) (e : StayR K H H') : ReadF K H' a ns k := by
  obtain ⟨dx, l, h1, h2⟩ := h
  exact ⟨dx, l, e _ _ (.inr ⟨_, _, _, rfl⟩) h1, h2.keep fun o z => e _ _ (.inl ⟨_, _, rfl⟩) z⟩
def spNextD (K : PySem.W.Frag) (SA : SARel) : Sp := fun vs H Q _ => ∃ (s r : Addr) (d : PeepSpec.State) (ns : List Int) (k : Nat) (c : List (List Int)) (t : List Int), vs = [.ref s, .ref r] ∧ SA H s d ∧ ReadF K H r ns k ∧
  PyFlat.call PyWrpeep.shape (ns.drop k) = some (c, t) ∧ InC c ∧ ns.length ≤ 30000 ∧
  ∀ H' l k', SA H' s (Neutral.step d c).1 → ReadF K H' r ns k' → ns.drop k' = t → k < k' → H' l = some (.lst ((Neutral.step d c).2.map V.int)) → Q (.ref l) H'
def spSessInit (K : PySem.W.Frag) (SA : SARel) : Sp := fun vs H Q _ => ∃ (s dx : Addr), vs = [.ref s] ∧ H s = some (.ins (He.ga K "Session") dx []) ∧ ∀ H', ExB s H H' → SA H' s PeepSpec.start → Q .non H'
def spAnswersF (K : PySem.W.Frag) : Sp := fun vs H Q _ => ∃ (a : Addr) (ns : List Int), vs = [.ref a] ∧ SqF K H a (ns.map V.int) ∧ ns.length ≤ 30000 ∧ PyWrpeep.answers_asked ns = true ∧ ∀ H' p, H' p = some (.lst ((PyWrpeep.answers ns).map V.int)) → Q (.ref p) H'
/-- the whole list's calls -/
theorem asked_inv {ns : List Int} (h : PyWrpeep.answers_asked ns = true) : ∃ cs, PyFlat.calls PyWrpeep.shape ns.length ns = some cs ∧ (∀ c ∈ cs, InC c) ∧ PyWrpeep.answers ns = PyFlat.told (PyFlat.played Neutral.step Neutral.start cs) ∧ (PyWrpeep.answers ns).length ≤ 10000000 := by
  unfold PyWrpeep.answers_asked at h
  cases hc : PyFlat.calls PyWrpeep.shape ns.length ns with
  | none => rw [hc] at h; cases h
  | some cs =>
    rw [hc] at h
    dsimp only at h
    rw [map_whole] at h
    simp only [Bool.and_eq_true] at h
    obtain ⟨⟨⟨⟨h1, h2⟩, h3⟩, h4⟩, h5⟩ := h
    refine ⟨cs, rfl, fun c hcm => ⟨List.all_eq_true.mp h3 c hcm, ?_⟩, ?_, of_decide_eq_true h5⟩
    · unfold Neutral.asked at h4
      simp only [Bool.and_eq_true] at h4
      exact List.all_eq_true.mp h4.1.1 c hcm
    · unfold PyWrpeep.answers PyWrpeep.calls
      rw [hc]
      dsimp only
      rw [map_whole]
theorem del_upd {H : Hp} {d : Addr} {o : HO} (h : H d = none) : del (upd H d o) d = H := by
  funext b
  unfold del upd
  by_cases z : b = d
  · rw [if_pos z, z, h]
  · rw [if_neg z, if_neg z]
theorem del_upd2 {H : Hp} {d : Addr} {o : HO} : del (upd H d o) d = del H d := by
  funext b
  unfold del upd
  by_cases z : b = d
  · rw [if_pos z, if_pos z]
  · rw [if_neg z, if_neg z, if_neg z]
theorem of_del {H : Hp} {a d : Addr} {o : HO} (h : del H d a = some o) : H a = some o ∧ a ≠ d := by
  by_cases z : a = d
  · rw [z, del_same] at h; cases h
  · exact ⟨by rw [del_ne z] at h; exact h, z⟩
theorem ReadF.of_del {K : PySem.W.Frag} {H : Hp} {a d : Addr} {ns : List Int} {k : Nat} (h : ReadF K (del H d) a ns k) : ReadF K H a ns k := by
  obtain ⟨dx, l, h1, h2⟩ := h
  exact ⟨dx, l, (Pb.of_del h1).1, h2.keep fun o z => (Pb.of_del z).1⟩
/-- the loop over the calls -/
def LoopA (K : PySem.W.Frag) (SA : SARel) (ns : List Int) (a sx rx d : Addr) (m : Nat) (σ : L2.St) (H' : Hp) : Prop := ∃ (told : List Int) (st : PeepSpec.State) (k f : Nat) (cs : List (List (List Int))) (z : Option V), σ = [some (.ref a), some (.ref sx), some (.ref rx), some (.ref d), z] ∧ H' d = some (.lst (told.map V.int)) ∧
  SA (del H' d) sx st ∧ ReadF K (del H' d) rx ns k ∧ PyFlat.calls PyWrpeep.shape f (ns.drop k) = some cs ∧ (∀ c ∈ cs, InC c) ∧ PyWrpeep.answers ns = told ++ PyFlat.told (PyFlat.played Neutral.step st cs) ∧ m = ns.length - k
theorem G_answers_body {P : Program} {w : World} {K : PySem.W.Frag} {mg : Str → Option Value} {base : Heap} (T : Txt w K mg) {SA : SARel} (AX : SAx K SA) {k0 k1 : Nat} (hk0 : k0 ≤ 13) (hk1 : k1 ≤ 13) (GN : Has P w K mg base CX0 k0 (He.ga K "next_answer") p_next_answer (spNextD K SA))
    (GS : Has P w K mg base CX0 k1 (He.ma K (He.ga K "Session") "__init__") p_Session_init (spSessInit K SA)) {fd : FuncData} (F : Fun K "answers" "answers" s_answers (He.ga K "answers") fd) : FnOk P w K mg base CX0 15 (He.ga K "answers") fd p_answers (spAnswersF K) := by
  have G_next_answer := GN
  have G_Session_init := GS
  have G_Reader_has_more := G_Reader_has_more (P := P) (base := base) T
  have G_Reader_init := G_Reader_init (P := P) (base := base) T
  refine F.ok sc_answers (fun vs H Q E h => ?_) (fun cdv A outer s H vs Q E hr h => ⟨_, PSs.nox (pss_cons (ps_set (i := 1) sc_answers.nd rfl (Or.inl rfl) (pe_make0H T.k_Session G_Session_init (hr.mono (by omega)) T.g_Session pass0))
    (pss_cons (ps_set (i := 2) sc_answers.nd rfl (Or.inl rfl) (pe_makeH T.k_Reader G_Reader_init (hr.mono (by decide)) T.g_Reader pass0 (pa_cons (pv 0) pa_nil)))
    (pss_cons (ps_set (i := 3) sc_answers.nd rfl (Or.inl rfl) (pe_lst pa_nil))
    (pss_cons (ps_while PassesOwn.never (pt_val (pe_meth0H (pv 2) T.cl_Reader T.m_Reader_has_more G_Reader_has_more (hr.mono (by decide)) pass0)) (pss_cons (ps_set (i := 4) sc_answers.nd rfl (Or.inl rfl) (pe_callF (i := 3) (E := E0) G_next_answer (hr.mono (by omega)) T.g_next_answer (pa_cons (pv 1) (pa_cons (pv 2) pa_nil))))
    (pss_cons (ps_expr (pe_bm PySem.F.plainAttrs_list PySem.F.slot_list_append PySem.F.type_list_append mt_append (pv 3) (pa_cons (pe_callB call_len_seq (by rfl) T.u_len PySem.boot_len (pa_cons (pv 4) pa_nil)) pa_nil)))
    (pss_one (ps_expr (pe_bm PySem.F.plainAttrs_list PySem.F.slot_list_extend PySem.F.type_list_extend mt_extend (pv 3) (pa_cons (pv 4) pa_nil)))))))
    (pss_one (ps_ret (pv 3))))))), ?_⟩)
  · obtain ⟨a, ns, rfl, _⟩ := h
    rfl
  · obtain ⟨a, ns, rfl, hl, hlen, hask, q⟩ := h
    obtain ⟨cs, hcs, hin, hans, hshort⟩ := asked_inv hask
    intro sx sd nsx nsd nse
    refine ⟨sx, sd, rfl, upd_same, fun H1 e1 hsa => ⟨rfl, ?_⟩⟩
    have x1 : Ex H H1 := by
      have y1 : Ex H (upd H sd (.own sx)) := Ex.new nsd
      have y2 : (upd H sd (.own sx)) sx = none := fresh_upd nsx nse.symm
      exact (e1.ex2 (y1.trans (Ex.new y2)) nsx)
    refine ⟨_, rfl, fun rx rd nrx nrd nre => ?_⟩
    refine ⟨rx, rd, .ref a, rfl, upd_same, fun H2 e2 hr2 => ⟨rfl, szl (by show 0 ≤ 1000000; decide), fun d hd => ?_⟩⟩
    have x2 : Ex H1 H2 := by
      have y1 : Ex H1 (upd H1 rd (.own rx)) := Ex.new nrd
      have y2 : (upd H1 rd (.own rx)) rx = none := fresh_upd nrx nre.symm
      exact (e2.ex2 (y1.trans (Ex.new y2)) nrx)
    have x3 : Ex H2 (upd H2 d (.lst [])) := Ex.new hd
    have hsa2 : SA H2 sx PeepSpec.start := AX.grow _ _ _ _ hsa x2
    have hrf2 : ReadF K H2 rx ns 0 := ⟨rd, a, hr2, hl.keep fun o z => x2 _ _ (x1 _ _ z)⟩
    refine ⟨LoopA K SA ns a sx rx d, ⟨_, [], PeepSpec.start, 0, _, cs, none, rfl, upd_same, by rw [del_upd hd]; exact hsa2, by rw [del_upd hd]; exact hrf2, by rw [List.drop_zero]; exact hcs, hin, by rw [hans]; rfl, rfl⟩, ?_⟩
    rintro m σ H3 ⟨told, st, k, f, cs, z, rfl, hd3, hs3, hr3, hc3, hi3, ha3, rfl⟩
    have hr3' := hr3.of_del
    have hr3a := hr3'
    obtain ⟨dx, l, hrx, hnl⟩ := hr3a
    refine ⟨_, rfl, rx, dx, _, rfl, hrx, lkHasMore .., rx, ns, k, rfl, hr3', ?_⟩
    refine ⟨_, rfl, iB (fun hk => ?_) (fun hk => ?_)⟩
    · have hk' := of_decide_eq_true hk
      cases hdr : ns.drop k with
      | nil =>
        have := congrArg List.length hdr
        rw [List.length_drop] at this
        simp at this
        omega
      | cons pc r =>
        rw [hdr] at hc3
        obtain ⟨f', c, t, cs', h1, h2, rfl⟩ := calls_cons hc3
        rw [← hdr] at h1
        have hb : told.length + (((Neutral.step st c).2.length : Int) :: (Neutral.step st c).2).length ≤ 10000000 := by
          rw [ha3, played_cons, told_cons, List.length_append, List.length_append] at hshort
          omega
        rw [List.length_cons] at hb
        refine ⟨fun σ' H' => ∃ m', m' < ns.length - k ∧ LoopA K SA ns a sx rx d m' σ' H', fun _ _ z => z, ?_⟩
        refine ⟨d, rfl, _, rfl, _, rfl, _, hd3, sx, rx, st, ns, k, c, t, rfl, hs3, hr3, h1, hi3 c (List.mem_cons_self ..), hlen, fun H4 l4 k4 hs4 hr4 ht4 hk4 hl4 hn4 => ?_⟩
        have hld : l4 ≠ d := ne_of_none hl4 hn4
        have hL : ∀ n, n ≤ 10000000 → n ≤ sizeLine := fun n hn => Nat.le_trans hn (by decide)
        have hlu : (upd H4 d (.lst (told.map V.int))) l4 = some (.lst ((Neutral.step st c).2.map V.int)) := by rw [upd_ne hld]; exact hl4
        refine ⟨_, rfl, .inl ⟨rfl, _, SqL.of upd_same⟩, _, rfl, l4, _, rfl, .inl (SqL.of hlu), d, _, _, rfl, rfl, upd_same, ?_, ?_⟩
        · rw [List.length_map]
          exact Nat.lt_of_lt_of_le (Nat.lt_succ_of_le (show told.length ≤ 10000000 by omega)) (by decide)
        have hlu2 : (upd (upd H4 d (.lst (told.map V.int))) d (.lst (told.map V.int ++ [V.int (((Neutral.step st c).2.map V.int).length : Int)]))) l4 = some (.lst ((Neutral.step st c).2.map V.int)) := by rw [upd_ne hld]; exact hlu
        refine ⟨_, rfl, .inl ⟨rfl, _, SqL.of upd_same⟩, _, rfl, d, l4, _, _, rfl, rfl, upd_same, hlu2, ?_, ?_⟩
        · rw [List.length_append, List.length_map, List.length_map]
          show told.length + 1 + _ ≤ _
          exact hL _ (by omega)
        rw [upd_upd, upd_upd]
        refine ⟨ns.length - k4, by omega, told ++ (((Neutral.step st c).2.length : Int) :: (Neutral.step st c).2), (Neutral.step st c).1, k4, f', cs', _, rfl, ?_, ?_, ?_, ?_, ?_, ?_, rfl⟩
        · rw [upd_same, List.length_map, List.map_append, List.append_assoc]
          rfl
        · rw [del_upd hn4]
          exact hs4
        · rw [del_upd hn4]
          exact hr4
        · rw [ht4]
          exact h2
        · exact fun x hx => hi3 x (List.mem_cons_of_mem _ hx)
        · rw [ha3, played_cons, told_cons, ← List.append_assoc]
    · have hk' := of_decide_eq_false hk
      rw [List.drop_of_length_le (by omega)] at hc3
      have e := calls_nil hc3
      subst e
      refine ⟨_, rfl, q H3 d ?_⟩
      rw [hd3, ha3]
      show _ = some (HO.lst ((told ++ []).map V.int))
      rw [List.append_nil]
end Pb

set_option Elab.async false
set_option linter.all false
set_option maxRecDepth 100000
set_option maxHeartbeats 8000000
namespace Pb
open PySem PySem.Spec PyProof.Rows L2 PySem.W
/-- the end where the written part is told by the head's hook -/
theorem walk_specE {r : OpenSpec} {k : Nat} {q : Program} {loose : List PySem.Str} {XP : (PySem.Str → Option Value) → Heap → Prop} {YP : World → Heap → Prop} {d : DefRec} {CX : CXT} {ps : List PySem.Str}
    (hwell : r.wellSaid = true) (hdf : d.params.defaults = []) (hlen : r.args.length = ps.length) (hr : Room k callerA)
    (F : ∀ (w : World) (mg : PySem.Str → Option Value) (fa : Addr) (h : Heap), YP w h → h.Ns mainGlobals mg → mg d.name = some (.ref fa) →
      ∃ (K : Frag) (fd : FuncData) (sp : Sp), K.In h ∧ (∀ (s : Shared) (us : List Value), us.length = ps.length → BindsTo s fd ⟨us, []⟩ (ps.zip us)) ∧
        (∀ (H : Hp) (xs : List V) (a : Codec.denoteAll r.args), OnlyF H → Codec.withinAll r.args a = true → Codec.app r.args r.asked a = true → DwAll K H xs (Codec.encAll r.args a) →
          sp xs H (fun v H' => Dw K H' v (r.ret.enc (Codec.app r.args r.f a))) fun _ _ _ => False) ∧
        ∀ base : Heap, K.In base → base.Ns mainGlobals mg → FnOk r.prog w K mg base CX k fa fd ps sp)
    (hCX : ∀ (H : Hp) (s : Shared) (e : Value) (s' : Shared), CX [] H s (fun _ _ _ => False) e s' → False) :
    WalkOS q loose XP YP r d [] (fun f vs => PySem.call f vs) := by
  intro w s₀ s₁ mg mb G Y fa o pm cd doc dV kV ho hd hcd hD hmg hg args vals as hpre hlay hrd hwl hlo
  obtain ⟨a, e1, e2⟩ := os_pre_some hpre
  obtain ⟨e3, hwi⟩ := Codec.encAll_of_decAll r.args args a e1
  subst e3
  obtain ⟨K, fd, sp, KX, hb, hsp, hF⟩ := F w mg fa _ Y G.T.g hmg
  refine enter_call (codeAny_mono (spec_call (R := []) (cl := classAt s₀.heap) (d0 := r.ret.enc (Codec.app r.args r.f a)) KX G.T.g G.T.b G.T.builtins G.T.nolimit hg hwl (pl_encAll _ _) (layable_weight hlay) hr hF hb (by rw [encAll_len]; exact hlen)
    (fun H xs hO hS => hsp H xs a hO hwi e2 hS) fun H e s' => hCX H s₁ e s') fun r' s' hq => ?_)
  obtain ⟨u, as', rfl, h1, h2, h3, h4⟩ := hq
  exact ⟨.inl ⟨u, _, as', rfl, fun _ => rfl, h1, (OpenSpec.post_iff hwell hwi _ _).mpr rfl, fun z => Bool.noConfusion (show false = true from z)⟩, h2, h3, h4⟩
theorem end_of {k : Nat} (hr : Room k callerA) (hG : ∀ (w : World) (K : Frag) (mg : PySem.Str → Option Value) (base : Heap) (fd : FuncData), Txt w K mg → Fun K "answers" "answers" s_answers (He.ga K "answers") fd → FnOk R.prog w K mg base CX0 k (He.ga K "answers") fd p_answers (spAnswersF K)) : PySem.Challenge.rw_peepbook_s01_answers.Holds := by
  refine HandSHeadRun.head_spec (r := PySem.Challenge.rw_peepbook_s01_answers) (q := qv) (H := hk) (ob := ob) (M := 11000) (loose := names) (d := HandSHeadRun.topDef R.prog 103) (kwd := []) ob_eq
    (by kernel_rfl) (fun s => by kernel_rfl) run (by kernel_rfl) (by kernel_rfl) (by kernel_rfl) os_shapes (by first | assumption | decide +kernel) (by decide +kernel) ⟨rfl, rfl, rfl, rfl, rfl, by decide +kernel⟩ ?hw ?hc
  case hw => exact ⟨[.list [.int 1]], by decide +kernel, by decide +kernel⟩
  case hc =>
    refine walk_specE (r := PySem.Challenge.rw_peepbook_s01_answers) (k := k) (CX := L2.CX0) (ps := ["calls"]) (by decide +kernel) (by kernel_rfl) rfl hr ?F (fun _ _ _ _ z => z)
    intro w mg fa h Y G hmg0
    obtain ⟨K, KX, c⟩ := Y
    have T := txt_of KX G c
    have hmg : mg ("answers" : PySem.Str) = some (.ref fa) := by
      have e : (HandSHeadRun.topDef R.prog 103).name = ("answers" : PySem.Str) := by kernel_rfl
      rw [← e]
      exact hmg0
    have e := hmg.symm.trans T.g_answers
    cases e
    obtain ⟨fd, F⟩ := T.d_answers.ex
    refine ⟨K, fd, spAnswersF K, KX, fun s us hu => ?_, ?_, fun base hb hn => ?_⟩
    · have bi := T.d_answers.bi
      obtain ⟨oc, od, kV, doc, pm, an, cdv, ct, osl, rfl, lk, hcd⟩ := F.ex
      exact .of_eq (bi kV doc pm an cdv ct us hu)
    · intro H xs a hO hwi hask hx
      cases hx with
      | cons h1 h2 =>
        cases h2
        cases h1 with
        | lst hs ha =>
          have e := L2.ints_dw a.1 _ ha
          subst e
          have q : ((Codec.inLen 0 30000 a.1 && a.1.all (Codec.inInt 0 4294967295)) && true) = true := hwi
          rw [Bool.and_eq_true, Bool.and_eq_true] at q
          exact ⟨_, a.1, rfl, SqF.of hs hO, (Codec.inNat_iff.mp q.1.1).2, hask, fun H' p hp => .lst (L2.SqL.of hp) (L2.dw_ints _)⟩
    · exact hG w K mg base fd T F
end Pb

set_option Elab.async false
set_option linter.all false
set_option maxRecDepth 100000
set_option maxHeartbeats 4000000
namespace Pb
open PySem PySem.Spec PyProof.Rows L2 Evl PbX
/-! ### a call's numbers and rows; what a session's method promises; the defs that answer -/
/-- a call: the state behind it; its answer's numbers -/
def stepS (d : PeepSpec.State) (x : PeepSpec.Call) : PeepSpec.State × List Int := ((PeepSpec.step d x).1, (PeepSpec.step d x).2.ret :: Neutral.behind (PeepSpec.step d x).2)
theorem step_of {d : PeepSpec.State} {c : Neutral.Call} {x : PeepSpec.Call} (h : Neutral.callOf c = some x) : Neutral.step d c = stepS d x := by
  unfold Neutral.step
  rw [h]
  rfl
theorem shape_dom {p : Int} {z : Nat × Nat} (h : PyWrpeep.shape p = some z) : ∃ i : Nat, i < 19 ∧ p = i := by
  by_cases q : 0 ≤ p ∧ p ≤ 18
  · exact ⟨p.toNat, by omega, by omega⟩
  · unfold PyWrpeep.shape at h
    repeat rw [if_neg (by omega)] at h
    cases h
theorem nat_of {z : Int} {n : Nat} (h : Neutral.natural z n = true) : ∃ k : Nat, z = k ∧ k < 2 ^ n := by
  unfold Neutral.natural at h
  rw [Bool.and_eq_true, decide_eq_true_iff, decide_eq_true_iff] at h
  refine ⟨z.toNat, by omega, ?_⟩
  have h2 := h.2
  have : ((z.toNat : Nat) : Int) < ((2 ^ n : Nat) : Int) := by
    rw [Int.toNat_of_nonneg h.1]
    exact_mod_cast h2
  exact_mod_cast this
/-- the answer is told -/
def Told (K : PySem.W.Frag) (SA : SARel) (H : Hp) (s : Addr) (d : PeepSpec.State) (x : PeepSpec.Call) (Q : VK) : Prop :=
  ∀ H' p, StayR K H H' → SA H' s (stepS d x).1 → H' p = some (.lst ((stepS d x).2.map V.int)) → Q (.ref p) H'
/-- the answer is told by a refusal -/
def ToldX (K : PySem.W.Frag) (SA : SARel) (H : Hp) (s : Addr) (d : PeepSpec.State) (x : PeepSpec.Call) (E : XK) : Prop :=
  ∀ C dd H' p, Ref K (He.ga K "Refusal") C → H' dd = some (.xd [("answer", .ref p)]) → StayR K H H' → SA H' s (stepS d x).1 → H' p = some (.lst ((stepS d x).2.map V.int)) → E (.ref C) (some dd) H'
abbrev ArgR : Type := Hp → List V → PeepSpec.Call → Prop
/-- a session's method that refuses nothing; one that may refuse -/
def spS0 (K : PySem.W.Frag) (SA : SARel) (n : Nat) (args : ArgR) : Sp := fun vs H Q _ => ∃ (s : Addr) (d : PeepSpec.State) (as : List V) (x : PeepSpec.Call), vs = .ref s :: as ∧ as.length = n ∧ SA H s d ∧ args H as x ∧ Told K SA H s d x Q
def spSX (K : PySem.W.Frag) (SA : SARel) (n : Nat) (args : ArgR) : Sp := fun vs H Q E => ∃ (s : Addr) (d : PeepSpec.State) (as : List V) (x : PeepSpec.Call), vs = .ref s :: as ∧ as.length = n ∧ SA H s d ∧ args H as x ∧ Told K SA H s d x Q ∧ ToldX K SA H s d x E
def arg0 (x : PeepSpec.Call) : ArgR := fun _ as y => as = [] ∧ y = x
def argN (f : Nat → PeepSpec.Call) : ArgR := fun _ as y => ∃ n : Nat, as = [.int n] ∧ n < 2 ^ 32 ∧ y = f n
def argNN (f : Nat → Nat → PeepSpec.Call) : ArgR := fun _ as y => ∃ n m : Nat, as = [.int n, .int m] ∧ n < 2 ^ 32 ∧ m < 2 ^ 32 ∧ y = f n m
def argB (K : PySem.W.Frag) (f : PeCode.Bytes → PeepSpec.Call) : ArgR := fun H as y => ∃ (l : Addr) (b : PeCode.Bytes), as = [.ref l] ∧ H l = some (.lst (numsV b)) ∧ b.length ≤ 4200 ∧ y = f b
def argNB (K : PySem.W.Frag) (f : Nat → PeCode.Bytes → PeepSpec.Call) : ArgR := fun H as y => ∃ (n : Nat) (l : Addr) (b : PeCode.Bytes), as = [.int n, .ref l] ∧ n < 2 ^ 32 ∧ H l = some (.lst (numsV b)) ∧ b.length ≤ 4200 ∧ y = f n b
def argL (K : PySem.W.Frag) (f : List Nat → PeepSpec.Call) : ArgR := fun H as y => ∃ (l : Addr) (b : List Nat), as = [.ref l] ∧ H l = some (.lst (b.map fun (n : Nat) => V.int (n : Int))) ∧ b.length ≤ 12 ∧ (∀ n ∈ b, n < 2 ^ 32) ∧ y = f b
/-! what is read -/
theorem and_of {a b : Bool} (h : (a && b) = true) : a = true ∧ b = true := by simpa using h
theorem in0 {p : Int} {ns : List Int} {k : Nat} {c : List (List Int)} {t : List Int} (hs : PyWrpeep.shape p = some (0, 0)) (h : PyFlat.call PyWrpeep.shape (p :: ns.drop k) = some (c, t)) : c = [[p]] ∧ t = ns.drop k := by
  obtain ⟨_, h1, h2⟩ := call_nums hs h
  exact ⟨h1, h2⟩
theorem inN {p : Int} {ns : List Int} {k : Nat} {c : List (List Int)} {t : List Int} (hs : PyWrpeep.shape p = some (1, 0)) (h : PyFlat.call PyWrpeep.shape (p :: ns.drop k) = some (c, t)) (hq : ∀ x, Neutral.asked1 [[p, x]] = true → Neutral.natural x 32 = true) (hi : InC c) :
    ∃ n : Nat, ns[k]? = some (n : Int) ∧ n < 2 ^ 32 ∧ c = [[p, (n : Int)]] ∧ t = ns.drop (k + 1) := by
  obtain ⟨h0, h1, h2⟩ := call_nums hs h
  cases hd : ns.drop k with
  | nil =>
    rw [hd] at h0
    simp at h0
  | cons x r =>
    obtain ⟨ha, rfl⟩ := drop_at hd
    rw [hd] at h1 h2
    have e : c = [[p, x]] := h1
    rw [e] at hi
    obtain ⟨n, rfl, hn⟩ := nat_of (hq x hi.2)
    exact ⟨n, ha, hn, e, h2⟩
theorem inNN {p : Int} {ns : List Int} {k : Nat} {c : List (List Int)} {t : List Int} (hs : PyWrpeep.shape p = some (2, 0)) (h : PyFlat.call PyWrpeep.shape (p :: ns.drop k) = some (c, t)) (hq : ∀ x y, Neutral.asked1 [[p, x, y]] = true → Neutral.natural x 32 = true ∧ Neutral.natural y 32 = true) (hi : InC c) :
    ∃ n m : Nat, ns[k]? = some (n : Int) ∧ ns[k + 1]? = some (m : Int) ∧ n < 2 ^ 32 ∧ m < 2 ^ 32 ∧ c = [[p, (n : Int), (m : Int)]] ∧ t = ns.drop (k + 2) := by
  obtain ⟨h0, h1, h2⟩ := call_nums hs h
  cases hd : ns.drop k with
  | nil =>
    rw [hd] at h0
    simp at h0
  | cons x r =>
    obtain ⟨ha, rfl⟩ := drop_at hd
    rw [hd] at h0 h1 h2
    cases hd2 : ns.drop (k + 1) with
    | nil =>
      rw [hd2] at h0
      simp at h0
    | cons y r2 =>
      obtain ⟨hb, rfl⟩ := drop_at hd2
      rw [hd2] at h1 h2
      have e : c = [[p, x, y]] := h1
      rw [e] at hi
      obtain ⟨n, rfl, hn⟩ := nat_of (hq x y hi.2).1
      obtain ⟨m, rfl, hm⟩ := nat_of (hq _ y hi.2).2
      exact ⟨n, m, ha, hb, hn, hm, e, h2⟩
theorem numsV_of {l : List Int} (h : l.all (PyInside.within 0 255) = true) : l.map V.int = numsV (Lines.ofBytes l) := by
  have e := bytes_of_ints l h
  unfold numsV
  rw [e, List.map_map]
  rw [← e]
  rfl
theorem inB {p : Int} {ns : List Int} {k : Nat} {c : List (List Int)} {t : List Int} (hs : PyWrpeep.shape p = some (0, 1)) (h : PyFlat.call PyWrpeep.shape (p :: ns.drop k) = some (c, t)) (hq : PyWrpeep.bound p = ([], [(0, 255, 0, 4200)])) (hi : InC c) :
    ∃ (m : Nat) (x : List Int), ns[k]? = some (m : Int) ∧ m ≤ 4200 ∧ c = [[p], x] ∧ ((ns.drop (k + 1)).take m).map V.int = numsV (Lines.ofBytes x) ∧ (Lines.ofBytes x).length ≤ 4200 ∧ t = ns.drop (k + 1 + m) := by
  obtain ⟨h0, m, r', h1, hm, h2, h3⟩ := call_row hs h
  rw [List.drop_zero] at h1
  obtain ⟨ha, rfl⟩ := drop_at h1
  have e : c = [[p], (ns.drop (k + 1)).take m] := h2
  rw [e] at hi
  have hi1 := hi.1
  unfold PyInside.call at hi1
  dsimp only at hi1
  rw [hq] at hi1
  unfold PyInside.each PyInside.lists at hi1
  simp only [Bool.true_and, Bool.and_eq_true, decide_eq_true_iff] at hi1
  have hl : ((ns.drop (k + 1)).take m).length = m := by rw [List.length_take]; omega
  refine ⟨m, _, ha, by omega, e, numsV_of hi1.1.2, ?_, by rw [h3, List.drop_drop]⟩
  unfold Lines.ofBytes
  rw [List.length_map]
  exact hi1.1.1.2
theorem inNB {p : Int} {ns : List Int} {k : Nat} {c : List (List Int)} {t : List Int} (hs : PyWrpeep.shape p = some (1, 1)) (h : PyFlat.call PyWrpeep.shape (p :: ns.drop k) = some (c, t)) (hq : PyWrpeep.bound p = ([(0, 4294967295)], [(0, 255, 0, 4200)])) (hi : InC c) :
    ∃ (n m : Nat) (x : List Int), ns[k]? = some (n : Int) ∧ n < 2 ^ 32 ∧ ns[k + 1]? = some (m : Int) ∧ m ≤ 4200 ∧ c = [[p, (n : Int)], x] ∧ ((ns.drop (k + 2)).take m).map V.int = numsV (Lines.ofBytes x) ∧ (Lines.ofBytes x).length ≤ 4200 ∧ t = ns.drop (k + 2 + m) := by
  obtain ⟨h0, m, r', h1, hm, h2, h3⟩ := call_row hs h
  cases hd : ns.drop k with
  | nil =>
    rw [hd] at h0
    simp at h0
  | cons y r =>
    obtain ⟨hy, rfl⟩ := drop_at hd
    rw [hd] at h1 h2
    have h1' : ns.drop (k + 1) = (m : Int) :: r' := h1
    obtain ⟨ha, rfl⟩ := drop_at h1'
    have e : c = [[p, y], (ns.drop (k + 1 + 1)).take m] := h2
    rw [e] at hi
    have hi1 := hi.1
    unfold PyInside.call at hi1
    dsimp only at hi1
    rw [hq] at hi1
    unfold PyInside.each PyInside.each PyInside.lists PyInside.within at hi1
    simp only [Bool.true_and, Bool.and_true, Bool.and_eq_true, decide_eq_true_iff] at hi1
    obtain ⟨⟨hy1, hy2⟩, ⟨⟨hz1, hz2⟩, hz3⟩, _⟩ := hi1
    have hl : ((ns.drop (k + 1 + 1)).take m).length = m := by rw [List.length_take]; omega
    refine ⟨y.toNat, m, _, by rw [hy, Int.toNat_of_nonneg hy1], by omega, ha, by omega, by rw [e, Int.toNat_of_nonneg hy1], numsV_of hz3, ?_, by rw [h3, List.drop_drop]⟩
    unfold Lines.ofBytes
    rw [List.length_map]
    exact hz2
theorem inL {p : Int} {ns : List Int} {k : Nat} {c : List (List Int)} {t : List Int} (hs : PyWrpeep.shape p = some (0, 1)) (h : PyFlat.call PyWrpeep.shape (p :: ns.drop k) = some (c, t)) (hq : PyWrpeep.bound p = ([], [(0, 4294967295, 0, 12)])) (hi : InC c) :
    ∃ (m : Nat) (x : List Int), ns[k]? = some (m : Int) ∧ m ≤ 4200 ∧ c = [[p], x] ∧ ((ns.drop (k + 1)).take m).map V.int = (Lines.nats x).map (fun (n : Nat) => V.int (n : Int)) ∧ (Lines.nats x).length ≤ 12 ∧ (∀ n ∈ Lines.nats x, n < 2 ^ 32) ∧ t = ns.drop (k + 1 + m) := by
  obtain ⟨h0, m, r', h1, hm, h2, h3⟩ := call_row hs h
  rw [List.drop_zero] at h1
  obtain ⟨ha, rfl⟩ := drop_at h1
  have e : c = [[p], (ns.drop (k + 1)).take m] := h2
  rw [e] at hi
  have hi1 := hi.1
  unfold PyInside.call at hi1
  dsimp only at hi1
  rw [hq] at hi1
  unfold PyInside.each PyInside.lists at hi1
  simp only [Bool.true_and, Bool.and_eq_true, decide_eq_true_iff] at hi1
  have hl : ((ns.drop (k + 1)).take m).length = m := by rw [List.length_take]; omega
  have hw : ∀ z ∈ (ns.drop (k + 1)).take m, 0 ≤ z ∧ z ≤ 4294967295 := fun z hz => by
    have := List.all_eq_true.mp hi1.1.2 z hz
    unfold PyInside.within at this
    rw [Bool.and_eq_true, decide_eq_true_iff, decide_eq_true_iff] at this
    exact this
  refine ⟨m, _, ha, by omega, e, ?_, ?_, ?_, by rw [h3, List.drop_drop]⟩
  · unfold Lines.nats
    rw [List.map_map]
    refine List.map_congr_left fun z hz => ?_
    show V.int z = V.int ((z.toNat : Nat) : Int)
    rw [Int.toNat_of_nonneg (hw z hz).1]
  · unfold Lines.nats
    rw [List.length_map]
    exact hi1.1.1.2
  · intro n hn
    unfold Lines.nats at hn
    obtain ⟨z, hz, rfl⟩ := List.mem_map.mp hn
    have := hw z hz
    omega
/-- a def that answers call p -/
def spAns (K : PySem.W.Frag) (SA : SARel) (p : Int) : Sp := fun vs H Q E => ∃ (s r : Addr) (d : PeepSpec.State) (ns : List Int) (k : Nat) (c : List (List Int)) (t : List Int), vs = [.ref s, .ref r] ∧ SA H s d ∧ ReadF K H r ns k ∧
  PyFlat.call PyWrpeep.shape (p :: ns.drop k) = some (c, t) ∧ InC c ∧ ns.length ≤ 30000 ∧
  (∀ H' l k', SA H' s (Neutral.step d c).1 → ReadF K H' r ns k' → ns.drop k' = t → k ≤ k' → H' l = some (.lst ((Neutral.step d c).2.map V.int)) → Q (.ref l) H') ∧
  (∀ C dd H' l k', Ref K (He.ga K "Refusal") C → H' dd = some (.xd [("answer", .ref l)]) → SA H' s (Neutral.step d c).1 → ReadF K H' r ns k' → ns.drop k' = t → k ≤ k' → H' l = some (.lst ((Neutral.step d c).2.map V.int)) → E (.ref C) (some dd) H')
/-- the next call, from each of them -/
theorem G_next_of {P : Program} {w : World} {K : PySem.W.Frag} {mg : Str → Option Value} {base : Heap} (T : Txt w K mg) {SA : SARel} (AX : SAx K SA) {cv : List V} (hcv : ∀ H, SqT K H (He.ga K "CALLS") cv)
    (HT : ∀ i : Nat, i < 19 → ∃ f, cv[i]? = some (.ref f) ∧ HeldX P w K mg base lvA f (spAns K SA i)) : Has P w K mg base CX0 (lvA + 1) (He.ga K "next_answer") p_next_answer (spNextD K SA) := by
  refine (G_next_answer T hcv).imp fun vs H Q E h => ?_
  obtain ⟨s, r, d, ns, k, c, t, rfl, hs, hr, hc, hi, hlen, q⟩ := h
  cases hd : ns.drop k with
  | nil =>
    rw [hd] at hc
    cases hc
  | cons p rest =>
    rw [hd] at hc
    have hp : ∃ z, PyWrpeep.shape p = some z := by
      cases hz : PyWrpeep.shape p with
      | some z => exact ⟨z, rfl⟩
      | none =>
        unfold PyFlat.call at hc
        dsimp only at hc
        rw [hz] at hc
        cases hc
    obtain ⟨z, hz⟩ := hp
    obtain ⟨i, hi19, rfl⟩ := shape_dom hz
    obtain ⟨f, hf, hA⟩ := HT i hi19
    obtain ⟨h1, rfl⟩ := drop_at hd
    refine ⟨_, r, f, ns, k, i, _, rfl, hr, h1, hf, hA, fun H1 E' e1 hr1 hx => ?_⟩
    obtain ⟨dx, l, ha, hl⟩ := hr
    refine ⟨s, r, d, ns, k + 1, c, t, rfl, AX.read _ _ _ _ _ _ _ _ hs ha e1, hr1, hc, hi, hlen, fun H' l k' a1 a2 a3 a4 a5 => q H' l k' a1 a2 a3 (by omega) a5, fun C dd H' l k' a0 a1 a2 a3 a4 a5 a6 => ?_⟩
    exact hx _ _ _ ⟨C, dd, l, rfl, rfl, a0, a1, q H' l k' a2 a3 a4 (by omega) a6⟩
end Pb

set_option Elab.async false
set_option linter.all false
set_option maxRecDepth 100000
set_option maxHeartbeats 4000000
namespace Pb
open PySem PySem.Spec PyProof.Rows L2 Evl PbX
/-! the defs that answer, each from its session's method's promise -/
theorem G_answer_load {P : Program} {w : World} {K : PySem.W.Frag} {mg : Str → Option Value} {base : Heap} (T : Txt w K mg) {SA : SARel} (AX : SAx K SA) {km : Nat} (hkm : km ≤ 11)
    (G_Session_load : Has P w K mg base (L2.CX P w) km (He.ma K (He.ga K "Session") "load") p_Session_load (spSX K SA 1 (argB K PeepSpec.Call.load))) : Has P w K mg base (L2.CX P w) lvA (He.ga K "answer_load") p_answer_load (spAns K SA 0) := by
  have G_Reader_take_row := G_Reader_take_row (P := P) (base := base) T
  refine T.d_answer_load.hasX sc_answer_load (fun vs H Q E h => ?_) (fun cdv A outer s H vs Q E hr h => ⟨_, ((pss_one (ps_ret (pe_methH (pv 0) T.cl_Session T.m_Session_load G_Session_load (hr.mono (by omega)) (passes_call (takes_of rfl rfl rfl rfl) (fun _ _ _ _ h => h)) (pa_cons (pe_meth0H (pv 1) T.cl_Reader T.m_Reader_take_row G_Reader_take_row (hr.mono (by omega)) pass0) pa_nil))))), ?_⟩)
  · obtain ⟨s, r, d, ns, k, c, t, rfl, _⟩ := h
    rfl
  · obtain ⟨sx, r, d, ns, k, c, t, rfl, hs, hr0, hc, hi, hlen, q, qx⟩ := h
    have hr' := hr0
    obtain ⟨dx, l, ha, hl⟩ := hr'
    obtain ⟨m, x, hm, hm2, rfl, hx, hxl, rfl⟩ := inB rfl hc rfl hi
    have hst : Neutral.step d [[0], x] = stepS d (.load (Lines.ofBytes x)) := rfl
    rw [hst] at q qx
    obtain ⟨sd, sf, hsi, hsf⟩ := AX.ins _ _ _ hs
    refine ⟨_, rfl, sx, sd, sf, rfl, hsi, hsf _ (by decide +kernel), _, rfl, r, dx, _, rfl, ha, lkTakeR .., r, ns, k, m, rfl, hr0, hm, by omega, fun H1 p1 hp1 e1 hr1 hl1 => ?_⟩
    rw [hx] at hl1
    exact ⟨sx, d, _, _, rfl, rfl, AX.read _ _ _ _ _ _ _ _ hs ha e1, ⟨p1, Lines.ofBytes x, rfl, hl1, hxl, rfl⟩, fun H' p st sa hp => q H' p (k + 1 + m) sa (ReadF.stay hr1 st) rfl (by omega) hp, fun C dd H' p rf hd st sa hp => qx C dd H' p (k + 1 + m) rf hd sa (ReadF.stay hr1 st) rfl (by omega) hp⟩
theorem G_answer_code {P : Program} {w : World} {K : PySem.W.Frag} {mg : Str → Option Value} {base : Heap} (T : Txt w K mg) {SA : SARel} (AX : SAx K SA) {km : Nat} (hkm : km ≤ 11)
    (G_Session_code : Has P w K mg base CX0 km (He.ma K (He.ga K "Session") "code") p_Session_code (spS0 K SA 0 (arg0 PeepSpec.Call.code))) : Has P w K mg base (L2.CX P w) lvA (He.ga K "answer_code") p_answer_code (spAns K SA 1) := by
  refine T.d_answer_code.hasX sc_answer_code (fun vs H Q E h => ?_) (fun cdv A outer s H vs Q E hr h => ⟨_, ((pss_one (ps_ret (pe_meth0H (pv 0) T.cl_Session T.m_Session_code G_Session_code (hr.mono (by omega)) pass0)))), ?_⟩)
  · obtain ⟨s, r, d, ns, k, c, t, rfl, _⟩ := h
    rfl
  · obtain ⟨sx, r, d, ns, k, c, t, rfl, hs, hr0, hc, hi, hlen, q, qx⟩ := h
    have hr' := hr0
    obtain ⟨dx, l, ha, hl⟩ := hr'
    obtain ⟨rfl, rfl⟩ := in0 rfl hc
    have hst : Neutral.step d [[1]] = stepS d .code := rfl
    rw [hst] at q qx
    obtain ⟨sd, sf, hsi, hsf⟩ := AX.ins _ _ _ hs
    exact ⟨_, rfl, sx, sd, sf, rfl, hsi, hsf _ (by decide +kernel), sx, d, _, _, rfl, rfl, hs, ⟨rfl, rfl⟩, fun H' p st sa hp => q H' p k sa (ReadF.stay hr0 st) rfl (by omega) hp⟩
theorem G_answer_put {P : Program} {w : World} {K : PySem.W.Frag} {mg : Str → Option Value} {base : Heap} (T : Txt w K mg) {SA : SARel} (AX : SAx K SA) {km : Nat} (hkm : km ≤ 11)
    (G_Session_put : Has P w K mg base (L2.CX P w) km (He.ma K (He.ga K "Session") "put") p_Session_put (spSX K SA 2 (argNB K PeepSpec.Call.put))) : Has P w K mg base (L2.CX P w) lvA (He.ga K "answer_put") p_answer_put (spAns K SA 2) := by
  have G_Reader_take_number := G_Reader_take_number (P := P) (base := base) T
  have G_Reader_take_row := G_Reader_take_row (P := P) (base := base) T
  refine T.d_answer_put.hasX sc_answer_put (fun vs H Q E h => ?_) (fun cdv A outer s H vs Q E hr h => ⟨_, ((pss_cons (ps_set (i := 2) sc_answer_put.nd rfl (Or.inl rfl) (pe_meth0H (pv 1) T.cl_Reader T.m_Reader_take_number G_Reader_take_number (hr.mono (by omega)) pass0))
    (pss_one (ps_ret (pe_methH (pv 0) T.cl_Session T.m_Session_put G_Session_put (hr.mono (by omega)) (passes_call (takes_of rfl rfl rfl rfl) (fun _ _ _ _ h => h)) (pa_cons (pv 2) (pa_cons (pe_meth0H (pv 1) T.cl_Reader T.m_Reader_take_row G_Reader_take_row (hr.mono (by omega)) pass0) pa_nil))))))), ?_⟩)
  · obtain ⟨s, r, d, ns, k, c, t, rfl, _⟩ := h
    rfl
  · obtain ⟨sx, r, d, ns, k, c, t, rfl, hs, hr0, hc, hi, hlen, q, qx⟩ := h
    have hr' := hr0
    obtain ⟨dx, l, ha, hl⟩ := hr'
    obtain ⟨n, m, x, hn, hn2, hm, hm2, rfl, hx, hxl, rfl⟩ := inNB rfl hc rfl hi
    have hst : Neutral.step d [[2, (n : Int)], x] = stepS d (.put n (Lines.ofBytes x)) := rfl
    rw [hst] at q qx
    refine ⟨_, rfl, r, dx, _, rfl, ha, lkTakeN .., r, ns, k, _, rfl, hr0, hn, fun H1 e1 hr1 => ?_⟩
    have hs1 := AX.read _ _ _ _ _ _ _ _ hs ha e1
    have hr1' := hr1
    obtain ⟨dx1, l1, ha1, hl1⟩ := hr1'
    obtain ⟨sd, sf, hsi, hsf⟩ := AX.ins _ _ _ hs1
    refine ⟨_, rfl, sx, sd, sf, rfl, hsi, hsf _ (by decide +kernel), _, rfl, _, rfl, r, dx1, _, rfl, ha1, lkTakeR .., r, ns, k + 1, m, rfl, hr1, hm, by omega, fun H2 p2 hp2 e2 hr2 hl2 => ?_⟩
    rw [show k + 1 + 1 = k + 2 from rfl, hx] at hl2
    exact ⟨sx, d, _, _, rfl, rfl, AX.read _ _ _ _ _ _ _ _ hs1 ha1 e2, ⟨n, p2, _, rfl, hn2, hl2, hxl, rfl⟩, fun H' p st sa hp => q H' p (k + 2 + m) sa (ReadF.stay hr2 st) rfl (by omega) hp, fun C dd H' p rf hd st sa hp => qx C dd H' p (k + 2 + m) rf hd sa (ReadF.stay hr2 st) rfl (by omega) hp⟩
theorem G_answer_cut {P : Program} {w : World} {K : PySem.W.Frag} {mg : Str → Option Value} {base : Heap} (T : Txt w K mg) {SA : SARel} (AX : SAx K SA) {km : Nat} (hkm : km ≤ 11)
    (G_Session_cut : Has P w K mg base (L2.CX P w) km (He.ma K (He.ga K "Session") "cut") p_Session_cut (spSX K SA 1 (argN PeepSpec.Call.cut))) : Has P w K mg base (L2.CX P w) lvA (He.ga K "answer_cut") p_answer_cut (spAns K SA 3) := by
  have G_Reader_take_number := G_Reader_take_number (P := P) (base := base) T
  refine T.d_answer_cut.hasX sc_answer_cut (fun vs H Q E h => ?_) (fun cdv A outer s H vs Q E hr h => ⟨_, ((pss_one (ps_ret (pe_methH (pv 0) T.cl_Session T.m_Session_cut G_Session_cut (hr.mono (by omega)) (passes_call (takes_of rfl rfl rfl rfl) (fun _ _ _ _ h => h)) (pa_cons (pe_meth0H (pv 1) T.cl_Reader T.m_Reader_take_number G_Reader_take_number (hr.mono (by omega)) pass0) pa_nil))))), ?_⟩)
  · obtain ⟨s, r, d, ns, k, c, t, rfl, _⟩ := h
    rfl
  · obtain ⟨sx, r, d, ns, k, c, t, rfl, hs, hr0, hc, hi, hlen, q, qx⟩ := h
    have hr' := hr0
    obtain ⟨dx, l, ha, hl⟩ := hr'
    obtain ⟨n, hn, hn2, rfl, rfl⟩ := inN rfl hc (fun _ z => z) hi
    have hst : Neutral.step d [[3, (n : Int)]] = stepS d (.cut n) := rfl
    rw [hst] at q qx
    obtain ⟨sd, sf, hsi, hsf⟩ := AX.ins _ _ _ hs
    refine ⟨_, rfl, sx, sd, sf, rfl, hsi, hsf _ (by decide +kernel), _, rfl, r, dx, _, rfl, ha, lkTakeN .., r, ns, k, _, rfl, hr0, hn, fun H1 e1 hr1 => ?_⟩
    exact ⟨sx, d, _, _, rfl, rfl, AX.read _ _ _ _ _ _ _ _ hs ha e1, ⟨n, rfl, hn2, rfl⟩, fun H' p st sa hp => q H' p (k + 1) sa (ReadF.stay hr1 st) rfl (by omega) hp, fun C dd H' p rf hd st sa hp => qx C dd H' p (k + 1) rf hd sa (ReadF.stay hr1 st) rfl (by omega) hp⟩
theorem G_answer_judge {P : Program} {w : World} {K : PySem.W.Frag} {mg : Str → Option Value} {base : Heap} (T : Txt w K mg) {SA : SARel} (AX : SAx K SA) {km : Nat} (hkm : km ≤ 11)
    (G_Session_judge : Has P w K mg base (L2.CX P w) km (He.ma K (He.ga K "Session") "judge") p_Session_judge (spSX K SA 1 (argB K PeepSpec.Call.judge))) : Has P w K mg base (L2.CX P w) lvA (He.ga K "answer_judge") p_answer_judge (spAns K SA 4) := by
  have G_Reader_take_row := G_Reader_take_row (P := P) (base := base) T
  refine T.d_answer_judge.hasX sc_answer_judge (fun vs H Q E h => ?_) (fun cdv A outer s H vs Q E hr h => ⟨_, ((pss_one (ps_ret (pe_methH (pv 0) T.cl_Session T.m_Session_judge G_Session_judge (hr.mono (by omega)) (passes_call (takes_of rfl rfl rfl rfl) (fun _ _ _ _ h => h)) (pa_cons (pe_meth0H (pv 1) T.cl_Reader T.m_Reader_take_row G_Reader_take_row (hr.mono (by omega)) pass0) pa_nil))))), ?_⟩)
  · obtain ⟨s, r, d, ns, k, c, t, rfl, _⟩ := h
    rfl
  · obtain ⟨sx, r, d, ns, k, c, t, rfl, hs, hr0, hc, hi, hlen, q, qx⟩ := h
    have hr' := hr0
    obtain ⟨dx, l, ha, hl⟩ := hr'
    obtain ⟨m, x, hm, hm2, rfl, hx, hxl, rfl⟩ := inB rfl hc rfl hi
    have hst : Neutral.step d [[4], x] = stepS d (.judge (Lines.ofBytes x)) := rfl
    rw [hst] at q qx
    obtain ⟨sd, sf, hsi, hsf⟩ := AX.ins _ _ _ hs
    refine ⟨_, rfl, sx, sd, sf, rfl, hsi, hsf _ (by decide +kernel), _, rfl, r, dx, _, rfl, ha, lkTakeR .., r, ns, k, m, rfl, hr0, hm, by omega, fun H1 p1 hp1 e1 hr1 hl1 => ?_⟩
    rw [hx] at hl1
    exact ⟨sx, d, _, _, rfl, rfl, AX.read _ _ _ _ _ _ _ _ hs ha e1, ⟨p1, Lines.ofBytes x, rfl, hl1, hxl, rfl⟩, fun H' p st sa hp => q H' p (k + 1 + m) sa (ReadF.stay hr1 st) rfl (by omega) hp, fun C dd H' p rf hd st sa hp => qx C dd H' p (k + 1 + m) rf hd sa (ReadF.stay hr1 st) rfl (by omega) hp⟩
theorem G_answer_rule {P : Program} {w : World} {K : PySem.W.Frag} {mg : Str → Option Value} {base : Heap} (T : Txt w K mg) {SA : SARel} (AX : SAx K SA) {km : Nat} (hkm : km ≤ 11)
    (G_Session_rule : Has P w K mg base (L2.CX P w) km (He.ma K (He.ga K "Session") "rule") p_Session_rule (spSX K SA 1 (argB K PeepSpec.Call.rule))) : Has P w K mg base (L2.CX P w) lvA (He.ga K "answer_rule") p_answer_rule (spAns K SA 5) := by
  have G_Reader_take_row := G_Reader_take_row (P := P) (base := base) T
  refine T.d_answer_rule.hasX sc_answer_rule (fun vs H Q E h => ?_) (fun cdv A outer s H vs Q E hr h => ⟨_, ((pss_one (ps_ret (pe_methH (pv 0) T.cl_Session T.m_Session_rule G_Session_rule (hr.mono (by omega)) (passes_call (takes_of rfl rfl rfl rfl) (fun _ _ _ _ h => h)) (pa_cons (pe_meth0H (pv 1) T.cl_Reader T.m_Reader_take_row G_Reader_take_row (hr.mono (by omega)) pass0) pa_nil))))), ?_⟩)
  · obtain ⟨s, r, d, ns, k, c, t, rfl, _⟩ := h
    rfl
  · obtain ⟨sx, r, d, ns, k, c, t, rfl, hs, hr0, hc, hi, hlen, q, qx⟩ := h
    have hr' := hr0
    obtain ⟨dx, l, ha, hl⟩ := hr'
    obtain ⟨m, x, hm, hm2, rfl, hx, hxl, rfl⟩ := inB rfl hc rfl hi
    have hst : Neutral.step d [[5], x] = stepS d (.rule (Lines.ofBytes x)) := rfl
    rw [hst] at q qx
    obtain ⟨sd, sf, hsi, hsf⟩ := AX.ins _ _ _ hs
    refine ⟨_, rfl, sx, sd, sf, rfl, hsi, hsf _ (by decide +kernel), _, rfl, r, dx, _, rfl, ha, lkTakeR .., r, ns, k, m, rfl, hr0, hm, by omega, fun H1 p1 hp1 e1 hr1 hl1 => ?_⟩
    rw [hx] at hl1
    exact ⟨sx, d, _, _, rfl, rfl, AX.read _ _ _ _ _ _ _ _ hs ha e1, ⟨p1, Lines.ofBytes x, rfl, hl1, hxl, rfl⟩, fun H' p st sa hp => q H' p (k + 1 + m) sa (ReadF.stay hr1 st) rfl (by omega) hp, fun C dd H' p rf hd st sa hp => qx C dd H' p (k + 1 + m) rf hd sa (ReadF.stay hr1 st) rfl (by omega) hp⟩
theorem G_answer_drop {P : Program} {w : World} {K : PySem.W.Frag} {mg : Str → Option Value} {base : Heap} (T : Txt w K mg) {SA : SARel} (AX : SAx K SA) {km : Nat} (hkm : km ≤ 11)
    (G_Session_drop : Has P w K mg base (L2.CX P w) km (He.ma K (He.ga K "Session") "drop") p_Session_drop (spSX K SA 1 (argN PeepSpec.Call.drop))) : Has P w K mg base (L2.CX P w) lvA (He.ga K "answer_drop") p_answer_drop (spAns K SA 6) := by
  have G_Reader_take_number := G_Reader_take_number (P := P) (base := base) T
  refine T.d_answer_drop.hasX sc_answer_drop (fun vs H Q E h => ?_) (fun cdv A outer s H vs Q E hr h => ⟨_, ((pss_one (ps_ret (pe_methH (pv 0) T.cl_Session T.m_Session_drop G_Session_drop (hr.mono (by omega)) (passes_call (takes_of rfl rfl rfl rfl) (fun _ _ _ _ h => h)) (pa_cons (pe_meth0H (pv 1) T.cl_Reader T.m_Reader_take_number G_Reader_take_number (hr.mono (by omega)) pass0) pa_nil))))), ?_⟩)
  · obtain ⟨s, r, d, ns, k, c, t, rfl, _⟩ := h
    rfl
  · obtain ⟨sx, r, d, ns, k, c, t, rfl, hs, hr0, hc, hi, hlen, q, qx⟩ := h
    have hr' := hr0
    obtain ⟨dx, l, ha, hl⟩ := hr'
    obtain ⟨n, hn, hn2, rfl, rfl⟩ := inN rfl hc (fun _ z => z) hi
    have hst : Neutral.step d [[6, (n : Int)]] = stepS d (.drop n) := rfl
    rw [hst] at q qx
    obtain ⟨sd, sf, hsi, hsf⟩ := AX.ins _ _ _ hs
    refine ⟨_, rfl, sx, sd, sf, rfl, hsi, hsf _ (by decide +kernel), _, rfl, r, dx, _, rfl, ha, lkTakeN .., r, ns, k, _, rfl, hr0, hn, fun H1 e1 hr1 => ?_⟩
    exact ⟨sx, d, _, _, rfl, rfl, AX.read _ _ _ _ _ _ _ _ hs ha e1, ⟨n, rfl, hn2, rfl⟩, fun H' p st sa hp => q H' p (k + 1) sa (ReadF.stay hr1 st) rfl (by omega) hp, fun C dd H' p rf hd st sa hp => qx C dd H' p (k + 1) rf hd sa (ReadF.stay hr1 st) rfl (by omega) hp⟩
theorem G_answer_say {P : Program} {w : World} {K : PySem.W.Frag} {mg : Str → Option Value} {base : Heap} (T : Txt w K mg) {SA : SARel} (AX : SAx K SA) {km : Nat} (hkm : km ≤ 11)
    (G_Session_say : Has P w K mg base (L2.CX P w) km (He.ma K (He.ga K "Session") "say") p_Session_say (spSX K SA 1 (argN PeepSpec.Call.say))) : Has P w K mg base (L2.CX P w) lvA (He.ga K "answer_say") p_answer_say (spAns K SA 7) := by
  have G_Reader_take_number := G_Reader_take_number (P := P) (base := base) T
  refine T.d_answer_say.hasX sc_answer_say (fun vs H Q E h => ?_) (fun cdv A outer s H vs Q E hr h => ⟨_, ((pss_one (ps_ret (pe_methH (pv 0) T.cl_Session T.m_Session_say G_Session_say (hr.mono (by omega)) (passes_call (takes_of rfl rfl rfl rfl) (fun _ _ _ _ h => h)) (pa_cons (pe_meth0H (pv 1) T.cl_Reader T.m_Reader_take_number G_Reader_take_number (hr.mono (by omega)) pass0) pa_nil))))), ?_⟩)
  · obtain ⟨s, r, d, ns, k, c, t, rfl, _⟩ := h
    rfl
  · obtain ⟨sx, r, d, ns, k, c, t, rfl, hs, hr0, hc, hi, hlen, q, qx⟩ := h
    have hr' := hr0
    obtain ⟨dx, l, ha, hl⟩ := hr'
    obtain ⟨n, hn, hn2, rfl, rfl⟩ := inN rfl hc (fun _ z => z) hi
    have hst : Neutral.step d [[7, (n : Int)]] = stepS d (.say n) := rfl
    rw [hst] at q qx
    obtain ⟨sd, sf, hsi, hsf⟩ := AX.ins _ _ _ hs
    refine ⟨_, rfl, sx, sd, sf, rfl, hsi, hsf _ (by decide +kernel), _, rfl, r, dx, _, rfl, ha, lkTakeN .., r, ns, k, _, rfl, hr0, hn, fun H1 e1 hr1 => ?_⟩
    exact ⟨sx, d, _, _, rfl, rfl, AX.read _ _ _ _ _ _ _ _ hs ha e1, ⟨n, rfl, hn2, rfl⟩, fun H' p st sa hp => q H' p (k + 1) sa (ReadF.stay hr1 st) rfl (by omega) hp, fun C dd H' p rf hd st sa hp => qx C dd H' p (k + 1) rf hd sa (ReadF.stay hr1 st) rfl (by omega) hp⟩
theorem G_answer_fits {P : Program} {w : World} {K : PySem.W.Frag} {mg : Str → Option Value} {base : Heap} (T : Txt w K mg) {SA : SARel} (AX : SAx K SA) {km : Nat} (hkm : km ≤ 11)
    (G_Session_fits : Has P w K mg base (L2.CX P w) km (He.ma K (He.ga K "Session") "fits") p_Session_fits (spSX K SA 2 (argNN PeepSpec.Call.fits))) : Has P w K mg base (L2.CX P w) lvA (He.ga K "answer_fits") p_answer_fits (spAns K SA 8) := by
  have G_Reader_take_number := G_Reader_take_number (P := P) (base := base) T
  refine T.d_answer_fits.hasX sc_answer_fits (fun vs H Q E h => ?_) (fun cdv A outer s H vs Q E hr h => ⟨_, ((pss_cons (ps_set (i := 2) sc_answer_fits.nd rfl (Or.inl rfl) (pe_meth0H (pv 1) T.cl_Reader T.m_Reader_take_number G_Reader_take_number (hr.mono (by omega)) pass0))
    (pss_one (ps_ret (pe_methH (pv 0) T.cl_Session T.m_Session_fits G_Session_fits (hr.mono (by omega)) (passes_call (takes_of rfl rfl rfl rfl) (fun _ _ _ _ h => h)) (pa_cons (pv 2) (pa_cons (pe_meth0H (pv 1) T.cl_Reader T.m_Reader_take_number G_Reader_take_number (hr.mono (by omega)) pass0) pa_nil))))))), ?_⟩)
  · obtain ⟨s, r, d, ns, k, c, t, rfl, _⟩ := h
    rfl
  · obtain ⟨sx, r, d, ns, k, c, t, rfl, hs, hr0, hc, hi, hlen, q, qx⟩ := h
    have hr' := hr0
    obtain ⟨dx, l, ha, hl⟩ := hr'
    obtain ⟨n, m, hn, hm, hn2, hm2, rfl, rfl⟩ := inNN rfl hc (fun _ _ z => and_of z) hi
    have hst : Neutral.step d [[8, (n : Int), (m : Int)]] = stepS d (.fits n m) := rfl
    rw [hst] at q qx
    refine ⟨_, rfl, r, dx, _, rfl, ha, lkTakeN .., r, ns, k, _, rfl, hr0, hn, fun H1 e1 hr1 => ?_⟩
    have hs1 := AX.read _ _ _ _ _ _ _ _ hs ha e1
    have hr1' := hr1
    obtain ⟨dx1, l1, ha1, hl1⟩ := hr1'
    obtain ⟨sd, sf, hsi, hsf⟩ := AX.ins _ _ _ hs1
    refine ⟨_, rfl, sx, sd, sf, rfl, hsi, hsf _ (by decide +kernel), _, rfl, _, rfl, r, dx1, _, rfl, ha1, lkTakeN .., r, ns, k + 1, _, rfl, hr1, hm, fun H2 e2 hr2 => ?_⟩
    exact ⟨sx, d, _, _, rfl, rfl, AX.read _ _ _ _ _ _ _ _ hs1 ha1 e2, ⟨n, m, rfl, hn2, hm2, rfl⟩, fun H' p st sa hp => q H' p (k + 2) sa (ReadF.stay hr2 st) rfl (by omega) hp, fun C dd H' p rf hd st sa hp => qx C dd H' p (k + 2) rf hd sa (ReadF.stay hr2 st) rfl (by omega) hp⟩
theorem G_answer_at {P : Program} {w : World} {K : PySem.W.Frag} {mg : Str → Option Value} {base : Heap} (T : Txt w K mg) {SA : SARel} (AX : SAx K SA) {km : Nat} (hkm : km ≤ 11)
    (G_Session_at : Has P w K mg base (L2.CX P w) km (He.ma K (He.ga K "Session") "at") p_Session_at (spSX K SA 2 (argNN PeepSpec.Call.at_))) : Has P w K mg base (L2.CX P w) lvA (He.ga K "answer_at") p_answer_at (spAns K SA 9) := by
  have G_Reader_take_number := G_Reader_take_number (P := P) (base := base) T
  refine T.d_answer_at.hasX sc_answer_at (fun vs H Q E h => ?_) (fun cdv A outer s H vs Q E hr h => ⟨_, ((pss_cons (ps_set (i := 2) sc_answer_at.nd rfl (Or.inl rfl) (pe_meth0H (pv 1) T.cl_Reader T.m_Reader_take_number G_Reader_take_number (hr.mono (by omega)) pass0))
    (pss_one (ps_ret (pe_methH (pv 0) T.cl_Session T.m_Session_at G_Session_at (hr.mono (by omega)) (passes_call (takes_of rfl rfl rfl rfl) (fun _ _ _ _ h => h)) (pa_cons (pv 2) (pa_cons (pe_meth0H (pv 1) T.cl_Reader T.m_Reader_take_number G_Reader_take_number (hr.mono (by omega)) pass0) pa_nil))))))), ?_⟩)
  · obtain ⟨s, r, d, ns, k, c, t, rfl, _⟩ := h
    rfl
  · obtain ⟨sx, r, d, ns, k, c, t, rfl, hs, hr0, hc, hi, hlen, q, qx⟩ := h
    have hr' := hr0
    obtain ⟨dx, l, ha, hl⟩ := hr'
    obtain ⟨n, m, hn, hm, hn2, hm2, rfl, rfl⟩ := inNN rfl hc (fun _ _ z => and_of z) hi
    have hst : Neutral.step d [[9, (n : Int), (m : Int)]] = stepS d (.at_ n m) := rfl
    rw [hst] at q qx
    refine ⟨_, rfl, r, dx, _, rfl, ha, lkTakeN .., r, ns, k, _, rfl, hr0, hn, fun H1 e1 hr1 => ?_⟩
    have hs1 := AX.read _ _ _ _ _ _ _ _ hs ha e1
    have hr1' := hr1
    obtain ⟨dx1, l1, ha1, hl1⟩ := hr1'
    obtain ⟨sd, sf, hsi, hsf⟩ := AX.ins _ _ _ hs1
    refine ⟨_, rfl, sx, sd, sf, rfl, hsi, hsf _ (by decide +kernel), _, rfl, _, rfl, r, dx1, _, rfl, ha1, lkTakeN .., r, ns, k + 1, _, rfl, hr1, hm, fun H2 e2 hr2 => ?_⟩
    exact ⟨sx, d, _, _, rfl, rfl, AX.read _ _ _ _ _ _ _ _ hs1 ha1 e2, ⟨n, m, rfl, hn2, hm2, rfl⟩, fun H' p st sa hp => q H' p (k + 2) sa (ReadF.stay hr2 st) rfl (by omega) hp, fun C dd H' p rf hd st sa hp => qx C dd H' p (k + 2) rf hd sa (ReadF.stay hr2 st) rfl (by omega) hp⟩
theorem G_answer_step {P : Program} {w : World} {K : PySem.W.Frag} {mg : Str → Option Value} {base : Heap} (T : Txt w K mg) {SA : SARel} (AX : SAx K SA) {km : Nat} (hkm : km ≤ 11)
    (G_Session_step : Has P w K mg base (L2.CX P w) km (He.ma K (He.ga K "Session") "step") p_Session_step (spSX K SA 0 (arg0 PeepSpec.Call.step))) : Has P w K mg base (L2.CX P w) lvA (He.ga K "answer_step") p_answer_step (spAns K SA 10) := by
  refine T.d_answer_step.hasX sc_answer_step (fun vs H Q E h => ?_) (fun cdv A outer s H vs Q E hr h => ⟨_, ((pss_one (ps_ret (pe_meth0H (pv 0) T.cl_Session T.m_Session_step G_Session_step (hr.mono (by omega)) (passes_call (takes_of rfl rfl rfl rfl) (fun _ _ _ _ h => h)))))), ?_⟩)
  · obtain ⟨s, r, d, ns, k, c, t, rfl, _⟩ := h
    rfl
  · obtain ⟨sx, r, d, ns, k, c, t, rfl, hs, hr0, hc, hi, hlen, q, qx⟩ := h
    have hr' := hr0
    obtain ⟨dx, l, ha, hl⟩ := hr'
    obtain ⟨rfl, rfl⟩ := in0 rfl hc
    have hst : Neutral.step d [[10]] = stepS d .step := rfl
    rw [hst] at q qx
    obtain ⟨sd, sf, hsi, hsf⟩ := AX.ins _ _ _ hs
    exact ⟨_, rfl, sx, sd, sf, rfl, hsi, hsf _ (by decide +kernel), sx, d, _, _, rfl, rfl, hs, ⟨rfl, rfl⟩, fun H' p st sa hp => q H' p k sa (ReadF.stay hr0 st) rfl (by omega) hp, fun C dd H' p rf hd st sa hp => qx C dd H' p k rf hd sa (ReadF.stay hr0 st) rfl (by omega) hp⟩
theorem G_answer_run {P : Program} {w : World} {K : PySem.W.Frag} {mg : Str → Option Value} {base : Heap} (T : Txt w K mg) {SA : SARel} (AX : SAx K SA) {km : Nat} (hkm : km ≤ 11)
    (G_Session_run : Has P w K mg base CX0 km (He.ma K (He.ga K "Session") "run") p_Session_run (spS0 K SA 0 (arg0 PeepSpec.Call.run))) : Has P w K mg base (L2.CX P w) lvA (He.ga K "answer_run") p_answer_run (spAns K SA 11) := by
  refine T.d_answer_run.hasX sc_answer_run (fun vs H Q E h => ?_) (fun cdv A outer s H vs Q E hr h => ⟨_, ((pss_one (ps_ret (pe_meth0H (pv 0) T.cl_Session T.m_Session_run G_Session_run (hr.mono (by omega)) pass0)))), ?_⟩)
  · obtain ⟨s, r, d, ns, k, c, t, rfl, _⟩ := h
    rfl
  · obtain ⟨sx, r, d, ns, k, c, t, rfl, hs, hr0, hc, hi, hlen, q, qx⟩ := h
    have hr' := hr0
    obtain ⟨dx, l, ha, hl⟩ := hr'
    obtain ⟨rfl, rfl⟩ := in0 rfl hc
    have hst : Neutral.step d [[11]] = stepS d .run := rfl
    rw [hst] at q qx
    obtain ⟨sd, sf, hsi, hsf⟩ := AX.ins _ _ _ hs
    exact ⟨_, rfl, sx, sd, sf, rfl, hsi, hsf _ (by decide +kernel), sx, d, _, _, rfl, rfl, hs, ⟨rfl, rfl⟩, fun H' p st sa hp => q H' p k sa (ReadF.stay hr0 st) rfl (by omega) hp⟩
theorem G_answer_trail {P : Program} {w : World} {K : PySem.W.Frag} {mg : Str → Option Value} {base : Heap} (T : Txt w K mg) {SA : SARel} (AX : SAx K SA) {km : Nat} (hkm : km ≤ 11)
    (G_Session_trail : Has P w K mg base CX0 km (He.ma K (He.ga K "Session") "trail") p_Session_trail (spS0 K SA 0 (arg0 PeepSpec.Call.trail))) : Has P w K mg base (L2.CX P w) lvA (He.ga K "answer_trail") p_answer_trail (spAns K SA 12) := by
  refine T.d_answer_trail.hasX sc_answer_trail (fun vs H Q E h => ?_) (fun cdv A outer s H vs Q E hr h => ⟨_, ((pss_one (ps_ret (pe_meth0H (pv 0) T.cl_Session T.m_Session_trail G_Session_trail (hr.mono (by omega)) pass0)))), ?_⟩)
  · obtain ⟨s, r, d, ns, k, c, t, rfl, _⟩ := h
    rfl
  · obtain ⟨sx, r, d, ns, k, c, t, rfl, hs, hr0, hc, hi, hlen, q, qx⟩ := h
    have hr' := hr0
    obtain ⟨dx, l, ha, hl⟩ := hr'
    obtain ⟨rfl, rfl⟩ := in0 rfl hc
    have hst : Neutral.step d [[12]] = stepS d .trail := rfl
    rw [hst] at q qx
    obtain ⟨sd, sf, hsi, hsf⟩ := AX.ins _ _ _ hs
    exact ⟨_, rfl, sx, sd, sf, rfl, hsi, hsf _ (by decide +kernel), sx, d, _, _, rfl, rfl, hs, ⟨rfl, rfl⟩, fun H' p st sa hp => q H' p k sa (ReadF.stay hr0 st) rfl (by omega) hp⟩
theorem G_answer_eval {P : Program} {w : World} {K : PySem.W.Frag} {mg : Str → Option Value} {base : Heap} (T : Txt w K mg) {SA : SARel} (AX : SAx K SA) {km : Nat} (hkm : km ≤ 11)
    (G_Session_reckon : Has P w K mg base (L2.CX P w) km (He.ma K (He.ga K "Session") "reckon") p_Session_reckon (spSX K SA 1 (argL K PeepSpec.Call.eval))) : Has P w K mg base (L2.CX P w) lvA (He.ga K "answer_eval") p_answer_eval (spAns K SA 13) := by
  have G_Reader_take_row := G_Reader_take_row (P := P) (base := base) T
  refine T.d_answer_eval.hasX sc_answer_eval (fun vs H Q E h => ?_) (fun cdv A outer s H vs Q E hr h => ⟨_, ((pss_one (ps_ret (pe_methH (pv 0) T.cl_Session T.m_Session_reckon G_Session_reckon (hr.mono (by omega)) (passes_call (takes_of rfl rfl rfl rfl) (fun _ _ _ _ h => h)) (pa_cons (pe_meth0H (pv 1) T.cl_Reader T.m_Reader_take_row G_Reader_take_row (hr.mono (by omega)) pass0) pa_nil))))), ?_⟩)
  · obtain ⟨s, r, d, ns, k, c, t, rfl, _⟩ := h
    rfl
  · obtain ⟨sx, r, d, ns, k, c, t, rfl, hs, hr0, hc, hi, hlen, q, qx⟩ := h
    have hr' := hr0
    obtain ⟨dx, l, ha, hl⟩ := hr'
    obtain ⟨m, x, hm, hm2, rfl, hx, hxl, hxw, rfl⟩ := inL rfl hc rfl hi
    have hst : Neutral.step d [[13], x] = stepS d (.eval (Lines.nats x)) := rfl
    rw [hst] at q qx
    obtain ⟨sd, sf, hsi, hsf⟩ := AX.ins _ _ _ hs
    refine ⟨_, rfl, sx, sd, sf, rfl, hsi, hsf _ (by decide +kernel), _, rfl, r, dx, _, rfl, ha, lkTakeR .., r, ns, k, m, rfl, hr0, hm, by omega, fun H1 p1 hp1 e1 hr1 hl1 => ?_⟩
    rw [hx] at hl1
    exact ⟨sx, d, _, _, rfl, rfl, AX.read _ _ _ _ _ _ _ _ hs ha e1, ⟨p1, Lines.nats x, rfl, hl1, hxl, hxw, rfl⟩, fun H' p st sa hp => q H' p (k + 1 + m) sa (ReadF.stay hr1 st) rfl (by omega) hp, fun C dd H' p rf hd st sa hp => qx C dd H' p (k + 1 + m) rf hd sa (ReadF.stay hr1 st) rfl (by omega) hp⟩
theorem G_answer_form {P : Program} {w : World} {K : PySem.W.Frag} {mg : Str → Option Value} {base : Heap} (T : Txt w K mg) {SA : SARel} (AX : SAx K SA) {km : Nat} (hkm : km ≤ 11)
    (G_Session_form : Has P w K mg base (L2.CX P w) km (He.ma K (He.ga K "Session") "form") p_Session_form (spSX K SA 1 (argN PeepSpec.Call.form))) : Has P w K mg base (L2.CX P w) lvA (He.ga K "answer_form") p_answer_form (spAns K SA 14) := by
  have G_Reader_take_number := G_Reader_take_number (P := P) (base := base) T
  refine T.d_answer_form.hasX sc_answer_form (fun vs H Q E h => ?_) (fun cdv A outer s H vs Q E hr h => ⟨_, ((pss_one (ps_ret (pe_methH (pv 0) T.cl_Session T.m_Session_form G_Session_form (hr.mono (by omega)) (passes_call (takes_of rfl rfl rfl rfl) (fun _ _ _ _ h => h)) (pa_cons (pe_meth0H (pv 1) T.cl_Reader T.m_Reader_take_number G_Reader_take_number (hr.mono (by omega)) pass0) pa_nil))))), ?_⟩)
  · obtain ⟨s, r, d, ns, k, c, t, rfl, _⟩ := h
    rfl
  · obtain ⟨sx, r, d, ns, k, c, t, rfl, hs, hr0, hc, hi, hlen, q, qx⟩ := h
    have hr' := hr0
    obtain ⟨dx, l, ha, hl⟩ := hr'
    obtain ⟨n, hn, hn2, rfl, rfl⟩ := inN rfl hc (fun _ z => z) hi
    have hst : Neutral.step d [[14, (n : Int)]] = stepS d (.form n) := rfl
    rw [hst] at q qx
    obtain ⟨sd, sf, hsi, hsf⟩ := AX.ins _ _ _ hs
    refine ⟨_, rfl, sx, sd, sf, rfl, hsi, hsf _ (by decide +kernel), _, rfl, r, dx, _, rfl, ha, lkTakeN .., r, ns, k, _, rfl, hr0, hn, fun H1 e1 hr1 => ?_⟩
    exact ⟨sx, d, _, _, rfl, rfl, AX.read _ _ _ _ _ _ _ _ hs ha e1, ⟨n, rfl, hn2, rfl⟩, fun H' p st sa hp => q H' p (k + 1) sa (ReadF.stay hr1 st) rfl (by omega) hp, fun C dd H' p rf hd st sa hp => qx C dd H' p (k + 1) rf hd sa (ReadF.stay hr1 st) rfl (by omega) hp⟩
theorem G_answer_same {P : Program} {w : World} {K : PySem.W.Frag} {mg : Str → Option Value} {base : Heap} (T : Txt w K mg) {SA : SARel} (AX : SAx K SA) {km : Nat} (hkm : km ≤ 11)
    (G_Session_same : Has P w K mg base (L2.CX P w) km (He.ma K (He.ga K "Session") "same") p_Session_same (spSX K SA 1 (argB K PeepSpec.Call.same))) : Has P w K mg base (L2.CX P w) lvA (He.ga K "answer_same") p_answer_same (spAns K SA 15) := by
  have G_Reader_take_row := G_Reader_take_row (P := P) (base := base) T
  refine T.d_answer_same.hasX sc_answer_same (fun vs H Q E h => ?_) (fun cdv A outer s H vs Q E hr h => ⟨_, ((pss_one (ps_ret (pe_methH (pv 0) T.cl_Session T.m_Session_same G_Session_same (hr.mono (by omega)) (passes_call (takes_of rfl rfl rfl rfl) (fun _ _ _ _ h => h)) (pa_cons (pe_meth0H (pv 1) T.cl_Reader T.m_Reader_take_row G_Reader_take_row (hr.mono (by omega)) pass0) pa_nil))))), ?_⟩)
  · obtain ⟨s, r, d, ns, k, c, t, rfl, _⟩ := h
    rfl
  · obtain ⟨sx, r, d, ns, k, c, t, rfl, hs, hr0, hc, hi, hlen, q, qx⟩ := h
    have hr' := hr0
    obtain ⟨dx, l, ha, hl⟩ := hr'
    obtain ⟨m, x, hm, hm2, rfl, hx, hxl, rfl⟩ := inB rfl hc rfl hi
    have hst : Neutral.step d [[15], x] = stepS d (.same (Lines.ofBytes x)) := rfl
    rw [hst] at q qx
    obtain ⟨sd, sf, hsi, hsf⟩ := AX.ins _ _ _ hs
    refine ⟨_, rfl, sx, sd, sf, rfl, hsi, hsf _ (by decide +kernel), _, rfl, r, dx, _, rfl, ha, lkTakeR .., r, ns, k, m, rfl, hr0, hm, by omega, fun H1 p1 hp1 e1 hr1 hl1 => ?_⟩
    rw [hx] at hl1
    exact ⟨sx, d, _, _, rfl, rfl, AX.read _ _ _ _ _ _ _ _ hs ha e1, ⟨p1, Lines.ofBytes x, rfl, hl1, hxl, rfl⟩, fun H' p st sa hp => q H' p (k + 1 + m) sa (ReadF.stay hr1 st) rfl (by omega) hp, fun C dd H' p rf hd st sa hp => qx C dd H' p (k + 1 + m) rf hd sa (ReadF.stay hr1 st) rfl (by omega) hp⟩
theorem G_answer_state {P : Program} {w : World} {K : PySem.W.Frag} {mg : Str → Option Value} {base : Heap} (T : Txt w K mg) {SA : SARel} (AX : SAx K SA) {km : Nat} (hkm : km ≤ 11)
    (G_Session_state : Has P w K mg base CX0 km (He.ma K (He.ga K "Session") "state") p_Session_state (spS0 K SA 0 (arg0 PeepSpec.Call.state))) : Has P w K mg base (L2.CX P w) lvA (He.ga K "answer_state") p_answer_state (spAns K SA 16) := by
  refine T.d_answer_state.hasX sc_answer_state (fun vs H Q E h => ?_) (fun cdv A outer s H vs Q E hr h => ⟨_, ((pss_one (ps_ret (pe_meth0H (pv 0) T.cl_Session T.m_Session_state G_Session_state (hr.mono (by omega)) pass0)))), ?_⟩)
  · obtain ⟨s, r, d, ns, k, c, t, rfl, _⟩ := h
    rfl
  · obtain ⟨sx, r, d, ns, k, c, t, rfl, hs, hr0, hc, hi, hlen, q, qx⟩ := h
    have hr' := hr0
    obtain ⟨dx, l, ha, hl⟩ := hr'
    obtain ⟨rfl, rfl⟩ := in0 rfl hc
    have hst : Neutral.step d [[16]] = stepS d .state := rfl
    rw [hst] at q qx
    obtain ⟨sd, sf, hsi, hsf⟩ := AX.ins _ _ _ hs
    exact ⟨_, rfl, sx, sd, sf, rfl, hsi, hsf _ (by decide +kernel), sx, d, _, _, rfl, rfl, hs, ⟨rfl, rfl⟩, fun H' p st sa hp => q H' p k sa (ReadF.stay hr0 st) rfl (by omega) hp⟩
theorem G_answer_undo {P : Program} {w : World} {K : PySem.W.Frag} {mg : Str → Option Value} {base : Heap} (T : Txt w K mg) {SA : SARel} (AX : SAx K SA) {km : Nat} (hkm : km ≤ 11)
    (G_Session_undo : Has P w K mg base (L2.CX P w) km (He.ma K (He.ga K "Session") "undo") p_Session_undo (spSX K SA 0 (arg0 PeepSpec.Call.undo))) : Has P w K mg base (L2.CX P w) lvA (He.ga K "answer_undo") p_answer_undo (spAns K SA 17) := by
  refine T.d_answer_undo.hasX sc_answer_undo (fun vs H Q E h => ?_) (fun cdv A outer s H vs Q E hr h => ⟨_, ((pss_one (ps_ret (pe_meth0H (pv 0) T.cl_Session T.m_Session_undo G_Session_undo (hr.mono (by omega)) (passes_call (takes_of rfl rfl rfl rfl) (fun _ _ _ _ h => h)))))), ?_⟩)
  · obtain ⟨s, r, d, ns, k, c, t, rfl, _⟩ := h
    rfl
  · obtain ⟨sx, r, d, ns, k, c, t, rfl, hs, hr0, hc, hi, hlen, q, qx⟩ := h
    have hr' := hr0
    obtain ⟨dx, l, ha, hl⟩ := hr'
    obtain ⟨rfl, rfl⟩ := in0 rfl hc
    have hst : Neutral.step d [[17]] = stepS d .undo := rfl
    rw [hst] at q qx
    obtain ⟨sd, sf, hsi, hsf⟩ := AX.ins _ _ _ hs
    exact ⟨_, rfl, sx, sd, sf, rfl, hsi, hsf _ (by decide +kernel), sx, d, _, _, rfl, rfl, hs, ⟨rfl, rfl⟩, fun H' p st sa hp => q H' p k sa (ReadF.stay hr0 st) rfl (by omega) hp, fun C dd H' p rf hd st sa hp => qx C dd H' p k rf hd sa (ReadF.stay hr0 st) rfl (by omega) hp⟩
theorem G_answer_redo {P : Program} {w : World} {K : PySem.W.Frag} {mg : Str → Option Value} {base : Heap} (T : Txt w K mg) {SA : SARel} (AX : SAx K SA) {km : Nat} (hkm : km ≤ 11)
    (G_Session_redo : Has P w K mg base (L2.CX P w) km (He.ma K (He.ga K "Session") "redo") p_Session_redo (spSX K SA 0 (arg0 PeepSpec.Call.redo))) : Has P w K mg base (L2.CX P w) lvA (He.ga K "answer_redo") p_answer_redo (spAns K SA 18) := by
  refine T.d_answer_redo.hasX sc_answer_redo (fun vs H Q E h => ?_) (fun cdv A outer s H vs Q E hr h => ⟨_, ((pss_one (ps_ret (pe_meth0H (pv 0) T.cl_Session T.m_Session_redo G_Session_redo (hr.mono (by omega)) (passes_call (takes_of rfl rfl rfl rfl) (fun _ _ _ _ h => h)))))), ?_⟩)
  · obtain ⟨s, r, d, ns, k, c, t, rfl, _⟩ := h
    rfl
  · obtain ⟨sx, r, d, ns, k, c, t, rfl, hs, hr0, hc, hi, hlen, q, qx⟩ := h
    have hr' := hr0
    obtain ⟨dx, l, ha, hl⟩ := hr'
    obtain ⟨rfl, rfl⟩ := in0 rfl hc
    have hst : Neutral.step d [[18]] = stepS d .redo := rfl
    rw [hst] at q qx
    obtain ⟨sd, sf, hsi, hsf⟩ := AX.ins _ _ _ hs
    exact ⟨_, rfl, sx, sd, sf, rfl, hsi, hsf _ (by decide +kernel), sx, d, _, _, rfl, rfl, hs, ⟨rfl, rfl⟩, fun H' p st sa hp => q H' p k sa (ReadF.stay hr0 st) rfl (by omega) hp, fun C dd H' p rf hd st sa hp => qx C dd H' p k rf hd sa (ReadF.stay hr0 st) rfl (by omega) hp⟩
end Pb

/-! What registers come to, told by nine runs. -/
namespace Pb
open PeCode
/-- a sum at the j-th of the nine states (8: all 0) -/
def proj (j : Nat) (s : Sum) : Nat := if j = 8 then s.getD 8 0 else plus (s.getD j 0) (s.getD 8 0)
structure SumOk (s : Sum) : Prop where
  len : s.length = 9
  lt : ∀ i, s.getD i 0 < W
structure RelJ (j : Nat) (S : List Sum) (x : Regs) : Prop where
  lenS : S.length = 8
  lenX : x.length = 8
  at' : ∀ r, r < 8 → SumOk (sumAt S r) ∧ at_ x r = proj j (sumAt S r)
theorem getD_zip {f : Nat → Nat → Nat} {s t : Sum} {i : Nat} (hs : s.length = 9) (ht : t.length = 9) (hi : i < 9) : (zip2 f s t).getD i 0 = f (s.getD i 0) (t.getD i 0) := by
  unfold zip2
  rw [List.getD_eq_getElem?_getD, List.getElem?_zipWith, List.getD_eq_getElem?_getD, List.getD_eq_getElem?_getD, List.getElem?_eq_getElem (by omega), List.getElem?_eq_getElem (by omega)]
  rfl
theorem getD_out {s : Sum} {i : Nat} (h : s.length ≤ i) : s.getD i 0 = 0 := by
  rw [List.getD_eq_getElem?_getD, List.getElem?_eq_none h]
  rfl
theorem W_pos : 0 < W := by decide
theorem sumOk_of {s : Sum} (hl : s.length = 9) (h : ∀ i, i < 9 → s.getD i 0 < W) : SumOk s := ⟨hl, fun i => by
  rcases Nat.lt_or_ge i 9 with q | q
  · exact h i q
  · rw [getD_out (by omega)]
    exact W_pos⟩
theorem sumOk_zip {f : Nat → Nat → Nat} (hf : ∀ x y, f x y < W) {s t : Sum} (hs : SumOk s) (ht : SumOk t) : SumOk (zip2 f s t) := by
  refine sumOk_of ?_ fun i hi => ?_
  · unfold zip2
    rw [List.length_zipWith, hs.len, ht.len]
    rfl
  · rw [getD_zip hs.len ht.len hi]
    exact hf _ _
theorem sumOk_map {f : Nat → Nat} (hf : ∀ x, f x < W) {s : Sum} (hs : SumOk s) : SumOk (s.map f) := by
  refine sumOk_of (by rw [List.length_map, hs.len]) fun i hi => ?_
  rw [List.getD_eq_getElem?_getD, List.getElem?_map, List.getElem?_eq_getElem (by rw [hs.len]; exact hi)]
  exact hf _
theorem getD_map {f : Nat → Nat} {s : Sum} {i : Nat} (hs : s.length = 9) (hi : i < 9) : (s.map f).getD i 0 = f (s.getD i 0) := by
  rw [List.getD_eq_getElem?_getD, List.getElem?_map, List.getD_eq_getElem?_getD, List.getElem?_eq_getElem (by omega)]
  rfl
theorem konst_ok (k : Nat) : SumOk (konst 9 k) := by
  refine sumOk_of (by unfold konst; rw [List.length_map, List.length_range]) fun i hi => ?_
  unfold konst
  rw [List.getD_eq_getElem?_getD, List.getElem?_map, List.getElem?_range hi]
  show (if i + 1 = 9 then k % W else 0) < W
  split
  · exact Nat.mod_lt _ W_pos
  · exact W_pos
theorem konst_at (k : Nat) {i : Nat} (hi : i < 9) : (konst 9 k).getD i 0 = if i = 8 then k % W else 0 := by
  unfold konst
  rw [List.getD_eq_getElem?_getD, List.getElem?_map, List.getElem?_range hi]
  show (if i + 1 = 9 then k % W else 0) = _
  by_cases h : i = 8
  · rw [if_pos h, if_pos (by omega)]
  · rw [if_neg h, if_neg (by omega)]
theorem one_at (r : Nat) {i : Nat} (hi : i < 9) : (one 9 r).getD i 0 = if i = r then 1 else 0 := by
  unfold one
  rw [List.getD_eq_getElem?_getD, List.getElem?_map, List.getElem?_range hi]
  rfl
theorem one_ok (r : Nat) : SumOk (one 9 r) := by
  refine sumOk_of (by unfold one; rw [List.length_map, List.length_range]) fun i hi => ?_
  rw [one_at r hi]
  split <;> decide
theorem proj_plus {j : Nat} (hj : j ≤ 8) {s t : Sum} (hs : SumOk s) (ht : SumOk t) : proj j (zip2 plus s t) = plus (proj j s) (proj j t) := by
  unfold proj
  rw [getD_zip hs.len ht.len (by omega), getD_zip hs.len ht.len (by omega)]
  by_cases h : j = 8
  · rw [if_pos h, if_pos h, if_pos h]
  · rw [if_neg h, if_neg h, if_neg h]
    unfold plus W
    omega
theorem proj_less {j : Nat} (hj : j ≤ 8) {s t : Sum} (hs : SumOk s) (ht : SumOk t) : proj j (zip2 less s t) = less (proj j s) (proj j t) := by
  unfold proj
  rw [getD_zip hs.len ht.len (by omega), getD_zip hs.len ht.len (by omega)]
  by_cases h : j = 8
  · rw [if_pos h, if_pos h, if_pos h]
  · rw [if_neg h, if_neg h, if_neg h]
    unfold plus less W
    omega
theorem proj_neg {j : Nat} (hj : j ≤ 8) {s : Sum} (hs : SumOk s) : proj j (s.map (less 0)) = less 0 (proj j s) := by
  unfold proj
  rw [getD_map hs.len (by omega), getD_map hs.len (by omega)]
  by_cases h : j = 8
  · rw [if_pos h, if_pos h]
  · rw [if_neg h, if_neg h]
    unfold plus less W
    omega
theorem proj_konst {j k : Nat} (hj : j ≤ 8) (hk : k < W) : proj j (konst 9 k) = k := by
  unfold proj
  rw [konst_at k (by omega), konst_at k (by omega)]
  by_cases h : j = 8
  · rw [if_pos h, if_pos rfl, Nat.mod_eq_of_lt hk]
  · rw [if_neg h, if_neg h, if_pos rfl]
    unfold plus
    rw [Nat.zero_add, Nat.mod_mod, Nat.mod_eq_of_lt hk]
theorem sumAt_set {S : List Sum} {a r : Nat} {s : Sum} (ha : a < S.length) : sumAt (S.set a s) r = if r = a then s else sumAt S r := by
  unfold sumAt
  rw [List.getD_eq_getElem?_getD, List.getElem?_set]
  by_cases h : a = r
  · rw [if_pos h, if_pos h.symm, if_pos ha]; rfl
  · rw [if_neg h, if_neg (fun z => h z.symm), List.getD_eq_getElem?_getD]
theorem regAt_set {x : Regs} {a r v : Nat} (ha : a < x.length) : at_ (x.set a v) r = if r = a then v else at_ x r := by
  unfold at_
  rw [List.getD_eq_getElem?_getD, List.getElem?_set]
  by_cases h : a = r
  · rw [if_pos h, if_pos h.symm, if_pos ha]; rfl
  · rw [if_neg h, if_neg (fun z => h z.symm), List.getD_eq_getElem?_getD]
theorem relJ_set {j : Nat} {S : List Sum} {x : Regs} (h : RelJ j S x) {a v : Nat} {s : Sum} (ha : a < 8) (ok : SumOk s) (e : v = proj j s) : RelJ j (S.set a s) (x.set a v) := by
  refine ⟨by rw [List.length_set]; exact h.lenS, by rw [List.length_set]; exact h.lenX, fun r hr => ?_⟩
  rw [sumAt_set (by rw [h.lenS]; exact ha), regAt_set (by rw [h.lenX]; exact ha)]
  by_cases q : r = a
  · rw [if_pos q, if_pos q]
    exact ⟨ok, e⟩
  · rw [if_neg q, if_neg q]
    exact h.at' r hr
theorem relJ_ins {j : Nat} (hj : j ≤ 8) {S : List Sum} {x : Regs} (h : RelJ j S x) {i : Ins} (ok : InsOk i) : RelJ j (doSum i.op i.a i.b (konst 9 i.k) S) (doIns x i) := by
  obtain ⟨ha, hb, hk⟩ := ok
  obtain ⟨sa, ea⟩ := h.at' i.a ha
  obtain ⟨sb, eb⟩ := h.at' i.b hb
  unfold doSum doIns
  cases i.op with
  | set => exact relJ_set h ha (konst_ok _) (proj_konst hj hk).symm
  | mov => exact relJ_set h ha sb eb
  | add => exact relJ_set h ha (sumOk_zip plus_lt sa sb) (by rw [proj_plus hj sa sb, ea, eb])
  | sub => exact relJ_set h ha (sumOk_zip less_lt sa sb) (by rw [proj_less hj sa sb, ea, eb])
  | adc => exact relJ_set h ha (sumOk_zip plus_lt sa (konst_ok _)) (by rw [proj_plus hj sa (konst_ok _), ea, proj_konst hj hk])
  | neg => exact relJ_set h ha (sumOk_map (less_lt 0) sa) (by rw [proj_neg hj sa, ea])
  | swp => exact relJ_set (relJ_set h ha sb eb) hb sa ea
/-- the j-th of the nine states (8: all 0) -/
def stJ (j : Nat) : Regs := (List.range 8).map fun i => if i = j then 1 else 0
theorem relJ_start {j : Nat} (hj : j ≤ 8) : RelJ j ((List.range REGS).map (one 9)) (stJ j) := by
  refine ⟨rfl, rfl, fun r hr => ?_⟩
  have e1 : sumAt ((List.range REGS).map (one 9)) r = one 9 r := by
    unfold sumAt
    rw [List.getD_eq_getElem?_getD, List.getElem?_map, List.getElem?_range (show r < REGS from hr)]
    rfl
  have e2 : at_ (stJ j) r = if r = j then 1 else 0 := by
    unfold at_ stJ
    rw [List.getD_eq_getElem?_getD, List.getElem?_map, List.getElem?_range hr]
    rfl
  rw [e1, e2]
  refine ⟨one_ok r, ?_⟩
  unfold proj
  rw [one_at r (by omega), one_at r (by omega)]
  by_cases q : j = 8
  · rw [if_pos q, if_neg (by omega), if_neg (by omega)]
  · rw [if_neg q, if_neg (show ¬ (8 = r) by omega)]
    unfold plus
    by_cases z : r = j
    · rw [if_pos z, if_pos z.symm]; rfl
    · rw [if_neg z, if_neg (fun y => z y.symm)]; rfl
theorem relJ_code {j : Nat} (hj : j ≤ 8) : ∀ {c : Code} {S : List Sum} {x : Regs}, CodeOk c → RelJ j S x → RelJ j (c.foldl (fun (s : List Sum) (i : Ins) => doSum i.op i.a i.b (konst 9 i.k) s) S) (c.foldl doIns x)
  | [], _, _, _, h => h
  | i :: c, _, _, ok, h => relJ_code hj (c := c) (fun k hk => ok k (List.mem_cons_of_mem _ hk)) (relJ_ins hj h (ok i (List.mem_cons_self ..)))
theorem relJ_forms {j : Nat} (hj : j ≤ 8) {c : Code} (ok : CodeOk c) : RelJ j (formsOf c) (runOf c (stJ j)) := relJ_code hj ok (relJ_start hj)
/-- a register's form, by nine runs -/
theorem forms_const {c : Code} (ok : CodeOk c) {r : Nat} (hr : r < 8) : (sumAt (formsOf c) r).getD 8 0 = at_ (runOf c (stJ 8)) r := by
  have h := ((relJ_forms (Nat.le_refl 8) ok).at' r hr).2
  rw [h]
  unfold proj
  rw [if_pos rfl]
theorem forms_at {c : Code} (ok : CodeOk c) {r j : Nat} (hr : r < 8) (hj : j < 8) : (sumAt (formsOf c) r).getD j 0 = less (at_ (runOf c (stJ j)) r) (at_ (runOf c (stJ 8)) r) := by
  obtain ⟨s, h⟩ := (relJ_forms (j := j) (by omega) ok).at' r hr
  rw [h, ← forms_const ok hr]
  have h1 := s.lt j
  have h2 := s.lt 8
  unfold proj
  rw [if_neg (by omega)]
  unfold less plus W
  unfold W at h1 h2
  omega
theorem forms_len {c : Code} (ok : CodeOk c) {r : Nat} (hr : r < 8) : (sumAt (formsOf c) r).length = 9 := ((relJ_forms (j := 8) (Nat.le_refl 8) ok).at' r hr).1.len
/-- the form as a list of nine -/
theorem forms_list {c : Code} (ok : CodeOk c) {r : Nat} (hr : r < 8) : sumAt (formsOf c) r = ((List.range 8).map fun j => less (at_ (runOf c (stJ j)) r) (at_ (runOf c (stJ 8)) r)) ++ [at_ (runOf c (stJ 8)) r] := by
  have hl := forms_len ok hr
  apply List.ext_getElem?
  intro i
  rcases Nat.lt_or_ge i 9 with q | q
  · have e : (sumAt (formsOf c) r)[i]? = some ((sumAt (formsOf c) r).getD i 0) := by
      rw [List.getD_eq_getElem?_getD, List.getElem?_eq_getElem (by omega)]
      rfl
    rw [e]
    rcases Nat.lt_or_ge i 8 with z | z
    · rw [forms_at ok hr z, List.getElem?_append_left (by simp; omega), List.getElem?_map, List.getElem?_range z]
      rfl
    · have e8 : i = 8 := by omega
      subst e8
      rw [forms_const ok hr]
      rfl
  · rw [List.getElem?_eq_none (by omega), List.getElem?_eq_none (by simp; omega)]
theorem states_eq : states = stJ 8 :: (List.range 8).map stJ := by decide +kernel
end Pb

/-! Rules put to work: what stays, what grows less. -/
namespace Pb
open PeCode PeRule
theorem bindReg_at {b b' : Bound} {n r : Nat} (hb : b.regs.length = 4) (hn : n < 4) (e : bindReg b n r = some b') : b'.regs.getD n NONE = r ∧ (∀ m, m < 4 → b.regs.getD m NONE ≠ NONE → b'.regs.getD m NONE = b.regs.getD m NONE) ∧ b'.x = b.x ∧ b'.y = b.y := by
  unfold bindReg at e
  split at e
  · rename_i h
    rw [← Option.some.inj e]
    exact ⟨h, fun _ _ _ => rfl, rfl, rfl⟩
  · split at e
    · rename_i h1 h2
      rw [← Option.some.inj e]
      refine ⟨?_, fun m hm hne => ?_, rfl, rfl⟩
      · show (b.regs.set n r).getD n NONE = r
        rw [List.getD_eq_getElem?_getD, List.getElem?_set_self (by omega)]
        rfl
      · show (b.regs.set n r).getD m NONE = _
        have hmn : n ≠ m := fun z => by rw [← z] at hne; exact hne h2.1
        rw [List.getD_eq_getElem?_getD, List.getElem?_set_ne hmn, List.getD_eq_getElem?_getD]
    · cases e
/-- what a fit has put stays put -/
def Keeps (b b' : Bound) : Prop := ∀ m, m < 4 → b.regs.getD m NONE ≠ NONE → b'.regs.getD m NONE = b.regs.getD m NONE
theorem Keeps.refl (b : Bound) : Keeps b b := fun _ _ _ => rfl
theorem Keeps.trans {a b c : Bound} (h : Keeps a b) (g : Keeps b c) : Keeps a c := fun m hm hn => by
  have h1 := h m hm hn
  rw [g m hm (by rw [h1]; exact hn), h1]
theorem bindIns_keeps {b b' : Bound} {p : Pat} {i : Ins} (hb : BoundOk b) (hp : PatOk p) (hi : InsOk i) (e : bindIns b p i = some b') : Keeps b b' ∧ p.op = i.op ∧ ∀ n ∈ p.names, b'.regs.getD n NONE < 8 := by
  unfold bindIns at e
  split at e
  · cases e
  · rename_i hop
    have hop2 : p.op = i.op := Classical.not_not.mp hop
    cases h1 : bindReg b p.a i.a with
    | none => rw [h1] at e; cases e
    | some c =>
      rw [h1] at e
      have k1 := bindReg_at hb.1 hp.1 h1
      have hc := bindReg_ok hb h1
      have e2 : ((if p.op.two = true then bindReg c p.b i.b else some c).bind fun (d : Bound) =>
        if p.op.con = false then some d else if p.con.x = 1 then (bindNum d.x i.k).map fun (x : Option Nat) => { d with x := x } else if p.con.y = 1 then (bindNum d.y i.k).map fun (y : Option Nat) => { d with y := y } else if p.con.k = i.k then some d else none) = some b' := e
      have last : ∀ d : Bound, (if p.op.con = false then some d else if p.con.x = 1 then (bindNum d.x i.k).map fun (x : Option Nat) => { d with x := x } else if p.con.y = 1 then (bindNum d.y i.k).map fun (y : Option Nat) => { d with y := y } else if p.con.k = i.k then some d else none) = some b' → b'.regs = d.regs := fun d h => by
        split at h
        · rw [← Option.some.inj h]
        · split at h
          · cases hx : bindNum d.x i.k with
            | none => rw [hx] at h; cases h
            | some o => rw [hx] at h; rw [← Option.some.inj h]
          · split at h
            · cases hx : bindNum d.y i.k with
              | none => rw [hx] at h; cases h
              | some o => rw [hx] at h; rw [← Option.some.inj h]
            · split at h
              · rw [← Option.some.inj h]
              · cases h
      cases ht : p.op.two with
      | true =>
        rw [ht, if_pos rfl] at e2
        cases h2 : bindReg c p.b i.b with
        | none => rw [h2] at e2; cases e2
        | some d =>
          rw [h2] at e2
          have k2 := bindReg_at hc.1 hp.2.1 h2
          have e3 := last d e2
          refine ⟨fun m hm hn => ?_, hop2, fun n hn => ?_⟩
          · rw [e3]
            exact (Keeps.trans k1.2.1 k2.2.1) m hm hn
          · unfold Pat.names at hn
            rw [if_pos ht] at hn
            rw [e3]
            rcases List.mem_cons.mp hn with rfl | hn
            · rw [k2.2.1 p.a hp.1 (by rw [k1.1]; have := hi.1; unfold NONE; omega), k1.1]
              exact hi.1
            · rw [List.mem_singleton.mp hn, k2.1]
              exact hi.2.1
      | false =>
        rw [ht, if_neg Bool.false_ne_true] at e2
        have e3 := last c e2
        refine ⟨fun m hm hn => ?_, hop2, fun n hn => ?_⟩
        · rw [e3]
          exact k1.2.1 m hm hn
        · unfold Pat.names at hn
          rw [if_neg (by rw [ht]; exact Bool.false_ne_true)] at hn
          rw [List.mem_singleton.mp hn, e3, k1.1]
          exact hi.1
theorem bindIns_bound {b b' : Bound} {p : Pat} {i : Ins} (h : BoundOk b) (hi : InsOk i) (e : bindIns b p i = some b') : BoundOk b' := by
  unfold bindIns at e
  split at e
  · cases e
  · cases h1 : bindReg b p.a i.a with
    | none => rw [h1] at e; cases e
    | some c =>
      rw [h1] at e
      have hc := bindReg_ok h h1
      have num : ∀ (o o' : Option Nat), (∀ x, o = some x → x < W) → bindNum o i.k = some o' → ∀ x, o' = some x → x < W := fun o o' ho e x hx => by
        unfold bindNum at e
        cases o with
        | none =>
          rw [← Option.some.inj e] at hx
          rw [← Option.some.inj hx]
          exact hi.2.2
        | some j =>
          dsimp only at e
          split at e
          · rw [← Option.some.inj e] at hx
            exact ho x hx
          · cases e
      have last : ∀ d : Bound, BoundOk d → (if p.op.con = false then some d else if p.con.x = 1 then (bindNum d.x i.k).map fun (x : Option Nat) => { d with x := x } else if p.con.y = 1 then (bindNum d.y i.k).map fun (y : Option Nat) => { d with y := y } else if p.con.k = i.k then some d else none) = some b' → BoundOk b' := fun d hd h => by
        split at h
        · rw [← Option.some.inj h]; exact hd
        · split at h
          · cases hx : bindNum d.x i.k with
            | none => rw [hx] at h; cases h
            | some o => rw [hx] at h; rw [← Option.some.inj h]; exact ⟨hd.1, num _ _ hd.2.1 hx, hd.2.2⟩
          · split at h
            · cases hx : bindNum d.y i.k with
              | none => rw [hx] at h; cases h
              | some o => rw [hx] at h; rw [← Option.some.inj h]; exact ⟨hd.1, hd.2.1, num _ _ hd.2.2 hx⟩
            · split at h
              · rw [← Option.some.inj h]; exact hd
              · cases h
      have e2 : ((if p.op.two = true then bindReg c p.b i.b else some c).bind fun (d : Bound) =>
        if p.op.con = false then some d else if p.con.x = 1 then (bindNum d.x i.k).map fun (x : Option Nat) => { d with x := x } else if p.con.y = 1 then (bindNum d.y i.k).map fun (y : Option Nat) => { d with y := y } else if p.con.k = i.k then some d else none) = some b' := e
      cases ht : p.op.two with
      | true =>
        rw [ht, if_pos rfl] at e2
        cases h2 : bindReg c p.b i.b with
        | none => rw [h2] at e2; cases e2
        | some d => rw [h2] at e2; exact last d (bindReg_ok hc h2) e2
      | false =>
        rw [ht, if_neg Bool.false_ne_true] at e2
        exact last c hc e2
theorem bindAll_ok : ∀ {l : List Pat} {c : Code} {b b' : Bound}, BoundOk b → (∀ p ∈ l, PatOk p) → CodeOk c → bindAll b l c = some b' →
    BoundOk b' ∧ Keeps b b' ∧ l.length ≤ c.length ∧ (c.take l.length).map (fun i => i.op) = l.map (fun p => p.op) ∧ ∀ n ∈ namesIn l, b'.regs.getD n NONE < 8
  | [], c, b, b', hb, _, _, e => by
    have e2 : b = b' := Option.some.inj e
    rw [← e2]
    exact ⟨hb, Keeps.refl b, Nat.zero_le _, rfl, fun n hn => by cases hn⟩
  | _ :: _, [], _, _, _, _, _, e => by cases e
  | p :: l, i :: c, b, b', hb, hp, hc, e => by
    have e2 : (bindIns b p i).bind (fun d => bindAll d l c) = some b' := e
    cases h : bindIns b p i with
    | none => rw [h] at e2; cases e2
    | some d =>
      rw [h] at e2
      have hpp := hp p (List.mem_cons_self ..)
      have hii := hc i (List.mem_cons_self ..)
      have k1 := bindIns_keeps hb hpp hii h
      have k2 := bindAll_ok (bindIns_bound hb hii h) (fun q hq => hp q (List.mem_cons_of_mem _ hq)) (fun j hj => hc j (List.mem_cons_of_mem _ hj)) e2
      obtain ⟨a1, a2, a3, a4, a5⟩ := k2
      refine ⟨a1, k1.1.trans a2, by rw [List.length_cons, List.length_cons]; omega, ?_, fun n hn => ?_⟩
      · show i.op :: (c.take l.length).map _ = p.op :: l.map _
        rw [a4, k1.2.1]
      · have hn2 : n ∈ p.names ++ namesIn l := hn
        rcases List.mem_append.mp hn2 with hn2 | hn2
        · have h8 := k1.2.2 n hn2
          have hn4 : n < 4 := by
            unfold Pat.names at hn2
            split at hn2
            · rcases List.mem_cons.mp hn2 with rfl | hn2
              · exact hpp.1
              · rw [List.mem_singleton.mp hn2]; exact hpp.2.1
            · rw [List.mem_singleton.mp hn2]; exact hpp.1
          rw [a2 n hn4 (by intro z; rw [z] at h8; exact absurd h8 (by decide))]
          exact h8
        · exact a5 n hn2
/-- a rule that may be held -/
def RuleHeld (r : Rule) : Prop := RuleOk r ∧ r.formed = true ∧ r.cheaper = true
theorem RuleHeld.names {r : Rule} (h : RuleHeld r) : ∀ n ∈ namesIn r.right, n ∈ namesIn r.left := by
  have f := h.2.1
  unfold Rule.formed at f
  simp only [Bool.and_eq_true] at f
  intro n hn
  have := List.all_eq_true.mp f.2.2.2.1 n hn
  exact List.contains_iff_mem.mp this
theorem RuleHeld.lens {r : Rule} (h : RuleHeld r) : 1 ≤ r.left.length ∧ r.left.length ≤ 4 ∧ r.right.length ≤ r.left.length := by
  have f := h.2.1
  unfold Rule.formed at f
  simp only [Bool.and_eq_true, decide_eq_true_eq] at f
  exact ⟨f.1, f.2.1, f.2.2.1⟩
theorem costOf_append (a b : Code) : costOf (a ++ b) = costOf a + costOf b := by
  rw [costOf_sum, costOf_sum, costOf_sum, List.map_append, List.sum_append_nat]
theorem cost_ops (c : Code) : costOf c = ((c.map fun i => i.op).map fun o => o.cost).sum := by
  rw [costOf_sum, List.map_map]
  rfl
theorem side_ops (l : List Pat) : sideCost l = ((l.map fun p => p.op).map fun o => o.cost).sum := by
  rw [sideCost_sum, List.map_map]
  rfl
theorem putIn_ops (l : List Pat) (rs : List Nat) (x y : Nat) : (putIn l rs x y).map (fun i => i.op) = l.map fun p => p.op := by
  unfold putIn
  rw [List.map_map]
  rfl
theorem put_ok {r : Rule} {b : Bound} (h : RuleHeld r) (hb : ∀ n ∈ namesIn r.left, b.regs.getD n NONE < 8) : CodeOk (put r b) := by
  intro i hi
  unfold put putIn at hi
  obtain ⟨p, hp, rfl⟩ := List.mem_map.mp hi
  have g : ∀ n, b.regs.getD n NONE < 8 → b.regs.getD n 0 < 8 := fun n hn => by
    rw [List.getD_eq_getElem?_getD] at hn ⊢
    cases e : b.regs[n]? with
    | none => show 0 < 8; decide
    | some k => rw [e] at hn; exact hn
  have mem : ∀ n ∈ p.names, b.regs.getD n NONE < 8 := fun n hn => hb n (h.names n (List.mem_flatMap.mpr ⟨p, hp, hn⟩))
  refine ⟨g _ (mem p.a ?_), ?_, ?_⟩
  · unfold Pat.names
    split
    · exact List.mem_cons_self ..
    · exact List.mem_cons_self ..
  · show (if p.op.two = true then b.regs.getD p.b 0 else 0) < 8
    split
    · rename_i ht
      refine g _ (mem p.b ?_)
      unfold Pat.names
      rw [if_pos ht]
      simp
    · decide
  · show (if p.op.con = true then value p.con (b.x.getD 0) (b.y.getD 0) else 0) < W
    split
    · exact plus_lt ..
    · decide
/-- a rule put to work: the code's instructions are right, it's no longer, it costs less -/
theorem worked_ok {r : Rule} {c d : Code} {p : Nat} (h : RuleHeld r) (hc : CodeOk c) (e : worked r c p = some d) : CodeOk d ∧ d.length ≤ c.length ∧ costOf d < costOf c ∧ p < c.length := by
  unfold worked at e
  cases hf : fits r (c.drop p) with
  | none => rw [hf] at e; cases e
  | some b =>
    rw [hf] at e
    have ed : c.take p ++ (put r b ++ c.drop (p + r.left.length)) = d := Option.some.inj e
    unfold fits at hf
    have hcd : CodeOk (c.drop p) := fun i hi => hc i (List.mem_of_mem_drop hi)
    obtain ⟨b1, b2, b3, b4, b5⟩ := bindAll_ok (b := B0) B0_ok (fun q hq => (h.1.1 q hq).1) hcd hf
    have hl := h.lens
    rw [List.length_drop] at b3
    have nput : (put r b).length = r.right.length := by
      unfold put putIn
      rw [List.length_map]
    have split1 : costOf c = costOf (c.take p) + (costOf ((c.drop p).take r.left.length) + costOf (c.drop (p + r.left.length))) := by
      rw [← costOf_append, ← costOf_append]
      congr 1
      rw [← List.drop_drop, List.take_append_drop, List.take_append_drop]
    have c1 : costOf ((c.drop p).take r.left.length) = sideCost r.left := by rw [cost_ops, b4, side_ops]
    have c2 : costOf (put r b) = sideCost r.right := by
      unfold put
      rw [cost_ops, putIn_ops, side_ops]
    have ch : sideCost r.right < sideCost r.left := of_decide_eq_true h.2.2
    refine ⟨?_, ?_, ?_, by omega⟩
    · rw [← ed]
      intro i hi
      rcases List.mem_append.mp hi with hi | hi
      · exact hc i (List.mem_of_mem_take hi)
      · rcases List.mem_append.mp hi with hi | hi
        · exact put_ok h b5 i hi
        · exact hc i (List.mem_of_mem_drop hi)
    · rw [← ed, List.length_append, List.length_append, List.length_take, List.length_drop, nput]
      omega
    · rw [← ed, costOf_append, costOf_append, c2, split1, c1]
      omega
/-! ### rules held -/
def RulesOk (rs : Rules) : Prop := ∀ k r, rs.getD k none = some r → RuleHeld r
theorem firstAt_some {rs : Rules} {c d : Code} {p k : Nat} (e : firstAt rs c p = some (k, d)) : ∃ r, rs.getD k none = some r ∧ worked r c p = some d := by
  unfold firstAt at e
  obtain ⟨j, _, hj⟩ := List.exists_of_findSome?_eq_some e
  cases hr : rs.getD j none with
  | none => rw [hr] at hj; cases hj
  | some r =>
    rw [hr] at hj
    have hj2 : (worked r c p).map (fun d => (j, d)) = some (k, d) := hj
    cases hw : worked r c p with
    | none => rw [hw] at hj2; cases hj2
    | some d' =>
      rw [hw] at hj2
      have e2 := Option.some.inj hj2
      injection e2 with e3 e4
      subst e3 e4
      exact ⟨r, hr, hw⟩
theorem stepOf_some {rs : Rules} {c d : Code} {p k : Nat} (e : stepOf rs c = some (k, p, d)) : firstAt rs c p = some (k, d) := by
  unfold stepOf at e
  obtain ⟨j, _, hj⟩ := List.exists_of_findSome?_eq_some e
  cases hf : firstAt rs c j with
  | none => rw [hf] at hj; cases hj
  | some x =>
    rw [hf] at hj
    have e2 : (x.1, j, x.2) = (k, p, d) := Option.some.inj hj
    injection e2 with e3 e4
    injection e4 with e5 e6
    subst e3 e5 e6
    exact hf
theorem stepOf_ok {rs : Rules} {c d : Code} {p k : Nat} (hr : RulesOk rs) (hc : CodeOk c) (e : stepOf rs c = some (k, p, d)) : CodeOk d ∧ d.length ≤ c.length ∧ costOf d < costOf c ∧ p < c.length := by
  obtain ⟨r, h1, h2⟩ := firstAt_some (stepOf_some e)
  exact worked_ok (hr k r h1) hc h2
/-- more steps let than can be made are no more -/
theorem runAll_fuel {rs : Rules} (hr : RulesOk rs) : ∀ (n m : Nat) (c : Code), CodeOk c → costOf c < n → costOf c < m → runAll rs n c = runAll rs m c
  | 0, _, _, _, h, _ => absurd h (Nat.not_lt_zero _)
  | _ + 1, 0, _, _, _, h => absurd h (Nat.not_lt_zero _)
  | n + 1, m + 1, c, hc, h1, h2 => by
    show (match stepOf rs c with
      | none => ([], c)
      | some (k, p, d) => ((k, p) :: (runAll rs n d).1, (runAll rs n d).2)) = (match stepOf rs c with
      | none => ([], c)
      | some (k, p, d) => ((k, p) :: (runAll rs m d).1, (runAll rs m d).2))
    cases e : stepOf rs c with
    | none => rfl
    | some x =>
      obtain ⟨k, p, d⟩ := x
      dsimp only
      obtain ⟨h3, _, h4, _⟩ := stepOf_ok hr hc e
      rw [runAll_fuel hr n m d h3 (by omega) (by omega)]
/-- a run of enough steps, step by step -/
def runC (rs : Rules) (c : Code) : List (Nat × Nat) × Code := runAll rs (costOf c + 1) c
theorem runC_none {rs : Rules} {c : Code} (e : stepOf rs c = none) : runC rs c = ([], c) := by
  unfold runC
  show (match stepOf rs c with
    | none => ([], c)
    | some (k, p, d) => ((k, p) :: (runAll rs (costOf c) d).1, (runAll rs (costOf c) d).2)) = _
  rw [e]
theorem runC_some {rs : Rules} {c d : Code} {k p : Nat} (hr : RulesOk rs) (hc : CodeOk c) (e : stepOf rs c = some (k, p, d)) : runC rs c = ((k, p) :: (runC rs d).1, (runC rs d).2) := by
  unfold runC
  show (match stepOf rs c with
    | none => ([], c)
    | some (k, p, d) => ((k, p) :: (runAll rs (costOf c) d).1, (runAll rs (costOf c) d).2)) = _
  rw [e]
  dsimp only
  obtain ⟨h3, _, h4, _⟩ := stepOf_ok hr hc e
  rw [runAll_fuel hr (costOf c) (costOf d + 1) d h3 h4 (by omega)]
end Pb

/-! Code whose unused parts are 0: its text tells it. The rules held, by their rising numbers. -/
namespace Pb
open PeCode PeRule
def InsN (i : Ins) : Prop := (i.op.two = false → i.b = 0) ∧ (i.op.con = false → i.k = 0)
def CodeN (c : Code) : Prop := ∀ i ∈ c, InsN i
theorem insOf_n {l : Bytes} {i : Ins} (h : insOf l = some i) : InsN i := by
  unfold insOf at h
  match piecesAt 32 l, h with
  | [], h => cases h
  | w :: r, h =>
    dsimp only at h
    cases ho : opOf w with
    | none => rw [ho] at h; cases h
    | some o =>
      rw [ho] at h
      match r, h with
      | [], h => cases h
      | [a], h =>
        dsimp only at h
        split at h
        · cases ha : regOf a with
          | none => rw [ha] at h; cases h
          | some x =>
            rw [ha] at h
            rw [← Option.some.inj h]
            exact ⟨fun _ => rfl, fun _ => rfl⟩
        · cases h
      | [a, b], h =>
        dsimp only at h
        split at h
        · rename_i ht
          cases ha : regOf a with
          | none => rw [ha] at h; cases h
          | some x =>
            cases hb : regOf b with
            | none => rw [ha, hb] at h; cases h
            | some y =>
              rw [ha, hb] at h
              rw [← Option.some.inj h]
              exact ⟨fun z => absurd (ht.symm.trans z) (by decide), fun _ => rfl⟩
        · split at h
          · rename_i hc
            cases ha : regOf a with
            | none => rw [ha] at h; cases h
            | some x =>
              cases hb : numOf b with
              | none => rw [ha, hb] at h; cases h
              | some k =>
                rw [ha, hb] at h
                rw [← Option.some.inj h]
                exact ⟨fun _ => rfl, fun z => absurd (hc.symm.trans z) (by decide)⟩
          · cases h
      | a :: b :: c :: r, h => cases h
theorem readCode_n {t : Bytes} {c : Code} (h : readCode t = .ok c) : CodeN c := by
  unfold readCode at h
  cases hl : linesOf t with
  | error k =>
    rw [hl] at h
    dsimp only at h
    cases hr : readEach insOf 0 ((piecesAt 10 t).dropLast) with
    | error i => rw [hr] at h; cases h
    | ok c => rw [hr] at h; cases h
  | ok l =>
    rw [hl] at h
    intro i hi
    obtain ⟨x, _, hx⟩ := (readEach_mem h).1 i hi
    exact insOf_n hx
theorem putIn_n (ps : List Pat) (rs : List Nat) (x y : Nat) : CodeN (putIn ps rs x y) := by
  intro i hi
  unfold putIn at hi
  obtain ⟨p, hp, rfl⟩ := List.mem_map.mp hi
  exact ⟨fun z => if_neg (by show ¬ p.op.two = true; rw [show p.op.two = false from z]; decide), fun z => if_neg (by show ¬ p.op.con = true; rw [show p.op.con = false from z]; decide)⟩
theorem worked_n {r : Rule} {c d : Code} {p : Nat} (hc : CodeN c) (e : worked r c p = some d) : CodeN d := by
  unfold worked at e
  cases hf : fits r (c.drop p) with
  | none => rw [hf] at e; cases e
  | some b =>
    rw [hf] at e
    rw [← Option.some.inj e]
    intro i hi
    rcases List.mem_append.mp hi with hi | hi
    · exact hc i (List.mem_of_mem_take hi)
    · rcases List.mem_append.mp hi with hi | hi
      · exact putIn_n _ _ _ _ i hi
      · exact hc i (List.mem_of_mem_drop hi)
theorem stepOf_n {rs : Rules} {c d : Code} {p k : Nat} (hc : CodeN c) (e : stepOf rs c = some (k, p, d)) : CodeN d := by
  obtain ⟨r, _, h2⟩ := firstAt_some (stepOf_some e)
  exact worked_n hc h2
/-! texts tell -/
theorem word_inj {o p : Op} (h : o.word = p.word) : o = p := by
  revert h
  cases o <;> cases p <;> decide +kernel
theorem ofNat_small {a b : Nat} (ha : a < 200) (hb : b < 200) (h : UInt8.ofNat (48 + a) = UInt8.ofNat (48 + b)) : a = b ∨ 56 ≤ max a b := by
  have e := congrArg UInt8.toNat h
  rw [UInt8.toNat_ofNat', UInt8.toNat_ofNat'] at e
  omega
theorem regText_inj {a b : Nat} (ha : a < 8) (hb : b < 8) (h : regText a = regText b) : a = b := by
  unfold regText at h
  injection h with _ h
  injection h with h _
  rcases ofNat_small (by omega) (by omega) h with e | e
  · exact e
  · omega
theorem val_decimal : ∀ n : Nat, val (decimal n) = n := by
  intro n
  induction n using Nat.strongRecOn with
  | _ n ih =>
    rcases Nat.lt_or_ge n 10 with h | h
    · rw [decimal_lt h, show [UInt8.ofNat (48 + n)] = [] ++ [UInt8.ofNat (48 + n)] from rfl, val_snoc, UInt8.toNat_ofNat']
      show 10 * 0 + _ = n
      omega
    · rw [decimal_step h, val_snoc, ih (n / 10) (by omega), UInt8.toNat_ofNat']
      omega
theorem decimal_inj {n m : Nat} (h : decimal n = decimal m) : n = m := by
  rw [← val_decimal n, h, val_decimal]
theorem decimal_no10 : ∀ n : Nat, (10 : UInt8) ∉ decimal n := by
  intro n
  have key : ∀ k, k < 10 → (10 : UInt8) ≠ UInt8.ofNat (48 + k) := by decide +kernel
  induction n using Nat.strongRecOn with
  | _ n ih =>
    rcases Nat.lt_or_ge n 10 with h | h
    · rw [decimal_lt h]
      intro hm
      exact key n h (by simpa using hm)
    · rw [decimal_step h]
      intro hm
      rcases List.mem_append.mp hm with hm | hm
      · exact ih (n / 10) (by omega) hm
      · exact key (n % 10) (by omega) (by simpa using hm)
theorem regText_no10 : ∀ a : Nat, a < 8 → (10 : UInt8) ∉ regText a := by decide +kernel
theorem word_no10 (o : Op) : (10 : UInt8) ∉ o.word := by cases o <;> decide +kernel
theorem text_no10 {i : Ins} (ok : InsOk i) : (10 : UInt8) ∉ i.text := by
  unfold Ins.text
  intro h
  rcases List.mem_append.mp h with h | h
  · exact word_no10 _ h
  · rcases List.mem_cons.mp h with h | h
    · exact absurd h (by decide)
    · rcases List.mem_append.mp h with h | h
      · exact regText_no10 _ ok.1 h
      · rcases List.mem_append.mp h with h | h
        · split at h
          · rcases List.mem_cons.mp h with h | h
            · exact absurd h (by decide)
            · exact regText_no10 _ ok.2.1 h
          · cases h
        · split at h
          · rcases List.mem_cons.mp h with h | h
            · exact absurd h (by decide)
            · exact decimal_no10 _ h
          · cases h
theorem text_inj {i j : Ins} (oi : InsOk i) (oj : InsOk j) (ni : InsN i) (nj : InsN j) (h : i.text = j.text) : i = j := by
  unfold Ins.text at h
  obtain ⟨h1, h2⟩ := List.append_inj h (by rw [word_len, word_len])
  have e1 := word_inj h1
  injection h2 with _ h2
  obtain ⟨h3, h4⟩ := List.append_inj h2 rfl
  have e2 := regText_inj oi.1 oj.1 h3
  obtain ⟨o, a, b, k⟩ := i
  obtain ⟨o', a', b', k'⟩ := j
  dsimp only at *
  subst e1 e2
  cases ht : o.two with
  | true =>
    have hc : o.con = false := by
      revert ht
      cases o <;> decide
    rw [ht, hc, if_pos rfl, if_neg (by decide), if_pos rfl, if_neg (by decide), List.append_nil, List.append_nil] at h4
    injection h4 with _ h4
    have e3 := regText_inj oi.2.1 oj.2.1 h4
    have e4 : k = k' := (ni.2 hc).trans (nj.2 hc).symm
    dsimp only at e3
    rw [e3, e4]
  | false =>
    have e3 : b = b' := (ni.1 ht).trans (nj.1 ht).symm
    cases hc : o.con with
    | true =>
      rw [ht, hc, if_neg (by decide), if_pos rfl, if_neg (by decide), if_pos rfl] at h4
      injection h4 with _ h4
      rw [e3, decimal_inj h4]
    | false =>
      have e4 : k = k' := (ni.2 hc).trans (nj.2 hc).symm
      rw [e3, e4]
theorem cut_at {c : UInt8} : ∀ {a b x y : Bytes}, c ∉ a → c ∉ b → a ++ c :: x = b ++ c :: y → a = b ∧ x = y
  | [], [], x, y, _, _, h => by
    injection h with _ h
    exact ⟨rfl, h⟩
  | [], q :: b, x, y, _, hb, h => by
    injection h with h _
    exact absurd (List.mem_cons.mpr (.inl h)) hb
  | p :: a, [], x, y, ha, _, h => by
    injection h with h _
    exact absurd (List.mem_cons.mpr (.inl h.symm)) ha
  | p :: a, q :: b, x, y, ha, hb, h => by
    injection h with h1 h2
    obtain ⟨e1, e2⟩ := cut_at (fun z => ha (List.mem_cons_of_mem _ z)) (fun z => hb (List.mem_cons_of_mem _ z)) h2
    exact ⟨by rw [h1, e1], e2⟩
theorem codeText_cons (i : Ins) (c : Code) : codeText (i :: c) = i.text ++ 10 :: codeText c := by
  unfold codeText
  rw [List.flatMap_cons, List.append_assoc]
  rfl
theorem codeText_inj : ∀ {c d : Code}, CodeOk c → CodeOk d → CodeN c → CodeN d → codeText c = codeText d → c = d
  | [], [], _, _, _, _, _ => rfl
  | [], j :: d, _, _, _, _, h => by
    rw [codeText_cons] at h
    have e := congrArg List.length h
    rw [List.length_append, List.length_cons] at e
    have e0 : (codeText []).length = 0 := rfl
    omega
  | i :: c, [], _, _, _, _, h => by
    rw [codeText_cons] at h
    have e := congrArg List.length h
    rw [List.length_append, List.length_cons] at e
    have e0 : (codeText []).length = 0 := rfl
    omega
  | i :: c, j :: d, o1, o2, n1, n2, h => by
    rw [codeText_cons, codeText_cons] at h
    obtain ⟨e1, e2⟩ := cut_at (text_no10 (o1 i (List.mem_cons_self ..))) (text_no10 (o2 j (List.mem_cons_self ..))) h
    rw [text_inj (o1 i (List.mem_cons_self ..)) (o2 j (List.mem_cons_self ..)) (n1 i (List.mem_cons_self ..)) (n2 j (List.mem_cons_self ..)) e1,
      codeText_inj (fun x hx => o1 x (List.mem_cons_of_mem _ hx)) (fun x hx => o2 x (List.mem_cons_of_mem _ hx)) (fun x hx => n1 x (List.mem_cons_of_mem _ hx)) (fun x hx => n2 x (List.mem_cons_of_mem _ hx)) e2]
theorem cost_le (c : Code) : costOf c ≤ 4 * c.length := by
  rw [costOf_sum]
  refine sum_le fun i _ => ?_
  cases i.op <;> decide
/-! what is held: code with its steps -/
structure HeldOk (h : PeepSpec.Held) : Prop where
  ok : CodeOk h.code
  nm : CodeN h.code
  short : h.code.length ≤ 128
  all : h.steps.length + costOf h.code ≤ 512
theorem HeldOk.none : HeldOk ⟨[], []⟩ := ⟨(fun i h => by cases h), (fun i h => by cases h), by decide, by decide⟩
theorem HeldOk.fresh {c : Code} (h1 : CodeOk c) (h2 : CodeN c) (h3 : c.length ≤ 128) : HeldOk ⟨c, []⟩ := ⟨h1, h2, h3, by
  have := cost_le c
  show 0 + costOf c ≤ 512
  omega⟩
theorem HeldOk.step {h : PeepSpec.Held} {d : Code} (o : HeldOk h) (k i : Nat) (h1 : CodeOk d) (h2 : CodeN d) (h3 : d.length ≤ h.code.length) (h4 : costOf d < costOf h.code) : HeldOk ⟨d, h.steps ++ [(k, i)]⟩ := ⟨h1, h2, Nat.le_trans h3 o.short, by
  have := o.all
  show (h.steps ++ [(k, i)]).length + costOf d ≤ 512
  rw [List.length_append]
  show h.steps.length + 1 + _ ≤ 512
  omega⟩
theorem HeldOk.same {h g : PeepSpec.Held} (o : HeldOk h) (p : HeldOk g) : h = g ↔ h.steps = g.steps ∧ codeText h.code = codeText g.code := by
  constructor
  · rintro rfl
    exact ⟨rfl, rfl⟩
  · rintro ⟨e1, e2⟩
    have e3 := codeText_inj o.ok p.ok o.nm p.nm e2
    cases h
    cases g
    dsimp only at e1 e3
    rw [e1, e3]
/-! the rules held, by rising numbers -/
def keysOf (rs : Rules) : List Nat := (List.range rs.length).filter fun k => (rs.getD k none).isSome
theorem mem_keys {rs : Rules} {k : Nat} : k ∈ keysOf rs ↔ (rs.getD k none).isSome = true := by
  unfold keysOf
  rw [List.mem_filter, List.mem_range]
  constructor
  · exact fun h => h.2
  · intro h
    refine ⟨?_, h⟩
    rcases Nat.lt_or_ge k rs.length with q | q
    · exact q
    · rw [List.getD_eq_getElem?_getD, List.getElem?_eq_none q] at h
      cases h
theorem keys_nodup (rs : Rules) : (keysOf rs).Nodup := List.Pairwise.filter _ List.nodup_range
theorem keys_sorted (rs : Rules) : (keysOf rs).Pairwise (· < ·) := List.Pairwise.filter _ List.pairwise_lt_range
theorem keys_count (rs : Rules) : (keysOf rs).length ≤ rs.length := by
  unfold keysOf
  exact Nat.le_trans (List.length_filter_le ..) (by rw [List.length_range]; exact Nat.le_refl _)
theorem findSome_filter {α β : Type} {f : α → Option β} {p : α → Bool} : ∀ {l : List α}, (∀ x ∈ l, p x = false → f x = none) → (l.filter p).findSome? f = l.findSome? f
  | [], _ => rfl
  | x :: l, h => by
    have ih := findSome_filter (l := l) fun y hy => h y (List.mem_cons_of_mem _ hy)
    cases hp : p x with
    | true =>
      rw [List.filter_cons_of_pos hp, List.findSome?_cons, List.findSome?_cons, ih]
    | false =>
      rw [List.filter_cons_of_neg (by rw [hp]; decide), ih, List.findSome?_cons, h x (List.mem_cons_self ..) hp]
abbrev atKey (rs : Rules) (c : Code) (p k : Nat) : Option (Nat × Code) := (rs.getD k none).bind fun r => (worked r c p).map fun d => (k, d)
theorem firstAt_keys (rs : Rules) (c : Code) (p : Nat) : firstAt rs c p = (keysOf rs).findSome? (atKey rs c p) := by
  unfold firstAt keysOf
  refine (findSome_filter fun k _ hk => ?_).symm
  cases h : rs.getD k none with
  | none => rfl
  | some r => rw [h] at hk; cases hk
theorem findSome_drop {α β : Type} {f : α → Option β} {l : List α} {i : Nat} {x : α} (h : l[i]? = some x) : (l.drop i).findSome? f = match f x with
    | some y => some y
    | none => (l.drop (i + 1)).findSome? f := by
  have hi : i < l.length := (List.getElem?_eq_some_iff.mp h).1
  have e : l[i] = x := (List.getElem?_eq_some_iff.mp h).2
  rw [List.drop_eq_getElem_cons hi, List.findSome?_cons, e]
  cases f x <;> rfl
abbrev atPlace (rs : Rules) (c : Code) (p : Nat) : Option (Nat × Nat × Code) := (firstAt rs c p).map fun x => (x.1, p, x.2)
theorem stepOf_place (rs : Rules) (c : Code) : stepOf rs c = (List.range c.length).findSome? (atPlace rs c) := rfl
end Pb

set_option Elab.async false
set_option linter.all false
set_option maxRecDepth 100000
set_option maxHeartbeats 4000000
namespace Pb
open PySem PySem.Spec PyProof.Rows L2 Evl PbX
/-! ### what code and rules lean on -/
def firmF : List (List Str) := [["word", "first", "second"], ["number", "times_x", "times_y"], ["left", "right", "text"], ["instructions", "worked"], ["before", "undone"]]
def Firm : HO → Prop
  | .lst _ => True
  | .tup _ => True
  | .ins _ _ fs => firmF.contains (fs.map (·.1)) = true
  | _ => False
/-- lists, instructions, constants and rules stand -/
def ExQ (H H' : Hp) : Prop := ∀ b o, Firm o → H b = some o → H' b = some o
theorem ExQ.refl (H : Hp) : ExQ H H := fun _ _ _ h => h
theorem ExQ.of {H H' : Hp} (e : Ex H H') : ExQ H H' := fun b o _ h => e b o h
theorem ExQ.trans {H H1 H2 : Hp} (e : ExQ H H1) (f : ExQ H1 H2) : ExQ H H2 := fun b o n h => f b o n (e b o n h)
theorem ExQ.upd {H : Hp} {a : Addr} {o u : HO} (h : H a = some o) (n : ¬ Firm o) : ExQ H (upd H a u) := fun b x f hb => by
  rw [upd_ne (ne_of hb h (by intro z; subst z; exact n f))]
  exact hb
theorem ExQ.exB {H H' : Hp} {a : Addr} {o : HO} (h : H a = some o) (n : ¬ Firm o) (e : ExB a H H') : ExQ H H' := fun b x f hb => e b x (ne_of hb h (by intro z; subst z; exact n f)) hb
theorem firmI (C dx : Addr) (w f s : V) : Firm (.ins C dx (fIns w f s)) := by
  show firmF.contains ((fIns w f s).map (·.1)) = true
  exact (by decide +kernel : firmF.contains [("word" : Str), "first", "second"] = true)
theorem firmC (C dx : Addr) (w f s : V) : Firm (.ins C dx (fCon w f s)) := by
  show firmF.contains ((fCon w f s).map (·.1)) = true
  exact (by decide +kernel : firmF.contains [("number" : Str), "times_x", "times_y"] = true)
theorem firmR (C dx : Addr) (w f s : V) : Firm (.ins C dx (fRule w f s)) := by
  show firmF.contains ((fRule w f s).map (·.1)) = true
  exact (by decide +kernel : firmF.contains [("left" : Str), "right", "text"] = true)
theorem firmRd (C dx : Addr) (l k : V) : ¬ Firm (.ins C dx (fReader l k)) := by
  show ¬ firmF.contains ((fReader l k).map (·.1)) = true
  exact (by decide +kernel : ¬ firmF.contains [("numbers" : Str), "place"] = true)
theorem InsAt.monoQ {K : PySem.W.Frag} {H H' : Hp} (e : ExQ H H') {v : V} {i : PeCode.Ins} (h : InsAt K H v i) : InsAt K H' v i := by
  obtain ⟨a, dx, rfl, h1⟩ := h
  exact ⟨a, dx, rfl, e _ _ (firmI ..) h1⟩
theorem CodeV.monoQ {K : PySem.W.Frag} {H H' : Hp} (e : ExQ H H') {vs : List V} {c : PeCode.Code} (h : CodeV K H vs c) : CodeV K H' vs c := All2.mono (fun _ _ => InsAt.monoQ e) h
theorem ConAt.monoQ {K : PySem.W.Frag} {H H' : Hp} (e : ExQ H H') {v : V} {c : PeRule.Con} (h : ConAt K H v c) : ConAt K H' v c := by
  obtain ⟨a, dx, rfl, h1⟩ := h
  exact ⟨a, dx, rfl, e _ _ (firmC ..) h1⟩
theorem PatAt.monoQ {K : PySem.W.Frag} {H H' : Hp} (e : ExQ H H') {v : V} {p : PeRule.Pat} (h : PatAt K H v p) : PatAt K H' v p := by
  obtain ⟨a, dx, s, rfl, h1, h2⟩ := h
  refine ⟨a, dx, s, rfl, e _ _ (firmI ..) h1, ?_⟩
  unfold SecP at h2 ⊢
  split
  · rename_i c
    rw [if_pos c] at h2
    exact h2
  · rename_i c
    rw [if_neg c] at h2
    split
    · rename_i c2
      rw [if_pos c2] at h2
      exact ConAt.monoQ e h2
    · rename_i c2
      rw [if_neg c2] at h2
      exact h2
theorem RuleAt.monoQ {K : PySem.W.Frag} {H H' : Hp} (e : ExQ H H') {v : V} {r : PeRule.Rule} (h : RuleAt K H v r) : RuleAt K H' v r := by
  obtain ⟨a, dx, l, m, us, ws, rfl, h1, h2, h3, h4, h5⟩ := h
  exact ⟨a, dx, l, m, us, ws, rfl, e _ _ (firmR ..) h1, e _ _ trivial h2, e _ _ trivial h3, All2.mono (fun _ _ => PatAt.monoQ e) h4, All2.mono (fun _ _ => PatAt.monoQ e) h5⟩
/-! ### the rules held, as a dict -/
def OptR (K : PySem.W.Frag) (H : Hp) (v : Option V) (r : Option PeRule.Rule) : Prop := match r with
  | some r => ∃ x, v = some x ∧ RuleAt K H x r ∧ RuleHeld r ∧ r.text.length ≤ 4096
  | none => v = none
structure HeldD (K : PySem.W.Frag) (H : Hp) (kvs : List (Key × V)) (rs : PeRule.Rules) : Prop where
  nd : (kvs.map (·.1)).Nodup
  len : kvs.length = rs.countP Option.isSome
  short : rs.length ≤ 32
  at' : ∀ n : Nat, OptR K H (valV kvs (.inl (n : Int))) (rs.getD n none)
  dom : ∀ k ∈ kvs.map (·.1), ∃ n : Nat, k = .inl (n : Int)
theorem HeldD.monoQ {K : PySem.W.Frag} {H H' : Hp} (e : ExQ H H') {kvs : List (Key × V)} {rs : PeRule.Rules} (h : HeldD K H kvs rs) : HeldD K H' kvs rs := ⟨h.nd, h.len, h.short, fun n => by
  have := h.at' n
  cases hr : rs.getD n none with
  | none =>
    rw [hr] at this
    exact this
  | some r =>
    rw [hr] at this
    obtain ⟨x, h1, h2, h3⟩ := this
    exact ⟨x, h1, h2.monoQ e, h3⟩, h.dom⟩
theorem HeldD.empty (K : PySem.W.Frag) (H : Hp) : HeldD K H [] [] := ⟨List.nodup_nil, rfl, by show 0 ≤ 32; decide, (fun n => rfl), (fun k h => by cases h)⟩
theorem HeldD.rulesOk {K : PySem.W.Frag} {H : Hp} {kvs : List (Key × V)} {rs : PeRule.Rules} (h : HeldD K H kvs rs) : RulesOk rs := fun k r e => by
  have := h.at' k
  rw [e] at this
  obtain ⟨x, _, _, h3, _⟩ := this
  exact h3
/-! the lowest number that no rule has -/
theorem free_le (rs : PeRule.Rules) : PeepSpec.freeAt rs ≤ rs.length := List.findIdx_le_length
theorem free_none (rs : PeRule.Rules) : rs.getD (PeepSpec.freeAt rs) none = none := by
  rcases Nat.lt_or_ge (PeepSpec.freeAt rs) rs.length with h | h
  · have e := List.findIdx_getElem (xs := rs) (p := fun (r : Option PeRule.Rule) => r.isNone) (w := h)
    rw [List.getD_eq_getElem?_getD, List.getElem?_eq_getElem h]
    exact Option.isNone_iff_eq_none.mp e
  · rw [List.getD_eq_getElem?_getD, List.getElem?_eq_none h]
    rfl
theorem below_free {rs : PeRule.Rules} {n : Nat} (h : n < PeepSpec.freeAt rs) : ∃ r, rs.getD n none = some r := by
  have hl := Nat.lt_of_lt_of_le h (free_le rs)
  have e := List.not_of_lt_findIdx (xs := rs) (p := fun (r : Option PeRule.Rule) => r.isNone) h
  rw [List.getD_eq_getElem?_getD, List.getElem?_eq_getElem hl]
  cases hr : rs[n] with
  | none =>
    rw [hr] at e
    cases e
  | some r => exact ⟨r, rfl⟩
theorem count_full {rs : PeRule.Rules} (h : rs.length ≤ 32) : 32 ≤ rs.countP Option.isSome ↔ 32 ≤ PeepSpec.freeAt rs := by
  constructor
  · intro c
    have hc : rs.countP Option.isSome ≤ rs.length := List.countP_le_length
    have e : rs.countP Option.isSome = rs.length := by omega
    rw [List.countP_eq_length] at e
    rcases Nat.lt_or_ge (PeepSpec.freeAt rs) rs.length with q | q
    · have h1 := List.findIdx_getElem (xs := rs) (p := fun (r : Option PeRule.Rule) => r.isNone) (w := q)
      have h2 := e _ (List.getElem_mem q)
      cases hr : rs[PeepSpec.freeAt rs] with
      | none => rw [hr] at h2; cases h2
      | some r =>
        have h1' : (rs[PeepSpec.freeAt rs]).isNone = true := h1
        rw [hr] at h1'
        cases h1'
    · omega
  · intro c
    have hl := free_le rs
    have e : PeepSpec.freeAt rs = rs.length := by omega
    have : rs.countP Option.isSome = rs.length := by
      rw [List.countP_eq_length]
      intro r hr
      obtain ⟨i, hi, rfl⟩ := List.getElem_of_mem hr
      obtain ⟨x, hx⟩ := below_free (rs := rs) (n := i) (by omega)
      rw [List.getD_eq_getElem?_getD, List.getElem?_eq_getElem hi] at hx
      have hx' : rs[i] = some x := hx
      rw [hx']
      rfl
    omega
theorem laid_get (rs : PeRule.Rules) (r : PeRule.Rule) (n : Nat) : (PeepSpec.laidAt rs (PeepSpec.freeAt rs) r).getD n none = if n = PeepSpec.freeAt rs then some r else rs.getD n none := by
  unfold PeepSpec.laidAt
  have hl := free_le rs
  split
  · rename_i q
    rw [List.getD_eq_getElem?_getD, List.getElem?_set]
    by_cases e : PeepSpec.freeAt rs = n
    · rw [if_pos e, if_pos e.symm, if_pos q]
      rfl
    · rw [if_neg e, if_neg (fun z => e z.symm), List.getD_eq_getElem?_getD]
  · rename_i q
    rw [List.getD_eq_getElem?_getD, List.getElem?_append]
    by_cases e : n < rs.length
    · rw [if_pos e, if_neg (by omega), List.getD_eq_getElem?_getD]
    · rw [if_neg e]
      by_cases e2 : n = PeepSpec.freeAt rs
      · rw [if_pos e2, show n - rs.length = 0 by omega]
        rfl
      · rw [if_neg e2, List.getElem?_eq_none (by simp; omega), List.getD_eq_getElem?_getD, List.getElem?_eq_none (by omega)]
theorem laid_len {rs : PeRule.Rules} (r : PeRule.Rule) (h : rs.length ≤ 32) (f : PeepSpec.freeAt rs < 32) : (PeepSpec.laidAt rs (PeepSpec.freeAt rs) r).length ≤ 32 := by
  unfold PeepSpec.laidAt
  have hl := free_le rs
  split
  · rw [List.length_set]; exact h
  · rw [List.length_append]
    show _ + 1 ≤ 32
    omega
theorem count_set : ∀ (rs : PeRule.Rules) (k : Nat) (x : Option PeRule.Rule), k < rs.length → (rs.set k x).countP Option.isSome + (if (rs.getD k none).isSome = true then 1 else 0) = rs.countP Option.isSome + if x.isSome = true then 1 else 0
  | [], k, x, h => by simp at h
  | r :: rs, 0, x, h => by
    rw [List.set_cons_zero, List.countP_cons, List.countP_cons]
    show _ + (if r.isSome = true then 1 else 0) = _
    omega
  | r :: rs, k + 1, x, h => by
    have ih := count_set rs k x (by simpa using h)
    rw [List.set_cons_succ, List.countP_cons, List.countP_cons]
    show _ + (if (rs.getD k none).isSome = true then 1 else 0) = _
    omega
theorem count_laid (rs : PeRule.Rules) (r : PeRule.Rule) : (PeepSpec.laidAt rs (PeepSpec.freeAt rs) r).countP Option.isSome = rs.countP Option.isSome + 1 := by
  unfold PeepSpec.laidAt
  split
  · rename_i q
    have := count_set rs _ (some r) q
    rw [free_none] at this
    simpa using this
  · rw [List.countP_append]
    rfl
/-- a rule held at the lowest free number -/
theorem HeldD.laid {K : PySem.W.Frag} {H : Hp} {kvs : List (Key × V)} {rs : PeRule.Rules} {v : V} {r : PeRule.Rule} (h : HeldD K H kvs rs) (f : PeepSpec.freeAt rs < 32) (hv : RuleAt K H v r) (hr : RuleHeld r) (ht : r.text.length ≤ 4096) :
    HeldD K H (putK kvs (.inl ((PeepSpec.freeAt rs : Nat) : Int)) v) (PeepSpec.laidAt rs (PeepSpec.freeAt rs) r) := by
  have h0 := h.at' (PeepSpec.freeAt rs)
  rw [free_none] at h0
  have h0' : valV kvs (.inl ((PeepSpec.freeAt rs : Nat) : Int)) = none := h0
  refine ⟨?_, ?_, laid_len r h.short f, (fun n => ?_), (fun k hk => ?_)⟩
  · rw [L2.putK_new v h0', List.map_append]
    refine List.nodup_append.mpr ⟨h.nd, by simp, ?_⟩
    intro a ha b hb e
    have eb : b = .inl ((PeepSpec.freeAt rs : Nat) : Int) := by simpa using hb
    exact valV_not h0' (by rw [← eb, ← e]; exact ha)
  · rw [L2.putK_new v h0', List.length_append, count_laid, h.len]
    rfl
  · rw [valV_put, laid_get]
    by_cases e : n = PeepSpec.freeAt rs
    · rw [if_pos e, if_pos (by rw [e])]
      exact ⟨v, rfl, hv, hr, ht⟩
    · rw [if_neg e, if_neg (fun z => e (by injection z with z; omega))]
      exact h.at' n
  · rw [L2.putK_new v h0', List.map_append] at hk
    rcases List.mem_append.mp hk with hk | hk
    · exact h.dom k hk
    · exact ⟨_, by simpa using hk⟩
theorem valV_drop (kvs : List (Key × V)) (k j : Key) : valV (dropK kvs k) j = if j = k then none else valV kvs j := by
  induction kvs with
  | nil =>
    split <;> rfl
  | cons p r ih =>
    by_cases e : p.1 = k
    · rw [dropK_pos e, ih]
      by_cases q : j = k
      · rw [if_pos q, if_pos q]
      · rw [if_neg q, if_neg q, valV_neg (fun z => q (z.symm.trans e))]
    · rw [dropK_neg e]
      by_cases q : p.1 = j
      · rw [valV_pos q, if_neg (fun z => e (q.trans z)), valV_pos q]
      · rw [valV_neg q, ih, valV_neg q]
theorem mem_dropK {kvs : List (Key × V)} {k j : Key} (h : j ∈ (dropK kvs k).map (·.1)) : j ∈ kvs.map (·.1) := by
  induction kvs with
  | nil => exact h
  | cons p r ih =>
    by_cases e : p.1 = k
    · rw [dropK_pos e] at h
      exact List.mem_cons_of_mem _ (ih h)
    · rw [dropK_neg e, List.map_cons] at h
      rcases List.mem_cons.mp h with h | h
      · rw [h]
        exact List.mem_cons_self ..
      · exact List.mem_cons_of_mem _ (ih h)
/-- the keys, whatever their order, are the numbers held -/
theorem HeldD.keys {K : PySem.W.Frag} {H : Hp} {kvs : List (Key × V)} {rs : PeRule.Rules} (h : HeldD K H kvs rs) : ∃ ks : List Int, kvs.map (·.1) = ks.map Sum.inl ∧ ks.Perm ((keysOf rs).map fun (n : Nat) => (n : Int)) := by
  have e : ∃ ks : List Int, kvs.map (·.1) = ks.map Sum.inl := by
    have d := h.dom
    generalize kvs.map (·.1) = l at d
    induction l with
    | nil => exact ⟨[], rfl⟩
    | cons k l ih =>
      obtain ⟨ks, hk⟩ := ih fun j hj => d j (List.mem_cons_of_mem _ hj)
      obtain ⟨n, rfl⟩ := d k (List.mem_cons_self ..)
      exact ⟨(n : Int) :: ks, by rw [hk]; rfl⟩
  obtain ⟨ks, hk⟩ := e
  refine ⟨ks, hk, (List.perm_ext_iff_of_nodup ?_ ?_).mpr fun z => ?_⟩
  · have := h.nd
    rw [hk] at this
    exact (List.pairwise_map.mp this).imp fun q z => q (by rw [z])
  · exact List.pairwise_map.mpr ((keys_nodup rs).imp fun q z => q (Int.ofNat_inj.mp z))
  · have hz : z ∈ ks ↔ (Sum.inl z : Key) ∈ kvs.map (·.1) := by
      rw [hk]
      constructor
      · exact fun q => List.mem_map.mpr ⟨z, q, rfl⟩
      · intro q
        obtain ⟨y, hy, e⟩ := List.mem_map.mp q
        injection e with e
        rw [← e]
        exact hy
    have hn : ∀ n : Nat, (Sum.inl (n : Int) : Key) ∈ kvs.map (·.1) ↔ n ∈ keysOf rs := fun n => by
      have o := h.at' n
      rw [mem_keys]
      cases hr : rs.getD n none with
      | none =>
        rw [hr] at o
        exact ⟨fun q => absurd q (valV_not o), fun q => by cases q⟩
      | some r =>
        rw [hr] at o
        obtain ⟨x, hx, _⟩ := o
        exact ⟨fun _ => rfl, fun _ => valV_in hx⟩
    rw [hz]
    constructor
    · intro q
      obtain ⟨n, e⟩ := h.dom _ q
      injection e with e
      subst e
      exact List.mem_map.mpr ⟨n, (hn n).mp q, rfl⟩
    · intro q
      obtain ⟨n, hn2, rfl⟩ := List.mem_map.mp q
      exact (hn n).mpr hn2
/-- a rule held no more -/
theorem HeldD.drop {K : PySem.W.Frag} {H : Hp} {kvs : List (Key × V)} {rs : PeRule.Rules} {k : Nat} {r : PeRule.Rule} (h : HeldD K H kvs rs) (e : rs.getD k none = some r) : HeldD K H (dropK kvs (.inl (k : Int))) (rs.set k none) := by
  have h0 := h.at' k
  rw [e] at h0
  obtain ⟨v, hv, _⟩ := h0
  have hk : k < rs.length := by
    rcases Nat.lt_or_ge k rs.length with q | q
    · exact q
    · rw [List.getD_eq_getElem?_getD, List.getElem?_eq_none q] at e
      cases e
  refine ⟨nd_dropK h.nd, ?_, (by rw [List.length_set]; exact h.short), (fun n => ?_), (fun j hj => h.dom j (mem_dropK hj))⟩
  · have h1 := dropK_len h.nd (valV_in hv)
    have h2 := count_set rs k none hk
    rw [e] at h2
    have h3 := h.len
    simp at h2
    omega
  · rw [valV_drop, List.getD_eq_getElem?_getD, List.getElem?_set]
    by_cases q : k = n
    · subst q
      rw [if_pos rfl, if_pos rfl, if_pos hk]
      rfl
    · rw [if_neg q, if_neg (fun z => q (by injection z with z; omega)), ← List.getD_eq_getElem?_getD]
      exact h.at' n
end Pb

set_option Elab.async false
set_option linter.all false
set_option maxRecDepth 100000
set_option maxHeartbeats 4000000
namespace Pb
open PySem PySem.Spec PyProof.Rows L2 Evl PbX
/-! ### moments, steps, the line of moments -/
abbrev cMom (K : PySem.W.Frag) : Addr := He.ga K "Moment"
abbrev cStep (K : PySem.W.Frag) : Addr := He.ga K "Step"
abbrev cHist (K : PySem.W.Frag) : Addr := He.ga K "History"
abbrev cSess (K : PySem.W.Frag) : Addr := He.ga K "Session"
def fMom (i w : V) : List (Str × V) := [("instructions", i), ("worked", w)]
def fStep (n p f : V) : List (Str × V) := [("number", n), ("place", p), ("fit", f)]
def fHist (b u : V) : List (Str × V) := [("before", b), ("undone", u)]
def fSess (m h d : V) : List (Str × V) := [("now", m), ("history", h), ("held", d)]
def fMomL : List V → List (Str × V)
  | [i, w] => fMom i w
  | _ => []
def fStepL : List V → List (Str × V)
  | [n, p, f] => fStep n p f
  | _ => []
theorem lkMI (i w : V) : (fMom i w).lookup ("instructions" : Str) = some i := rfl
theorem lkMW (i w : V) : (fMom i w).lookup ("worked" : Str) = some w := rfl
theorem lkSN (n p f : V) : (fStep n p f).lookup ("number" : Str) = some n := rfl
theorem lkSP (n p f : V) : (fStep n p f).lookup ("place" : Str) = some p := rfl
theorem lkSF (n p f : V) : (fStep n p f).lookup ("fit" : Str) = some f := rfl
theorem lkHB (b u : V) : (fHist b u).lookup ("before" : Str) = some b := rfl
theorem lkHU (b u : V) : (fHist b u).lookup ("undone" : Str) = some u := rfl
theorem lkNow (m h d : V) : (fSess m h d).lookup ("now" : Str) = some m := rfl
theorem lkHist (m h d : V) : (fSess m h d).lookup ("history" : Str) = some h := rfl
theorem lkHeld (m h d : V) : (fSess m h d).lookup ("held" : Str) = some d := rfl
theorem putNow (m h d v : V) : putF "now" v (fSess m h d) = fSess v h d := rfl
theorem G_Moment_init {P : Program} {w : World} {K : PySem.W.Frag} {mg : Str → Option Value} {base : Heap} (T : Txt w K mg) : Has P w K mg base CX0 1 (He.ma K (He.ga K "Moment") "__init__") p_Moment_init (spNew (cMom K) 2 fMomL) := by
  refine T.d_Moment_init.has sc_Moment_init (fun vs H Q E h => ?_) (fun cdv A outer s H vs Q E hr h => ⟨_, PSs.nox ((pss_cons (ps_fld (pv 0) (pv 1) rfl)
    (pss_one (ps_fld (pv 0) (pv 2) rfl)))), ?_⟩)
  · exact spNew_len vs H Q E h
  · obtain ⟨p, dx, as, rfl, hn, hp, q⟩ := h
    match as, hn with
    | [i, w], _ =>
      refine ⟨_, rfl, _, rfl, p, _, dx, _, rfl, hp, T.cl_Moment, T.nF_Moment_instructions, by show 0 < 1000; decide, ?_⟩
      refine ⟨_, rfl, _, rfl, p, _, dx, _, rfl, upd_same, T.cl_Moment, T.nF_Moment_worked, by show 1 < 1000; decide, ?_⟩
      exact q _ ((ExB.refl _ _).upd).upd upd_same
theorem G_Step_init {P : Program} {w : World} {K : PySem.W.Frag} {mg : Str → Option Value} {base : Heap} (T : Txt w K mg) : Has P w K mg base CX0 1 (He.ma K (He.ga K "Step") "__init__") p_Step_init (spNew (cStep K) 3 fStepL) := by
  refine T.d_Step_init.has sc_Step_init (fun vs H Q E h => ?_) (fun cdv A outer s H vs Q E hr h => ⟨_, PSs.nox ((pss_cons (ps_fld (pv 0) (pv 1) rfl)
    (pss_cons (ps_fld (pv 0) (pv 2) rfl)
    (pss_one (ps_fld (pv 0) (pv 3) rfl))))), ?_⟩)
  · exact spNew_len vs H Q E h
  · obtain ⟨p, dx, as, rfl, hn, hp, q⟩ := h
    match as, hn with
    | [n, i, f], _ =>
      refine ⟨_, rfl, _, rfl, p, _, dx, _, rfl, hp, T.cl_Step, T.nF_Step_number, by show 0 < 1000; decide, ?_⟩
      refine ⟨_, rfl, _, rfl, p, _, dx, _, rfl, upd_same, T.cl_Step, T.nF_Step_place, by show 1 < 1000; decide, ?_⟩
      refine ⟨_, rfl, _, rfl, p, _, dx, _, rfl, upd_same, T.cl_Step, T.nF_Step_fit, by show 2 < 1000; decide, ?_⟩
      exact q _ (((ExB.refl _ _).upd).upd).upd upd_same
def spHistInit (K : PySem.W.Frag) : Sp := fun vs H Q _ => ∃ (a dx : Addr), vs = [.ref a] ∧ H a = some (.ins (cHist K) dx []) ∧ ∀ H' b u, H b = none → H u = none → b ≠ u → ExB a H H' → H' a = some (.ins (cHist K) dx (fHist (.ref b) (.ref u))) → H' b = some (.lst []) → H' u = some (.lst []) → Q .non H'
theorem G_History_init {P : Program} {w : World} {K : PySem.W.Frag} {mg : Str → Option Value} {base : Heap} (T : Txt w K mg) : Has P w K mg base CX0 1 (He.ma K (He.ga K "History") "__init__") p_History_init (spHistInit K) := by
  refine T.d_History_init.has sc_History_init (fun vs H Q E h => ?_) (fun cdv A outer s H vs Q E hr h => ⟨_, PSs.nox ((pss_cons (ps_fld (pv 0) (pe_lst pa_nil) rfl)
    (pss_one (ps_fld (pv 0) (pe_lst pa_nil) rfl)))), ?_⟩)
  · obtain ⟨a, dx, rfl, _⟩ := h
    rfl
  · obtain ⟨a, dx, rfl, ha, q⟩ := h
    refine ⟨szl (by show 0 ≤ 1000000; decide), fun b hb => ?_⟩
    have x1 := Ex.new (o := .lst []) hb
    have nb : b ≠ a := fun z => by rw [z, ha] at hb; cases hb
    refine ⟨_, rfl, a, _, dx, _, rfl, x1 _ _ ha, T.cl_History, T.nF_History_before, by show 0 < 1000; decide, ?_⟩
    refine ⟨szl (by show 0 ≤ 1000000; decide), fun u hu => ?_⟩
    have nu : u ≠ a := fun z => by rw [z, upd_same] at hu; cases hu
    have nbu : b ≠ u := fun z => by rw [← z, upd_ne nb, upd_same] at hu; cases hu
    have hu0 : H u = none := by
      rw [upd_ne nu, upd_ne nbu.symm] at hu
      exact hu
    refine ⟨_, rfl, a, _, dx, _, rfl, (by rw [upd_ne nu.symm, upd_same]), T.cl_History, T.nF_History_undone, by show 1 < 1000; decide, ?_⟩
    refine q _ b u hb hu0 nbu ?_ upd_same ?_ ?_
    · intro c o nc hc
      rw [upd_ne nc, upd_ne (ne_of_none hc hu0), upd_ne nc]
      exact x1 _ _ hc
    · rw [upd_ne nb, upd_ne nbu, upd_ne nb, upd_same]
    · rw [upd_ne nu, upd_same]
/-! ### two lists left out -/
def cut (a b : Addr) (H : Hp) : Hp := del (del H a) b
section
variable {a b c : Addr} {H H' : Hp} {o : HO}
theorem cut_ne (ha : c ≠ a) (hb : c ≠ b) : cut a b H c = H c := by
  unfold cut
  rw [del_ne hb, del_ne ha]
theorem of_cut (h : cut a b H c = some o) : H c = some o ∧ c ≠ a ∧ c ≠ b := by
  obtain ⟨h1, nb⟩ := of_del h
  obtain ⟨h2, na⟩ := of_del h1
  exact ⟨h2, na, nb⟩
theorem Ex.cut : Ex (Pb.cut a b H) H := fun _ _ h => (of_cut h).1
theorem to_cut (h : H c = some o) (ha : c ≠ a) (hb : c ≠ b) : cut a b H c = some o := by rw [cut_ne ha hb]; exact h
/-- all but the two stands -/
def ExC (a b : Addr) (H H' : Hp) : Prop := ∀ c o, c ≠ a → c ≠ b → H c = some o → H' c = some o
theorem ExC.of (e : Ex H H') : ExC a b H H' := fun c o _ _ h => e c o h
theorem ExC.cut (e : ExC a b H H') : Ex (Pb.cut a b H) (Pb.cut a b H') := fun c o h => by
  obtain ⟨h1, na, nb⟩ := of_cut h
  exact to_cut (e c o na nb h1) na nb
theorem cutE (e : Ex H H') : Ex (cut a b H) (cut a b H') := (ExC.of e).cut
theorem cut_upd (ha : c ≠ a) (hb : c ≠ b) : cut a b (upd H c o) = upd (cut a b H) c o := by
  funext x
  by_cases z : x = c
  · rw [z, cut_ne ha hb, upd_same, upd_same]
  · by_cases y : x = a
    · rw [y, upd_ne (fun q => ha q.symm)]
      unfold Pb.cut
      by_cases w : a = b
      · rw [w, del_same, del_same]
      · rw [del_ne w, del_ne w, del_same, del_same]
    · by_cases w : x = b
      · rw [w, upd_ne (fun q => hb q.symm)]
        unfold Pb.cut
        rw [del_same, del_same]
      · rw [cut_ne y w, upd_ne z, upd_ne z, cut_ne y w]
theorem ExI.cut {xs ys : List V} (ha : H a = some (.lst xs)) (hb : H b = some (.lst ys)) : ExI H (Pb.cut a b H) := fun c C dx fs h => to_cut h (ne_of h ha (by intro z; cases z)) (ne_of h hb (by intro z; cases z))
end
/-! ### what is held -/
theorem firmM (C dx : Addr) (i w : V) : Firm (.ins C dx (fMom i w)) := by
  show firmF.contains ((fMom i w).map (·.1)) = true
  exact (by decide +kernel : firmF.contains [("instructions" : Str), "worked"] = true)
theorem firmH (C dx : Addr) (i w : V) : Firm (.ins C dx (fHist i w)) := by
  show firmF.contains ((fHist i w).map (·.1)) = true
  exact (by decide +kernel : firmF.contains [("before" : Str), "undone"] = true)
theorem nfSess (C dx : Addr) (m h d : V) : ¬ Firm (.ins C dx (fSess m h d)) := by
  show ¬ firmF.contains ((fSess m h d).map (·.1)) = true
  exact (by decide +kernel : ¬ firmF.contains [("now" : Str), "history", "held"] = true)
theorem nrSess (K : PySem.W.Frag) (C dx : Addr) (m h d : V) : ¬ FirmR K (.ins C dx (fSess m h d)) := by
  rintro (⟨_, _, h⟩ | ⟨_, l, k, h⟩)
  · cases h
  · injection h with _ _ h
    injection h with h1 h2
    injection h1 with h1 h3
    exact absurd h1 (by decide +kernel)
theorem nrD (K : PySem.W.Frag) (kvs : List (Key × V)) : ¬ FirmR K (.dK kvs) := by
  rintro (⟨_, _, h⟩ | ⟨_, l, k, h⟩) <;> cases h
theorem nrL (K : PySem.W.Frag) (xs : List V) : ¬ FirmR K (.lst xs) := by
  rintro (⟨_, _, h⟩ | ⟨_, l, k, h⟩) <;> cases h
theorem PairAt.monoQ {H H' : Hp} (e : ExQ H H') {v : V} {x : Nat × Nat} (h : PairAt H v x) : PairAt H' v x := by
  obtain ⟨t, rfl, h1⟩ := h
  exact ⟨t, rfl, e _ _ trivial h1⟩
def MomAt (K : PySem.W.Frag) (H : Hp) (v : V) (h : PeepSpec.Held) : Prop := ∃ (m dx il wl : Addr) (us ws : List V), v = .ref m ∧ H m = some (.ins (cMom K) dx (fMom (.ref il) (.ref wl))) ∧ H il = some (.lst us) ∧ CodeV K H us h.code ∧ H wl = some (.lst ws) ∧ All2 (PairAt H) ws h.steps
theorem MomAt.monoQ {K : PySem.W.Frag} {H H' : Hp} (e : ExQ H H') {v : V} {h : PeepSpec.Held} (q : MomAt K H v h) : MomAt K H' v h := by
  obtain ⟨m, dx, il, wl, us, ws, rfl, h1, h2, h3, h4, h5⟩ := q
  exact ⟨m, dx, il, wl, us, ws, rfl, e _ _ (firmM ..) h1, e _ _ trivial h2, h3.monoQ e, e _ _ trivial h4, All2.mono (fun _ _ => PairAt.monoQ e) h5⟩
/-- the session's objects, by their places -/
structure Sees (K : PySem.W.Frag) (H : Hp) (s : Addr) (d : PeepSpec.State) (sx hi hx m mx il wl hh hb hu : Addr) (us ws : List V) (kvs : List (Key × V)) : Prop where
  s_ : H s = some (.ins (cSess K) sx (fSess (.ref m) (.ref hi) (.ref hh)))
  hi_ : H hi = some (.ins (cHist K) hx (fHist (.ref hb) (.ref hu)))
  m_ : H m = some (.ins (cMom K) mx (fMom (.ref il) (.ref wl)))
  il_ : H il = some (.lst us)
  cv : CodeV K H us d.now.code
  wl_ : H wl = some (.lst ws)
  pv : All2 (PairAt H) ws d.now.steps
  hh_ : H hh = some (.dK kvs)
  held : HeldD K H kvs d.rules
theorem Sees.mono {K : PySem.W.Frag} {H H' : Hp} {s : Addr} {d : PeepSpec.State} {sx hi hx m mx il wl hh hb hu : Addr} {us ws : List V} {kvs : List (Key × V)} (e : Ex H H') (h : Sees K H s d sx hi hx m mx il wl hh hb hu us ws kvs) : Sees K H' s d sx hi hx m mx il wl hh hb hu us ws kvs :=
  ⟨e _ _ h.s_, e _ _ h.hi_, e _ _ h.m_, e _ _ h.il_, h.cv.monoQ (ExQ.of e), e _ _ h.wl_, All2.mono (fun _ _ => PairAt.monoQ (ExQ.of e)) h.pv, e _ _ h.hh_, h.held.monoQ (ExQ.of e)⟩
theorem Sees.mom {K : PySem.W.Frag} {H : Hp} {s : Addr} {d : PeepSpec.State} {sx hi hx m mx il wl hh hb hu : Addr} {us ws : List V} {kvs : List (Key × V)} (h : Sees K H s d sx hi hx m mx il wl hh hb hu us ws kvs) : MomAt K H (.ref m) d.now := ⟨m, mx, il, wl, us, ws, rfl, h.m_, h.il_, h.cv, h.wl_, h.pv⟩
structure SAh (K : PySem.W.Frag) (hb hu : Addr) (H : Hp) (s : Addr) (d : PeepSpec.State) : Prop where
  see : ∃ sx hi hx m mx il wl hh us ws kvs, Sees K (cut hb hu H) s d sx hi hx m mx il wl hh hb hu us ws kvs
  bef : ∃ bs, H hb = some (.lst bs) ∧ All2 (MomAt K (cut hb hu H)) bs d.past.reverse
  und : ∃ us, H hu = some (.lst us) ∧ All2 (MomAt K (cut hb hu H)) us d.undone.reverse
  ne : hb ≠ hu
  okn : HeldOk d.now
  okp : ∀ h ∈ d.past, HeldOk h
  oku : ∀ h ∈ d.undone, HeldOk h
  few : d.past.length + d.undone.length ≤ 16
def SA2 (K : PySem.W.Frag) : SARel := fun H s d => ∃ hb hu, SAh K hb hu H s d
theorem SAh.view {K : PySem.W.Frag} {hb hu : Addr} {H : Hp} {s : Addr} {d : PeepSpec.State} (h : SAh K hb hu H s d) : ∃ sx hi hx m mx il wl hh us ws kvs, Sees K H s d sx hi hx m mx il wl hh hb hu us ws kvs := by
  obtain ⟨sx, hi, hx, m, mx, il, wl, hh, us, ws, kvs, w⟩ := h.see
  exact ⟨sx, hi, hx, m, mx, il, wl, hh, us, ws, kvs, w.mono Ex.cut⟩
theorem SAh.grow {K : PySem.W.Frag} {hb hu : Addr} {H H' : Hp} {s : Addr} {d : PeepSpec.State} (h : SAh K hb hu H s d) (e : Ex H H') : SAh K hb hu H' s d := by
  obtain ⟨sx, hi, hx, m, mx, il, wl, hh, us, ws, kvs, w⟩ := h.see
  obtain ⟨bs, b1, b2⟩ := h.bef
  obtain ⟨un, u1, u2⟩ := h.und
  have q : ExQ (cut hb hu H) (cut hb hu H') := ExQ.of (cutE e)
  exact ⟨⟨sx, hi, hx, m, mx, il, wl, hh, us, ws, kvs, w.mono (cutE e)⟩, ⟨bs, e _ _ b1, All2.mono (fun _ _ => MomAt.monoQ q) b2⟩, ⟨un, e _ _ u1, All2.mono (fun _ _ => MomAt.monoQ q) u2⟩, h.ne, h.okn, h.okp, h.oku, h.few⟩
theorem SA2.grow {K : PySem.W.Frag} {H H' : Hp} {s : Addr} {d : PeepSpec.State} (h : SA2 K H s d) (e : Ex H H') : SA2 K H' s d := by
  obtain ⟨hb, hu, h⟩ := h
  exact ⟨hb, hu, h.grow e⟩
theorem neRd {C C' dx dx' : Addr} {l k m h d : V} : HO.ins C dx (fSess m h d) ≠ HO.ins C' dx' (fReader l k) := by
  intro z
  injection z with _ _ z
  injection z with z1 z2
  injection z1 with z1 z3
  exact absurd z1 (by decide +kernel)
theorem SA2.ax (K : PySem.W.Frag) : SAx K (SA2 K) where
  ins := fun H s d h => by
    obtain ⟨hb, hu, h⟩ := h
    obtain ⟨sx, hi, hx, m, mx, il, wl, hh, us, ws, kvs, w⟩ := h.view
    refine ⟨sx, _, w.s_, fun m hm => ?_⟩
    have n : ∀ x : Str, callNames.contains x = false → (m == x) = false := fun x hx => beq_eq_false_iff_ne.mpr fun z => by
      rw [z, hx] at hm
      cases hm
    unfold fSess
    rw [List.lookup_cons, n _ (by decide +kernel), List.lookup_cons, n _ (by decide +kernel), List.lookup_cons, n _ (by decide +kernel)]
    rfl
  grow := fun H H' s d h e => h.grow e
  read := fun H H' s d r dx l k h hr e => by
    obtain ⟨hb, hu, h⟩ := h
    obtain ⟨sx, hi, hx, m, mx, il, wl, hh, us, ws, kvs, w⟩ := h.see
    obtain ⟨bs, b1, b2⟩ := h.bef
    obtain ⟨un, u1, u2⟩ := h.und
    have nb : hb ≠ r := ne_of b1 hr (by intro z; cases z)
    have nu : hu ≠ r := ne_of u1 hr (by intro z; cases z)
    have hr' : cut hb hu H r = _ := to_cut hr nb.symm nu.symm
    have e' : ExB r (cut hb hu H) (cut hb hu H') := fun c o nc hc => by
      obtain ⟨h1, na, nb⟩ := of_cut hc
      exact to_cut (e c o nc h1) na nb
    have q : ExQ (cut hb hu H) (cut hb hu H') := ExQ.exB hr' (firmRd _ _ _ _) e'
    exact ⟨hb, hu, ⟨sx, hi, hx, m, mx, il, wl, hh, us, ws, kvs, ⟨e' _ _ (ne_of w.s_ hr' neRd) w.s_, q _ _ (firmH ..) w.hi_, q _ _ (firmM ..) w.m_, q _ _ trivial w.il_, w.cv.monoQ q, q _ _ trivial w.wl_, All2.mono (fun _ _ => PairAt.monoQ q) w.pv,
      e' _ _ (ne_of w.hh_ hr' (by intro z; cases z)) w.hh_, w.held.monoQ q⟩⟩, ⟨bs, e _ _ nb b1, All2.mono (fun _ _ => MomAt.monoQ q) b2⟩, ⟨un, e _ _ nu u1, All2.mono (fun _ _ => MomAt.monoQ q) u2⟩, h.ne, h.okn, h.okp, h.oku, h.few⟩
theorem refused_of {K : PySem.W.Frag} {H : Hp} {s : Addr} {d : PeepSpec.State} {x : PeepSpec.Call} {E : XK} {ns : List Int} {vs : List V} (hs : SA2 K H s d) (h : ToldX K (SA2 K) H s d x E) (e : stepS d x = (d, ns)) (ev : vs = ns.map V.int) : Refused K E H vs :=
  fun C dd l H' r _ _ ex h1 h2 => h C dd H' l r h1 (StayR.of ex) (by rw [e]; exact hs.grow ex) (by rw [e, h2, ev])
end Pb

set_option Elab.async false
set_option linter.all false
set_option maxRecDepth 100000
set_option maxHeartbeats 4000000
namespace Pb
open PySem PySem.Spec PyProof.Rows L2 Evl PbX
theorem sz0 : 0 ≤ sizeLine := szl (by omega)
theorem G_Session_init {P : Program} {w : World} {K : PySem.W.Frag} {mg : Str → Option Value} {base : Heap} (T : Txt w K mg) : Has P w K mg base CX0 3 (He.ma K (He.ga K "Session") "__init__") p_Session_init (spSessInit K (SA2 K)) := by
  have G_History_init := G_History_init (P := P) (base := base) T
  have G_Moment_init := G_Moment_init (P := P) (base := base) T
  refine T.d_Session_init.has sc_Session_init (fun vs H Q E h => ?_) (fun cdv A outer s H vs Q E hr h => ⟨_, PSs.nox ((pss_cons (ps_fld (pv 0) (pe_makeH T.k_Moment G_Moment_init (hr.mono (by decide)) T.g_Moment pass0 (pa_cons (pe_lst pa_nil) (pa_cons (pe_lst pa_nil) pa_nil))) rfl)
    (pss_cons (ps_fld (pv 0) (pe_make0H T.k_History G_History_init (hr.mono (by decide)) T.g_History pass0) rfl)
    (pss_one (ps_fld (pv 0) pe_dnewK rfl))))), ?_⟩)
  · obtain ⟨s, dx, rfl, _⟩ := h
    rfl
  · obtain ⟨s, dx, rfl, hs, q⟩ := h
    refine ⟨sz0, fun l1 n1 => ⟨sz0, fun l2 n2 => ?_⟩⟩
    intro m mx nm nmx nem
    refine mk_newA nm nmx rfl fun H1 e1 hm => ⟨rfl, ?_⟩
    have xA : Ex H (upd (upd H l1 (.lst [])) l2 (.lst [])) := (Ex.new n1).trans (Ex.new n2)
    have hl1 : H1 l1 = some (.lst []) := e1 _ _ ((Ex.new n2) _ _ upd_same)
    have hl2 : H1 l2 = some (.lst []) := e1 _ _ upd_same
    have ms : m ≠ s := fun z => by rw [z, xA _ _ hs] at nm; cases nm
    have l1s : l1 ≠ s := fun z => by rw [z, hs] at n1; cases n1
    have l2s : l2 ≠ s := fun z => by rw [z, (Ex.new n1) _ _ hs] at n2; cases n2
    have xH1 := xA.trans e1
    refine ⟨_, rfl, s, _, dx, _, rfl, xH1 _ _ hs, T.cl_Session, T.nF_Session_now, by show 0 < 1000; decide, ?_⟩
    have b2 : ExB s H1 (upd H1 s (.ins (cSess K) dx (putF "now" (.ref m) []))) := (ExB.refl _ _).upd
    have hs2 : (upd H1 s (.ins (cSess K) dx (putF "now" (.ref m) []))) s = _ := upd_same
    generalize upd H1 s (.ins (cSess K) dx (putF "now" (.ref m) [])) = H2 at b2 hs2 ⊢
    intro hi hx nhi nhx nne
    refine ⟨hi, hx, rfl, upd_same, fun H3 b u nb nu nbu e3 h3 hb hu => ⟨rfl, ?_⟩⟩
    have x2 : Ex H2 (upd (upd H2 hx (.own hi)) hi (.ins (cHist K) hx [])) := fun c o hc => by rw [upd_ne (ne_of_none hc nhi), upd_ne (ne_of_none hc nhx)]; exact hc
    have x3 : Ex H2 H3 := fun c o hc => e3 c o (ne_of_none hc nhi) (x2 c o hc)
    have his : hi ≠ s := fun z => by rw [z, hs2] at nhi; cases nhi
    have b3 : ExB s H1 H3 := b2.trans (ExB.of x3)
    have hs3 := x3 _ _ hs2
    refine ⟨_, rfl, s, _, dx, _, rfl, hs3, T.cl_Session, T.nF_Session_history, by show 1 < 1000; decide, ?_⟩
    refine fun hh nhh => ?_
    have hhs : hh ≠ s := fun z => by rw [z, upd_same] at nhh; cases nhh
    have nhh3 : H3 hh = none := by rw [upd_ne hhs] at nhh; exact nhh
    refine ⟨_, rfl, s, _, dx, _, rfl, (by rw [upd_ne hhs.symm, upd_same]), T.cl_Session, T.nF_Session_held, by show 2 < 1000; decide, ?_⟩
    have b6 : ExB s H3 (upd (upd (upd H3 s (.ins (cSess K) dx (putF "history" (.ref hi) (putF "now" (.ref m) [])))) hh (.dK [])) s (.ins (cSess K) dx (putF "held" (.ref hh) (putF "history" (.ref hi) (putF "now" (.ref m) []))))) := fun c o nc hc => by
      rw [upd_ne nc, upd_ne (ne_of_none hc nhh3), upd_ne nc]
      exact hc
    have hs6 : (upd (upd (upd H3 s (.ins (cSess K) dx (putF "history" (.ref hi) (putF "now" (.ref m) [])))) hh (.dK [])) s (.ins (cSess K) dx (putF "held" (.ref hh) (putF "history" (.ref hi) (putF "now" (.ref m) []))))) s = some (.ins (cSess K) dx (fSess (.ref m) (.ref hi) (.ref hh))) := upd_same
    have hd6 : (upd (upd (upd H3 s (.ins (cSess K) dx (putF "history" (.ref hi) (putF "now" (.ref m) [])))) hh (.dK [])) s (.ins (cSess K) dx (putF "held" (.ref hh) (putF "history" (.ref hi) (putF "now" (.ref m) []))))) hh = some (.dK []) := by rw [upd_ne hhs, upd_same]
    have qq : ∀ H', ExB s H H' → SA2 K H' s PeepSpec.start → _ := q
    clear q
    generalize (upd (upd (upd H3 s (.ins (cSess K) dx (putF "history" (.ref hi) (putF "now" (.ref m) [])))) hh (.dK [])) s (.ins (cSess K) dx (putF "held" (.ref hh) (putF "history" (.ref hi) (putF "now" (.ref m) []))))) = H6 at b6 hs6 hd6 ⊢
    have nbs : b ≠ s := (ne_of_none (x2 _ _ hs2) nb).symm
    have nus : u ≠ s := (ne_of_none (x2 _ _ hs2) nu).symm
    have b16 : ExB s H1 H6 := b3.trans b6
    -- what is new lies apart
    have ap : ∀ c o, H2 c = some o → c ≠ b ∧ c ≠ u := fun c o hc => ⟨ne_of_none (x2 _ _ hc) nb, ne_of_none (x2 _ _ hc) nu⟩
    have am := ap m _ (b2 _ _ ms hm)
    have a1 := ap l1 _ (b2 _ _ l1s hl1)
    have a2 := ap l2 _ (b2 _ _ l2s hl2)
    have ah : hi ≠ b ∧ hi ≠ u := ⟨ne_of_none (upd_same (H := upd H2 hx (.own hi)) (o := .ins (cHist K) hx [])) nb, ne_of_none (upd_same (H := upd H2 hx (.own hi)) (o := .ins (cHist K) hx [])) nu⟩
    have ad : hh ≠ b ∧ hh ≠ u := ⟨fun z => (by rw [z, hb] at nhh3; cases nhh3), fun z => (by rw [z, hu] at nhh3; cases nhh3)⟩
    refine qq H6 ((ExB.of xH1).trans b16) ⟨b, u, ⟨dx, hi, hx, m, mx, l1, l2, hh, [], [], [], ⟨?_, ?_, ?_, ?_, .nil, ?_, .nil, ?_, HeldD.empty K _⟩⟩, ⟨[], b6 _ _ nbs hb, .nil⟩, ⟨[], b6 _ _ nus hu, .nil⟩, nbu, HeldOk.none, (fun _ h => by cases h), (fun _ h => by cases h), by decide⟩
    · exact to_cut hs6 nbs.symm nus.symm
    · exact to_cut (b6 _ _ his h3) ah.1 ah.2
    · exact to_cut (b16 _ _ ms hm) am.1 am.2
    · exact to_cut (b16 _ _ l1s hl1) a1.1 a1.2
    · exact to_cut (b16 _ _ l2s hl2) a2.1 a2.2
    · exact to_cut hd6 ad.1 ad.2
/-! ### the line of moments -/
def spEdited (K : PySem.W.Frag) : Sp := fun vs H Q _ => ∃ (hi hx hb hu : Addr) (v : V) (bs us : List V), vs = [.ref hi, v] ∧ H hi = some (.ins (cHist K) hx (fHist (.ref hb) (.ref hu))) ∧ H hb = some (.lst bs) ∧ H hu = some (.lst us) ∧ hb ≠ hu ∧ bs.length ≤ 16 ∧
  ∀ H', ExC hb hu H H' → H' hb = some (.lst ((bs ++ [v]).drop (bs.length + 1 - 16))) → H' hu = some (.lst []) → Q .non H'
theorem G_History_edited {P : Program} {w : World} {K : PySem.W.Frag} {mg : Str → Option Value} {base : Heap} (T : Txt w K mg) : Has P w K mg base CX0 1 (He.ma K (He.ga K "History") "edited") p_History_edited (spEdited K) := by
  refine T.d_History_edited.has sc_History_edited (fun vs H Q E h => ?_) (fun cdv A outer s H vs Q E hr h => ⟨_, PSs.nox ((pss_cons (ps_expr (pe_bm PySem.F.plainAttrs_list PySem.F.slot_list_append PySem.F.type_list_append mt_append (pe_fld (pv 0) rfl) (pa_cons (pv 1) pa_nil)))
    (pss_cons (ps_if (pt_cmpR op_gt (pe_callB call_len_seq (by rfl) T.u_len PySem.boot_len (pa_cons (pe_fld (pv 0) rfl) pa_nil)) (pe_gi T.c_MOST_UNDONE) (nomark _)) (pss_one (ps_expr (pe_bm PySem.F.plainAttrs_list PySem.F.slot_list_pop PySem.F.type_list_pop mt_popAt (pe_fld (pv 0) rfl) (pa_cons pe_int pa_nil)))) pss_nil)
    (pss_one (ps_expr (pe_bm0 PySem.F.plainAttrs_list PySem.F.slot_list_clear PySem.F.type_list_clear mt_clear (pe_fld (pv 0) rfl))))))), ?_⟩)
  · obtain ⟨hi, hx, hb, hu, v, bs, us, rfl, _⟩ := h
    rfl
  · obtain ⟨hi, hx, hb, hu, v, bs, us, rfl, h1, h2, h3, ne, hz, q⟩ := h
    have nib : hi ≠ hb := ne_of h1 h2 (by intro z; cases z)
    have niu : hi ≠ hu := ne_of h1 h3 (by intro z; cases z)
    refine ⟨_, rfl, hi, _, hx, _, _, rfl, h1, T.cl_History, T.nF_History_before, lkHB .., .inl ⟨rfl, _, SqL.of h2⟩, _, rfl, hb, bs, v, rfl, rfl, h2, szlt (by omega), ?_⟩
    have c1 : ExC hb hu H (upd H hb (.lst (bs ++ [v]))) := fun c o nb _ hc => by rw [upd_ne nb]; exact hc
    have g1 : (upd H hb (.lst (bs ++ [v]))) hi = _ := c1 _ _ nib niu h1
    have g2 : (upd H hb (.lst (bs ++ [v]))) hb = some (.lst (bs ++ [v])) := upd_same
    have g3 : (upd H hb (.lst (bs ++ [v]))) hu = some (.lst us) := by rw [upd_ne ne.symm]; exact h3
    generalize upd H hb (.lst (bs ++ [v])) = H1 at c1 g1 g2 g3 ⊢
    have hlen : (bs ++ [v]).length = bs.length + 1 := by rw [List.length_append]; rfl
    -- the end: what was undone is let go
    have fin : ∀ (H2 : Hp), ExC hb hu H H2 → H2 hi = some (.ins (cHist K) hx (fHist (.ref hb) (.ref hu))) → H2 hb = some (.lst ((bs ++ [v]).drop (bs.length + 1 - 16))) → H2 hu = some (.lst us) → Q .non (upd H2 hu (.lst [])) := fun H2 c2 k1 k2 k3 => by
      refine q _ (fun c o nb nu hc => ?_) ?_ upd_same
      · rw [upd_ne nu]
        exact c2 c o nb nu hc
      · rw [upd_ne ne]
        exact k2
    refine ⟨_, rfl, hi, _, hx, _, _, rfl, g1, T.cl_History, T.nF_History_before, lkHB .., hb, _, rfl, .inl (SqL.of g2), _, _, rfl, rfl, _, rfl, iB (fun g => ?_) (fun g => ?_)⟩
    · have g := of_decide_eq_true g
      rw [hlen] at g
      obtain ⟨y, hy⟩ : ∃ y, (bs ++ [v])[0]? = some y := ⟨_, List.getElem?_eq_getElem (by omega)⟩
      refine ⟨_, rfl, hi, _, hx, _, _, rfl, g1, T.cl_History, T.nF_History_before, lkHB .., .inl ⟨rfl, _, SqL.of g2⟩, hb, _, 0, 0, y, rfl, rfl, g2, by decide, by decide, ?_, hy, ?_⟩
      · rw [hlen]
        unfold seqIndex?
        simp
      · have k1 := (upd_ne (o := HO.lst ((bs ++ [v]).eraseIdx 0)) nib).trans g1
        have k3 := (upd_ne (o := HO.lst ((bs ++ [v]).eraseIdx 0)) ne.symm).trans g3
        refine ⟨_, rfl, hi, _, hx, _, _, rfl, k1, T.cl_History, T.nF_History_undone, lkHU .., .inl ⟨rfl, us, SqL.of k3⟩, hu, us, rfl, rfl, k3, ?_⟩
        refine fin _ (fun c o nb nu hc => ?_) (by rw [upd_ne nib]; exact g1) ?_ (by rw [upd_ne ne.symm]; exact g3)
        · rw [upd_ne nb]
          exact c1 c o nb nu hc
        · rw [upd_same, show bs.length + 1 - 16 = 1 by omega, List.eraseIdx_zero, List.drop_one]
    · have g := of_decide_eq_false g
      rw [hlen] at g
      refine ⟨_, rfl, hi, _, hx, _, _, rfl, g1, T.cl_History, T.nF_History_undone, lkHU .., .inl ⟨rfl, _, SqL.of g3⟩, hu, us, rfl, rfl, g3, ?_⟩
      exact fin _ c1 g1 (by rw [show bs.length + 1 - 16 = 0 by omega]; exact g2) g3
/-- a moment taken from one list's end, the one that is left put at the other's -/
def spTakeBack (K : PySem.W.Frag) (w : Bool) : Sp := fun vs H Q E => ∃ (hi hx hb hu : Addr) (v : V) (bs us : List V), vs = [.ref hi, v] ∧ H hi = some (.ins (cHist K) hx (if w = true then fHist (.ref hb) (.ref hu) else fHist (.ref hu) (.ref hb))) ∧ H hb = some (.lst bs) ∧ H hu = some (.lst us) ∧ hb ≠ hu ∧ us.length ≤ 16 ∧
  (bs = [] → Refused K E H [.int (-3)]) ∧ ∀ b0 y, bs = b0 ++ [y] → ∀ H', ExC hb hu H H' → H' hb = some (.lst b0) → H' hu = some (.lst (us ++ [v])) → Q y H'
theorem G_History_step_back {P : Program} {w : World} {K : PySem.W.Frag} {mg : Str → Option Value} {base : Heap} (T : Txt w K mg) : Has P w K mg base (L2.CX P w) 4 (He.ma K (He.ga K "History") "step_back") p_History_step_back (spTakeBack K true) := by
  have G_NotThere_init := G_NotThere_init (P := P) (base := base) T
  refine T.d_History_step_back.hasX sc_History_step_back (fun vs H Q E h => ?_) (fun cdv A outer s H vs Q E hr h => ⟨_, ((pss_cons (ps_if (pt_cmpR op_eq (pe_callB call_len_seq (by rfl) T.u_len PySem.boot_len (pa_cons (pe_fld (pv 0) rfl) pa_nil)) pe_int (nomark _)) (pss_one (ps_raise rfl (takes_of rfl rfl rfl rfl) (pmk_c0H T.x_NotThere G_NotThere_init (hr.mono (by decide)) T.g_NotThere))) pss_nil)
    (pss_cons (ps_expr (pe_bm PySem.F.plainAttrs_list PySem.F.slot_list_append PySem.F.type_list_append mt_append (pe_fld (pv 0) rfl) (pa_cons (pv 1) pa_nil)))
    (pss_one (ps_ret (pe_bm0 PySem.F.plainAttrs_list PySem.F.slot_list_pop PySem.F.type_list_pop mt_pop (pe_fld (pv 0) rfl))))))), ?_⟩)
  · obtain ⟨hi, hx, hb, hu, v, bs, us, rfl, _⟩ := h
    rfl
  · obtain ⟨hi, hx, hb, hu, v, bs, us, rfl, h1, h2, h3, ne, hz, qE, q⟩ := h
    have h1 : H hi = some (.ins (cHist K) hx (fHist (.ref hb) (.ref hu))) := h1
    have nib : hi ≠ hb := ne_of h1 h2 (by intro z; cases z)
    have niu : hi ≠ hu := ne_of h1 h3 (by intro z; cases z)
    refine ⟨_, rfl, hi, _, hx, _, _, rfl, h1, T.cl_History, T.nF_History_before, lkHB .., hb, _, rfl, .inl (SqL.of h2), rfl, _, rfl, iB (fun g => ?_) (fun g => ?_)⟩
    · have g := of_decide_eq_true g
      injection g with g
      exact mkO_ref T.x_NotThere (qE (List.length_eq_zero_iff.mp (by omega))) rfl (by decide) (by decide) fun _ _ => ⟨rfl, rfl⟩
    · have g := of_decide_eq_false g
      have gl : bs.length ≠ 0 := fun z => g (by rw [z]; rfl)
      obtain ⟨b0, y, rfl⟩ : ∃ b0 y, bs = b0 ++ [y] := ⟨bs.dropLast, bs.getLast (fun z => gl (by rw [z]; rfl)), (List.dropLast_concat_getLast _).symm⟩
      refine ⟨_, rfl, hi, _, hx, _, _, rfl, h1, T.cl_History, T.nF_History_undone, lkHU .., .inl ⟨rfl, _, SqL.of h3⟩, _, rfl, hu, us, v, rfl, rfl, h3, szlt (by omega), ?_⟩
      have k1 := (upd_ne (o := HO.lst (us ++ [v])) niu).trans h1
      have k2 := (upd_ne (o := HO.lst (us ++ [v])) ne).trans h2
      refine ⟨_, rfl, hi, _, hx, _, _, rfl, k1, T.cl_History, T.nF_History_before, lkHB .., .inl ⟨rfl, _, SqL.of k2⟩, hb, b0 ++ [y], y, rfl, rfl, k2, ?_, ?_⟩
      · rw [List.length_append]
        show (b0 ++ [y])[b0.length + 1 - 1]? = some y
        rw [Nat.add_sub_cancel, List.getElem?_concat_length]
      · rw [List.dropLast_concat]
        refine q b0 y rfl _ (fun c o nb nu hc => ?_) upd_same ?_
        · rw [upd_ne nb, upd_ne nu]
          exact hc
        · rw [upd_ne ne.symm, upd_same]
theorem G_History_step_forth {P : Program} {w : World} {K : PySem.W.Frag} {mg : Str → Option Value} {base : Heap} (T : Txt w K mg) : Has P w K mg base (L2.CX P w) 4 (He.ma K (He.ga K "History") "step_forth") p_History_step_forth (spTakeBack K false) := by
  have G_NotThere_init := G_NotThere_init (P := P) (base := base) T
  refine T.d_History_step_forth.hasX sc_History_step_forth (fun vs H Q E h => ?_) (fun cdv A outer s H vs Q E hr h => ⟨_, ((pss_cons (ps_if (pt_cmpR op_eq (pe_callB call_len_seq (by rfl) T.u_len PySem.boot_len (pa_cons (pe_fld (pv 0) rfl) pa_nil)) pe_int (nomark _)) (pss_one (ps_raise rfl (takes_of rfl rfl rfl rfl) (pmk_c0H T.x_NotThere G_NotThere_init (hr.mono (by decide)) T.g_NotThere))) pss_nil)
    (pss_cons (ps_expr (pe_bm PySem.F.plainAttrs_list PySem.F.slot_list_append PySem.F.type_list_append mt_append (pe_fld (pv 0) rfl) (pa_cons (pv 1) pa_nil)))
    (pss_one (ps_ret (pe_bm0 PySem.F.plainAttrs_list PySem.F.slot_list_pop PySem.F.type_list_pop mt_pop (pe_fld (pv 0) rfl))))))), ?_⟩)
  · obtain ⟨hi, hx, hb, hu, v, bs, us, rfl, _⟩ := h
    rfl
  · obtain ⟨hi, hx, hb, hu, v, bs, us, rfl, h1, h2, h3, ne, hz, qE, q⟩ := h
    have h1 : H hi = some (.ins (cHist K) hx (fHist (.ref hu) (.ref hb))) := h1
    have nib : hi ≠ hb := ne_of h1 h2 (by intro z; cases z)
    have niu : hi ≠ hu := ne_of h1 h3 (by intro z; cases z)
    refine ⟨_, rfl, hi, _, hx, _, _, rfl, h1, T.cl_History, T.nF_History_undone, lkHU .., hb, _, rfl, .inl (SqL.of h2), rfl, _, rfl, iB (fun g => ?_) (fun g => ?_)⟩
    · have g := of_decide_eq_true g
      injection g with g
      exact mkO_ref T.x_NotThere (qE (List.length_eq_zero_iff.mp (by omega))) rfl (by decide) (by decide) fun _ _ => ⟨rfl, rfl⟩
    · have g := of_decide_eq_false g
      have gl : bs.length ≠ 0 := fun z => g (by rw [z]; rfl)
      obtain ⟨b0, y, rfl⟩ : ∃ b0 y, bs = b0 ++ [y] := ⟨bs.dropLast, bs.getLast (fun z => gl (by rw [z]; rfl)), (List.dropLast_concat_getLast _).symm⟩
      refine ⟨_, rfl, hi, _, hx, _, _, rfl, h1, T.cl_History, T.nF_History_before, lkHB .., .inl ⟨rfl, _, SqL.of h3⟩, _, rfl, hu, us, v, rfl, rfl, h3, szlt (by omega), ?_⟩
      have k1 := (upd_ne (o := HO.lst (us ++ [v])) niu).trans h1
      have k2 := (upd_ne (o := HO.lst (us ++ [v])) ne).trans h2
      refine ⟨_, rfl, hi, _, hx, _, _, rfl, k1, T.cl_History, T.nF_History_undone, lkHU .., .inl ⟨rfl, _, SqL.of k2⟩, hb, b0 ++ [y], y, rfl, rfl, k2, ?_, ?_⟩
      · rw [List.length_append]
        show (b0 ++ [y])[b0.length + 1 - 1]? = some y
        rw [Nat.add_sub_cancel, List.getElem?_concat_length]
      · rw [List.dropLast_concat]
        refine q b0 y rfl _ (fun c o nb nu hc => ?_) upd_same ?_
        · rw [upd_ne nb, upd_ne nu]
          exact hc
        · rw [upd_ne ne.symm, upd_same]
/-! ### moments alike -/
def spAlike (K : PySem.W.Frag) : Sp := fun vs H Q _ => ∃ (v u : V) (h g : PeepSpec.Held), vs = [v, u] ∧ MomAt K H v h ∧ MomAt K H u g ∧ HeldOk h ∧ HeldOk g ∧ ∀ H', Ex H H' → Q (.bl (decide (h = g))) H'
theorem G_are_alike {P : Program} {w : World} {K : PySem.W.Frag} {mg : Str → Option Value} {base : Heap} (T : Txt w K mg) : Has P w K mg base CX0 3 (He.ga K "are_alike") p_are_alike (spAlike K) := by
  have G_code_text := G_code_text (P := P) (base := base) T
  refine T.d_are_alike.has sc_are_alike (fun vs H Q E h => ?_) (fun cdv A outer s H vs Q E hr h => ⟨_, PSs.nox ((pss_one (ps_ret (pe_and (pe_cmpR (op_eqD hr.units) (pe_fld (pv 0) rfl) (pe_fld (pv 1) rfl) (nomark _)) (pe_one (pe_cmpR op_eq (pe_callH G_code_text (hr.mono (by decide)) T.g_code_text pass0 (pa_cons (pe_fld (pv 0) rfl) pa_nil)) (pe_callH G_code_text (hr.mono (by decide)) T.g_code_text pass0 (pa_cons (pe_fld (pv 1) rfl) pa_nil)) (nomark _))))))), ?_⟩)
  · obtain ⟨v, u, h, g, rfl, _⟩ := h
    rfl
  · obtain ⟨v, u, h, g, rfl, ⟨m, dx, il, wl, us, ws, rfl, h1, h2, h3, h4, h5⟩, ⟨m', dx', il', wl', us', ws', rfl, h1', h2', h3', h4', h5'⟩, ok, ok', q⟩ := h
    have key := ok.same ok'
    refine ⟨_, rfl, m, _, dx, _, _, rfl, h1, T.cl_Moment, T.nF_Moment_worked, lkMW .., ?_⟩
    refine ⟨_, rfl, m', _, dx', _, _, rfl, h1', T.cl_Moment, T.nF_Moment_worked, lkMW .., ?_⟩
    refine ⟨_, _, dp_pairs h4 h5, dp_pairs h4' h5', shaped_pairs _, shaped_pairs _, _, congrArg V.bl (eq_pairs _ _), iB (fun c => ?_) (fun c => ?_)⟩
    · have c := of_decide_eq_true c
      refine ⟨_, rfl, m, _, dx, _, _, rfl, h1, T.cl_Moment, T.nF_Moment_instructions, lkMI .., il, us, h.code, rfl, SqL.of h2, h3, ok.ok, by have := ok.short; omega, fun H1 e1 => ?_⟩
      refine ⟨_, rfl, m', _, dx', _, _, rfl, e1 _ _ h1', T.cl_Moment, T.nF_Moment_instructions, lkMI .., il', us', g.code, rfl, SqL.of (e1 _ _ h2'), h3'.mono (ExI.of e1), ok'.ok, by have := ok'.short; omega, fun H2 e2 => ⟨rfl, ?_⟩⟩
      have e : decide (V.str (S (PeCode.codeText h.code)) = V.str (S (PeCode.codeText g.code))) = decide (h = g) := by
        simp only [V.str.injEq, S_eq]
        exact decide_eq_decide.mpr ⟨fun z => key.mpr ⟨c, z⟩, fun z => (key.mp z).2⟩
      rw [e]
      exact q H2 (e1.trans e2)
    · have c := of_decide_eq_false c
      have e : decide (h = g) = false := decide_eq_false fun z => c (key.mp z).1
      have := q H (Ex.refl H)
      rw [e] at this
      exact this
end Pb

set_option Elab.async false
set_option linter.all false
set_option maxRecDepth 100000
set_option maxHeartbeats 4000000
namespace Pb
open PySem PySem.Spec PyProof.Rows L2 Evl PbX
/-- all but the session and the two lists stands -/
def ExS (s a b : Addr) (H H' : Hp) : Prop := ∀ c o, c ≠ s → c ≠ a → c ≠ b → H c = some o → H' c = some o
theorem ExS.of {s a b : Addr} {H H' : Hp} (e : Ex H H') : ExS s a b H H' := fun c o _ _ _ h => e c o h
theorem ExS.trans {s a b : Addr} {H H1 H2 : Hp} (e : ExS s a b H H1) (f : ExS s a b H1 H2) : ExS s a b H H2 := fun c o n1 n2 n3 h => f c o n1 n2 n3 (e c o n1 n2 n3 h)
theorem SAh.at_s {K : PySem.W.Frag} {hb hu : Addr} {H : Hp} {s : Addr} {d : PeepSpec.State} (h : SAh K hb hu H s d) : ∃ sx m hi hh, H s = some (.ins (cSess K) sx (fSess m hi hh)) := by
  obtain ⟨sx, hi, hx, m, mx, il, wl, hh, us, ws, kvs, w⟩ := h.view
  exact ⟨sx, _, _, _, w.s_⟩
theorem ExS.stay {K : PySem.W.Frag} {hb hu : Addr} {H H' : Hp} {s : Addr} {d : PeepSpec.State} (h : SAh K hb hu H s d) (e : ExS s hb hu H H') : StayR K H H' := fun c o f hc => by
  obtain ⟨sx, m, hi, hh, h1⟩ := h.at_s
  obtain ⟨bs, h2, _⟩ := h.bef
  obtain ⟨us, h3, _⟩ := h.und
  refine e c o (fun z => ?_) (fun z => ?_) (fun z => ?_) hc
  · rw [z, h1] at hc
    rw [← Option.some.inj hc] at f
    exact nrSess K _ _ _ _ _ f
  · rw [z, h2] at hc
    rw [← Option.some.inj hc] at f
    exact nrL K _ f
  · rw [z, h3] at hc
    rw [← Option.some.inj hc] at f
    exact nrL K _ f
def spBecome (K : PySem.W.Frag) : Sp := fun vs H Q _ => ∃ (s m hb hu : Addr) (d : PeepSpec.State) (h : PeepSpec.Held), vs = [.ref s, .ref m] ∧ SAh K hb hu H s d ∧ MomAt K (cut hb hu H) (.ref m) h ∧ HeldOk h ∧
  ∀ H', ExS s hb hu H H' → SAh K hb hu H' s (PeepSpec.edited d h) → Q .non H'
theorem past_rev (x : PeepSpec.Held) (l : List PeepSpec.Held) : ((x :: l).take 16).reverse = (l.reverse ++ [x]).drop (l.reverse.length + 1 - 16) := by
  rw [List.reverse_take, List.reverse_cons, List.length_cons, List.length_reverse]
theorem G_Session_become {P : Program} {w : World} {K : PySem.W.Frag} {mg : Str → Option Value} {base : Heap} (T : Txt w K mg) : Has P w K mg base CX0 4 (He.ma K (He.ga K "Session") "become") p_Session_become (spBecome K) := by
  have G_History_edited := G_History_edited (P := P) (base := base) T
  have G_are_alike := G_are_alike (P := P) (base := base) T
  refine T.d_Session_become.has sc_Session_become (fun vs H Q E h => ?_) (fun cdv A outer s H vs Q E hr h => ⟨_, PSs.nox ((pss_one (ps_if (pt_not (pt_val (pe_callH G_are_alike (hr.mono (by decide)) T.g_are_alike pass0 (pa_cons (pe_fld (pv 0) rfl) (pa_cons (pv 1) pa_nil))))) (pss_cons (ps_expr (pe_methH (pe_fld (pv 0) rfl) T.cl_History T.m_History_edited G_History_edited (hr.mono (by decide)) pass0 (pa_cons (pe_fld (pv 0) rfl) pa_nil)))
    (pss_one (ps_fld (pv 0) (pv 1) rfl))) pss_nil))), ?_⟩)
  · obtain ⟨s, m, hb, hu, d, h, rfl, _⟩ := h
    rfl
  · obtain ⟨s, m, hb, hu, d, h, rfl, hs, hm, ok, q⟩ := h
    obtain ⟨sx, hi, hx, m0, mx, il, wl, hh, us, ws, kvs, w⟩ := hs.view
    refine ⟨_, rfl, s, _, sx, _, _, rfl, w.s_, T.cl_Session, T.nF_Session_now, lkNow .., _, rfl, .ref m0, .ref m, d.now, h, rfl, w.mom, hm.monoQ (ExQ.of Ex.cut), hs.okn, ok, fun H1 e1 => ?_⟩
    have hs1 := hs.grow e1
    have hm1 := hm.monoQ (ExQ.of (cutE e1))
    refine ⟨_, rfl, iB (fun c => ?_) (fun c => ?_)⟩
    · have c : ¬ d.now = h := by simpa using c
      obtain ⟨sx, hi, hx, m0, mx, il, wl, hh, us, ws, kvs, w⟩ := hs1.see
      obtain ⟨bs, b1, b2⟩ := hs1.bef
      obtain ⟨un, u1, u2⟩ := hs1.und
      have wv := w.mono Ex.cut
      have nbs : s ≠ hb := (of_cut w.s_).2.1
      have nus : s ≠ hu := (of_cut w.s_).2.2
      have hbl := b2.length
      have few := hs1.few
      rw [List.length_reverse] at hbl
      refine ⟨_, rfl, s, _, sx, _, _, rfl, wv.s_, T.cl_Session, T.nF_Session_history, lkHist .., hi, hx, _, rfl, wv.hi_, by rfl, _, rfl, s, _, sx, _, _, rfl, wv.s_, T.cl_Session, T.nF_Session_now, lkNow .., hi, hx, hb, hu, .ref m0, bs, un, rfl, wv.hi_, b1, u1, hs.ne, by omega, fun H2 c2 k2 k3 => ?_⟩
      have q2 : ExQ (cut hb hu H1) (cut hb hu H2) := ExQ.of c2.cut
      have w2 := w.mono c2.cut
      have s2 : H2 s = _ := (of_cut w2.s_).1
      refine ⟨_, rfl, _, rfl, s, _, sx, _, rfl, s2, T.cl_Session, T.nF_Session_now, by show 3 < 1000; decide, ?_⟩
      have ec : cut hb hu (upd H2 s (.ins (cSess K) sx (putF "now" (.ref m) (fSess (.ref m0) (.ref hi) (.ref hh))))) = upd (cut hb hu H2) s (.ins (cSess K) sx (fSess (.ref m) (.ref hi) (.ref hh))) := cut_upd nbs nus
      have q3 : ExQ (cut hb hu H2) (upd (cut hb hu H2) s (.ins (cSess K) sx (fSess (.ref m) (.ref hi) (.ref hh)))) := ExQ.upd w2.s_ (nfSess _ _ _ _ _)
      have ed : PeepSpec.edited d h = { d with now := h, past := (d.now :: d.past).take 16, undone := [] } := if_neg (fun z => c z.symm)
      rw [ed] at q
      refine q _ (fun x o n1 n2 n3 hx => ?_) ⟨?_, ⟨(bs ++ [V.ref m0]).drop (bs.length + 1 - 16), ?_, ?_⟩, ⟨[], ?_, .nil⟩, hs.ne, ok, fun g hg => ?_, (fun g hg => by cases hg), ?_⟩
      · rw [upd_ne n1]
        exact c2 x o n2 n3 (e1 _ _ hx)
      · rw [ec]
        obtain ⟨m', mx', il', wl', us', ws', e, g1, g2, g3, g4, g5⟩ := (hm1.monoQ q2).monoQ q3
        have e' : m = m' := V.ref.inj e
        subst e'
        refine ⟨sx, hi, hx, m, mx', il', wl', hh, us', ws', kvs, ⟨upd_same, q3 _ _ (firmH ..) w2.hi_, g1, g2, g3, g4, g5, ?_, w2.held.monoQ q3⟩⟩
        rw [upd_ne (ne_of w2.hh_ w2.s_ (by intro z; cases z))]
        exact w2.hh_
      · rw [upd_ne nbs.symm]
        exact k2
      · rw [ec]
        show All2 _ _ ((d.now :: d.past).take 16).reverse
        rw [past_rev, List.length_reverse, ← hbl]
        exact (All2.append (All2.mono (fun _ _ z => (MomAt.monoQ q2 z).monoQ q3) b2) (.cons ((w2.mom).monoQ q3) .nil)).drop _
      · rw [upd_ne nus.symm]
        exact k3
      · rcases List.mem_cons.mp (List.mem_of_mem_take hg) with rfl | hg
        · exact hs.okn
        · exact hs.okp g hg
      · show ((d.now :: d.past).take 16).length + 0 ≤ 16
        rw [List.length_take]
        omega
    · have c : d.now = h := by simpa using c
      have ed : PeepSpec.edited d h = d := if_pos c.symm
      rw [ed] at q
      exact q H1 (ExS.of e1) hs1
def sizeL (h : PeepSpec.Held) : List Int := [0, (h.code.length : Int), (PeCode.costOf h.code : Int)]
def spSize (K : PySem.W.Frag) : Sp := fun vs H Q _ => ∃ (s : Addr) (d : PeepSpec.State), vs = [.ref s] ∧ SA2 K H s d ∧ ∀ H' p, H p = none → Ex H H' → H' p = some (.lst ((sizeL d.now).map V.int)) → Q (.ref p) H'
theorem G_Session_size {P : Program} {w : World} {K : PySem.W.Frag} {mg : Str → Option Value} {base : Heap} (T : Txt w K mg) : Has P w K mg base CX0 2 (He.ma K (He.ga K "Session") "size") p_Session_size (spSize K) := by
  have G_cost_of := G_cost_of (P := P) (base := base) T
  refine T.d_Session_size.has sc_Session_size (fun vs H Q E h => ?_) (fun cdv A outer s H vs Q E hr h => ⟨_, PSs.nox ((pss_one (ps_ret (pe_lst (pa_cons pe_int (pa_cons (pe_callB call_len_seq (by rfl) T.u_len PySem.boot_len (pa_cons (pe_fld (pe_fld (pv 0) rfl) rfl) pa_nil)) (pa_cons (pe_callH G_cost_of (hr.mono (by decide)) T.g_cost_of pass0 (pa_cons (pe_fld (pe_fld (pv 0) rfl) rfl) pa_nil)) pa_nil))))))), ?_⟩)
  · obtain ⟨s, d, rfl, _⟩ := h
    rfl
  · obtain ⟨s, d, rfl, ⟨hb, hu, hs⟩, q⟩ := h
    obtain ⟨sx, hi, hx, m, mx, il, wl, hh, us, ws, kvs, w⟩ := hs.view
    have sh := hs.okn.short
    refine ⟨_, rfl, s, _, sx, _, _, rfl, w.s_, T.cl_Session, T.nF_Session_now, lkNow .., m, _, mx, _, _, rfl, w.m_, T.cl_Moment, T.nF_Moment_instructions, lkMI .., il, us, rfl, .inl (SqL.of w.il_), ?_⟩
    refine ⟨_, rfl, s, _, sx, _, _, rfl, w.s_, T.cl_Session, T.nF_Session_now, lkNow .., m, _, mx, _, _, rfl, w.m_, T.cl_Moment, T.nF_Moment_instructions, lkMI .., il, us, d.now.code.map (·.op), rfl, SqL.of w.il_, w.cv.map_r fun _ _ h => h.word, by rw [List.length_map]; omega, fun H2 e2 => ?_⟩
    refine ⟨by show 3 ≤ sizeLine; decide, fun p hp => ?_⟩
    refine q _ p (fresh_back e2 hp) (e2.trans (Ex.new hp)) ?_
    rw [upd_same, w.cv.length]
    show some (HO.lst [V.int 0, V.int (d.now.code.length : Nat), V.int _]) = some (HO.lst [V.int 0, V.int (d.now.code.length : Nat), V.int (PeCode.costOf d.now.code : Nat)])
    rw [cost_ops]
def spHandIn (K : PySem.W.Frag) : Sp := fun vs H Q _ => ∃ (s l hb hu : Addr) (d : PeepSpec.State) (us : List V) (c : PeCode.Code), vs = [.ref s, .ref l] ∧ SAh K hb hu H s d ∧ l ≠ hb ∧ l ≠ hu ∧ H l = some (.lst us) ∧ CodeV K H us c ∧ HeldOk ⟨c, []⟩ ∧
  ∀ H' p, ExS s hb hu H H' → SAh K hb hu H' s (PeepSpec.edited d ⟨c, []⟩) → H' p = some (.lst ((sizeL ⟨c, []⟩).map V.int)) → Q (.ref p) H'
theorem edited_now (d : PeepSpec.State) (h : PeepSpec.Held) : (PeepSpec.edited d h).now = h := by
  unfold PeepSpec.edited
  split
  · rename_i e
    rw [e]
  · rfl
theorem G_Session_hand_in {P : Program} {w : World} {K : PySem.W.Frag} {mg : Str → Option Value} {base : Heap} (T : Txt w K mg) : Has P w K mg base CX0 5 (He.ma K (He.ga K "Session") "hand_in") p_Session_hand_in (spHandIn K) := by
  have G_Session_become := G_Session_become (P := P) (base := base) T
  have G_Session_size := G_Session_size (P := P) (base := base) T
  have G_Moment_init := G_Moment_init (P := P) (base := base) T
  refine T.d_Session_hand_in.has sc_Session_hand_in (fun vs H Q E h => ?_) (fun cdv A outer s H vs Q E hr h => ⟨_, PSs.nox ((pss_cons (ps_expr (pe_methH (pv 0) T.cl_Session T.m_Session_become G_Session_become (hr.mono (by decide)) pass0 (pa_cons (pe_makeH T.k_Moment G_Moment_init (hr.mono (by decide)) T.g_Moment pass0 (pa_cons (pv 1) (pa_cons (pe_lst pa_nil) pa_nil))) pa_nil)))
    (pss_one (ps_ret (pe_meth0H (pv 0) T.cl_Session T.m_Session_size G_Session_size (hr.mono (by decide)) pass0))))), ?_⟩)
  · obtain ⟨s, l, hb, hu, d, us, c, rfl, _⟩ := h
    rfl
  · obtain ⟨s, l, hb, hu, d, us, c, rfl, hs, nlb, nlu, hl, hc, ok, q⟩ := h
    obtain ⟨sx, hi, hx, m0, mx, il, wl, hh, us0, ws, kvs, w⟩ := hs.view
    obtain ⟨bs, b1, b2⟩ := hs.bef
    obtain ⟨un, u1, u2⟩ := hs.und
    refine ⟨_, rfl, s, sx, _, rfl, w.s_, by rfl, _, rfl, sz0, fun l2 n2 => ?_⟩
    intro m mx nm nmx nem
    refine mk_newA nm nmx rfl fun H1 e1 hm => ⟨rfl, ?_⟩
    have x1 : Ex H H1 := (Ex.new n2).trans e1
    have hs1 := hs.grow x1
    have hl2 : H1 l2 = some (.lst []) := e1 _ _ upd_same
    have ap : ∀ x, H x = none → x ≠ hb ∧ x ≠ hu := fun x hx => ⟨(ne_of_none b1 hx).symm, (ne_of_none u1 hx).symm⟩
    have am := ap m (fresh_back (Ex.new n2) nm)
    have a2 := ap l2 n2
    have q1 : ExI H (cut hb hu H1) := (ExI.of x1).trans (ExI.cut (x1 _ _ b1) (x1 _ _ u1))
    refine ⟨s, m, hb, hu, d, ⟨c, []⟩, rfl, hs1, ⟨m, mx, l, l2, us, [], rfl, to_cut hm am.1 am.2, to_cut (x1 _ _ hl) nlb nlu, hc.mono q1, to_cut hl2 a2.1 a2.2, .nil⟩, ok, fun H2 e2 hs2 => ?_⟩
    obtain ⟨sx2, mm, hi2, hh2, k2⟩ := hs2.at_s
    refine ⟨_, rfl, s, sx2, _, rfl, k2, by rfl, s, _, rfl, ⟨hb, hu, hs2⟩, fun H3 p np e3 h3 => ?_⟩
    rw [edited_now] at h3
    exact q H3 p ((ExS.of x1).trans (e2.trans (ExS.of e3))) (hs2.grow e3) h3
end Pb

set_option Elab.async false
set_option linter.all false
set_option maxRecDepth 100000
set_option maxHeartbeats 4000000
namespace Pb
open PySem PySem.Spec PyProof.Rows L2 Evl PbX
def spWhole (K : PySem.W.Frag) : Sp := fun vs H Q E => ∃ (l : Addr) (b : PeCode.Bytes), vs = [.ref l] ∧ SqL K H l (numsV b) ∧ b.length ≤ 100000 ∧ (4096 < b.length → Refused K E H [.int (-1)]) ∧ (b.length ≤ 4096 → (∀ k, PeCode.readCode b = .error k → Refused K E H [.int (-6), .int k]) ∧
  ∀ c, PeCode.readCode b = .ok c → (128 < c.length → Refused K E H [.int (-9)]) ∧ (c.length ≤ 128 → ∀ H' p vs, H p = none → Ex H H' → H' p = some (.lst vs) → CodeV K H' vs c → Q (.ref p) H'))
theorem G_read_whole_code {P : Program} {w : World} {K : PySem.W.Frag} {mg : Str → Option Value} {base : Heap} (T : Txt w K mg) : Has P w K mg base (L2.CX P w) 7 (He.ga K "read_whole_code") p_read_whole_code (spWhole K) := by
  have G_read_code := G_read_code (P := P) (base := base) T
  have G_text_of := G_text_of (P := P) (base := base) T
  have G_NoRoom_init := G_NoRoom_init (P := P) (base := base) T
  refine T.d_read_whole_code.hasX sc_read_whole_code (fun vs H Q E h => ?_) (fun cdv A outer s H vs Q E hr h => ⟨_, ((pss_cons (ps_set (i := 1) sc_read_whole_code.nd rfl (Or.inl rfl) (pe_callH G_read_code (hr.mono (by decide)) T.g_read_code (passes_call (takes_of rfl rfl rfl rfl) (fun _ _ _ _ h => h)) (pa_cons (pe_callH G_text_of (hr.mono (by decide)) T.g_text_of (passes_call (takes_of rfl rfl rfl rfl) (fun _ _ _ _ h => h)) (pa_cons (pv 0) pa_nil)) pa_nil)))
    (pss_cons (ps_if (pt_cmpR op_gt (pe_callB call_len_seq (by rfl) T.u_len PySem.boot_len (pa_cons (pv 1) pa_nil)) (pe_gi T.c_MOST_INSTRUCTIONS) (nomark _)) (pss_one (ps_raise rfl (takes_of rfl rfl rfl rfl) (pmk_c0H T.x_NoRoom G_NoRoom_init (hr.mono (by decide)) T.g_NoRoom))) pss_nil)
    (pss_one (ps_ret (pv 1)))))), ?_⟩)
  · obtain ⟨l, b, rfl, _⟩ := h
    rfl
  · obtain ⟨l, b, rfl, hl, hb, q1, q2⟩ := h
    refine ⟨_, rfl, l, b, rfl, hl, by omega, fun c => q1 c, fun c H1 e1 => ?_⟩
    obtain ⟨q6, q3⟩ := q2 c
    refine ⟨b.map Pb.cl, rfl, Lo.cl b, by rw [List.length_map]; omega, fun k hk => ?_, fun c hc H2 p vs hp e2 hpl hcv => ?_⟩
    · rw [readCode_cl] at hk
      exact (q6 k hk).mono e1
    rw [readCode_cl] at hc
    obtain ⟨q9, q0⟩ := q3 c hc
    have e12 := e1.trans e2
    have nv := hcv.length
    refine ⟨_, rfl, p, _, rfl, .inl (SqL.of hpl), ?_⟩
    refine ⟨_, _, rfl, rfl, _, rfl, iB (fun g => ?_) (fun g => ?_)⟩
    · have g := of_decide_eq_true g
      exact mkO_ref T.x_NoRoom ((q9 (by omega)).mono e12) rfl (by decide) (by decide) fun _ _ => ⟨rfl, rfl⟩
    · have g := of_decide_eq_false g
      exact ⟨_, rfl, q0 (by omega) H2 p vs (fresh_back e1 hp) e12 hpl hcv⟩
theorem st_load {d : PeepSpec.State} {t : PeCode.Bytes} : stepS d (.load t) = if 4096 < t.length then (d, [-1]) else match PeCode.readCode t with
    | .error k => (d, [-6, (k : Int)])
    | .ok c => if 128 < c.length then (d, [-9]) else (PeepSpec.edited d ⟨c, []⟩, [0, (c.length : Int), (PeCode.costOf c : Int)]) := by
  unfold stepS PeepSpec.step
  dsimp only
  by_cases h : 4096 < t.length
  · rw [if_pos (show PeepSpec.TEXT < t.length from h), if_pos h]
    rfl
  · rw [if_neg (show ¬ PeepSpec.TEXT < t.length from h), if_neg h]
    cases PeCode.readCode t with
    | error k => rfl
    | ok c =>
      dsimp only
      by_cases g : 128 < c.length
      · rw [if_pos (show PeCode.CODE < c.length from g), if_pos g]; rfl
      · rw [if_neg (show ¬ PeCode.CODE < c.length from g), if_neg g]; rfl
/-- a new list lies apart from the two -/
theorem SAh.apart {K : PySem.W.Frag} {hb hu : Addr} {H : Hp} {s : Addr} {d : PeepSpec.State} (h : SAh K hb hu H s d) {p : Addr} (n : H p = none) : p ≠ hb ∧ p ≠ hu := by
  obtain ⟨bs, h2, _⟩ := h.bef
  obtain ⟨us, h3, _⟩ := h.und
  exact ⟨(ne_of_none h2 n).symm, (ne_of_none h3 n).symm⟩
theorem G_Session_load {P : Program} {w : World} {K : PySem.W.Frag} {mg : Str → Option Value} {base : Heap} (T : Txt w K mg) : Has P w K mg base (L2.CX P w) 8 (He.ma K (He.ga K "Session") "load") p_Session_load (spSX K (SA2 K) 1 (argB K PeepSpec.Call.load)) := by
  have G_Session_hand_in := G_Session_hand_in (P := P) (base := base) T
  have G_read_whole_code := G_read_whole_code (P := P) (base := base) T
  refine T.d_Session_load.hasX sc_Session_load (fun vs H Q E h => ?_) (fun cdv A outer s H vs Q E hr h => ⟨_, ((pss_one (ps_ret (pe_methH (pv 0) T.cl_Session T.m_Session_hand_in G_Session_hand_in (hr.mono (by decide)) pass0 (pa_cons (pe_callH G_read_whole_code (hr.mono (by decide)) T.g_read_whole_code (passes_call (takes_of rfl rfl rfl rfl) (fun _ _ _ _ h => h)) (pa_cons (pv 1) pa_nil)) pa_nil))))), ?_⟩)
  · obtain ⟨s, d, as, x, rfl, ha, _⟩ := h
    rw [List.length_cons, ha]
    rfl
  · obtain ⟨s, d, as, x, rfl, _, hs, ⟨l, b, rfl, hl, hb, rfl⟩, q, qx⟩ := h
    have hst := st_load (d := d) (t := b)
    obtain ⟨b1, b2, hs1⟩ := hs
    have hs : SA2 K H s d := ⟨b1, b2, hs1⟩
    obtain ⟨sx, hi, hx, m, mx, il, wl, hh, us, ws, kvs, w⟩ := hs1.view
    refine ⟨_, rfl, s, sx, _, rfl, w.s_, by rfl, _, rfl, l, b, rfl, SqL.of hl, by omega, fun c => ?_, fun c => ⟨fun k hk => ?_, fun c2 hc => ⟨fun z => ?_, fun z H1 p vs np e1 hp hcv => ?_⟩⟩⟩
    · rw [if_pos c] at hst
      exact refused_of hs qx hst rfl
    · rw [if_neg (by omega), hk] at hst
      exact refused_of hs qx hst rfl
    · rw [if_neg (by omega), hc] at hst
      dsimp only at hst
      rw [if_pos z] at hst
      exact refused_of hs qx hst rfl
    rw [if_neg (by omega), hc] at hst
    dsimp only at hst
    rw [if_neg (by omega)] at hst
    have ap := hs1.apart np
    refine ⟨s, p, b1, b2, d, vs, c2, rfl, hs1.grow e1, ap.1, ap.2, hp, hcv, HeldOk.fresh (readCode_ok hc) (readCode_n hc) z, fun H3 p3 e3 hs3 h3 => ?_⟩
    unfold Told at q
    rw [hst] at q
    exact q H3 p3 ((StayR.of e1).trans (ExS.stay (hs1.grow e1) e3)) ⟨b1, b2, hs3⟩ h3
theorem behind_gives (b : PeCode.Bytes) : (0 : Int) :: Neutral.behind (PeepSpec.gives b) = 0 :: b.map (fun c => (c.toNat : Int)) := rfl
theorem numsV_map (b : PeCode.Bytes) : (b.map (fun c => (c.toNat : Int))).map V.int = numsV b := by
  rw [List.map_map]
  rfl
theorem codeText_len : ∀ {c : PeCode.Code}, CodeOk c → (PeCode.codeText c).length ≤ 31 * c.length
  | [], _ => Nat.zero_le _
  | i :: c, ok => by
    have ih := codeText_len (c := c) fun j hj => ok j (List.mem_cons_of_mem _ hj)
    have h1 := text_len (ok i (List.mem_cons_self ..))
    unfold PeCode.codeText at ih ⊢
    rw [List.flatMap_cons, List.length_append, List.length_append]
    show i.text.length + 1 + _ ≤ 31 * (c.length + 1)
    omega
theorem st_code (d : PeepSpec.State) : stepS d .code = (d, 0 :: (PeCode.codeText d.now.code).map (fun c => (c.toNat : Int))) := rfl
theorem G_Session_code {P : Program} {w : World} {K : PySem.W.Frag} {mg : Str → Option Value} {base : Heap} (T : Txt w K mg) : Has P w K mg base CX0 3 (He.ma K (He.ga K "Session") "code") p_Session_code (spS0 K (SA2 K) 0 (arg0 PeepSpec.Call.code)) := by
  have G_bytes_of := G_bytes_of (P := P) (base := base) T
  have G_code_text := G_code_text (P := P) (base := base) T
  refine T.d_Session_code.has sc_Session_code (fun vs H Q E h => ?_) (fun cdv A outer s H vs Q E hr h => ⟨_, PSs.nox ((pss_one (ps_ret (pe_op op_cat (pe_lst (pa_cons pe_int pa_nil)) (pe_callH G_bytes_of (hr.mono (by decide)) T.g_bytes_of pass0 (pa_cons (pe_callH G_code_text (hr.mono (by decide)) T.g_code_text pass0 (pa_cons (pe_fld (pe_fld (pv 0) rfl) rfl) pa_nil)) pa_nil)))))), ?_⟩)
  · obtain ⟨s, d, as, x, rfl, ha, _⟩ := h
    rw [List.length_cons, ha]
    rfl
  · obtain ⟨s, d, as, x, rfl, _, hs, ⟨rfl, rfl⟩, q⟩ := h
    obtain ⟨b1, b2, hs1⟩ := hs
    have hs : SA2 K H s d := ⟨b1, b2, hs1⟩
    obtain ⟨sx, hi, hx, m, mx, il, wl, hh, us, ws, kvs, w⟩ := hs1.view
    refine ⟨by show 1 ≤ sizeLine; decide, fun p hp => ?_⟩
    have x1 := Ex.new (o := .lst [V.int 0]) hp
    refine ⟨_, rfl, s, _, sx, _, _, rfl, x1 _ _ w.s_, T.cl_Session, T.nF_Session_now, lkNow .., m, _, mx, _, _, rfl, x1 _ _ w.m_, T.cl_Moment, T.nF_Moment_instructions, lkMI .., ?_⟩
    refine ⟨il, us, d.now.code, rfl, SqL.of (x1 _ _ w.il_), w.cv.monoQ (ExQ.of x1), hs1.okn.ok, by have := hs1.okn.short; omega, fun H2 e2 => ?_⟩
    have ln := codeText_len hs1.okn.ok
    have sh := hs1.okn.short
    refine ⟨_, rfl, by omega, fun H3 p3 hp3 e3 h3' => ?_⟩
    have x2 := x1.trans (e2.trans e3)
    refine ⟨p, p3, _, _, rfl, rfl, (e2.trans e3) p _ upd_same, h3', ?_, fun p4 hp4 => ?_⟩
    · unfold numsV
      rw [List.length_map]
      exact szl (by show 1 + _ ≤ 1000000; omega)
    · have x3 := x2.trans (Ex.new (o := .lst ([V.int 0] ++ numsV (PeCode.codeText d.now.code))) hp4)
      unfold Told at q
      rw [st_code] at q
      refine q _ p4 (StayR.of x3) (hs.grow x3) ?_
      rw [upd_same, List.map_cons, numsV_map]
      rfl
theorem st_cut {d : PeepSpec.State} {i : Nat} : stepS d (.cut i) = if d.now.code.length ≤ i then (d, [-3]) else (PeepSpec.edited d ⟨d.now.code.take i ++ d.now.code.drop (i + 1), []⟩, [0, ((d.now.code.take i ++ d.now.code.drop (i + 1)).length : Int), (PeCode.costOf (d.now.code.take i ++ d.now.code.drop (i + 1)) : Int)]) := by
  unfold stepS PeepSpec.step
  dsimp only
  by_cases h : d.now.code.length ≤ i
  · rw [if_pos h, if_pos h]; rfl
  · rw [if_neg h, if_neg h]; rfl
theorem G_Session_cut {P : Program} {w : World} {K : PySem.W.Frag} {mg : Str → Option Value} {base : Heap} (T : Txt w K mg) : Has P w K mg base (L2.CX P w) 6 (He.ma K (He.ga K "Session") "cut") p_Session_cut (spSX K (SA2 K) 1 (argN PeepSpec.Call.cut)) := by
  have G_Session_hand_in := G_Session_hand_in (P := P) (base := base) T
  have G_NotThere_init := G_NotThere_init (P := P) (base := base) T
  refine T.d_Session_cut.hasX sc_Session_cut (fun vs H Q E h => ?_) (fun cdv A outer s H vs Q E hr h => ⟨_, ((pss_cons (ps_set (i := 2) sc_Session_cut.nd rfl (Or.inl rfl) (pe_fld (pe_fld (pv 0) rfl) rfl))
    (pss_cons (ps_if (pt_cmpR op_ge (pv 1) (pe_callB call_len_seq (by rfl) T.u_len PySem.boot_len (pa_cons (pv 2) pa_nil)) (nomark _)) (pss_one (ps_raise rfl (takes_of rfl rfl rfl rfl) (pmk_c0H T.x_NotThere G_NotThere_init (hr.mono (by decide)) T.g_NotThere))) pss_nil)
    (pss_one (ps_ret (pe_methH (pv 0) T.cl_Session T.m_Session_hand_in G_Session_hand_in (hr.mono (by decide)) pass0 (pa_cons (pe_op op_cat (pe_slice sl_list (pv 2) po_none (po_some (pv 1))) (pe_slice sl_list (pv 2) (po_some (pe_op op_add (pv 1) pe_int)) po_none)) pa_nil))))))), ?_⟩)
  · obtain ⟨s, d, as, x, rfl, ha, _⟩ := h
    rw [List.length_cons, ha]
    rfl
  · obtain ⟨s, d, as, x, rfl, _, hs, ⟨i, rfl, hi, rfl⟩, q, qx⟩ := h
    have hst := st_cut (d := d) (i := i)
    obtain ⟨b1, b2, hs1⟩ := hs
    have hs : SA2 K H s d := ⟨b1, b2, hs1⟩
    obtain ⟨sx, hi, hx, m, mx, il, wl, hh, us, ws, kvs, w⟩ := hs1.view
    have h2 := w.il_
    have h3 := w.cv
    have nu := h3.length
    refine ⟨_, rfl, s, _, sx, _, _, rfl, w.s_, T.cl_Session, T.nF_Session_now, lkNow .., m, _, mx, _, _, rfl, w.m_, T.cl_Moment, T.nF_Moment_instructions, lkMI .., ?_⟩
    refine ⟨_, rfl, _, rfl, il, us, rfl, .inl (SqL.of h2), _, _, rfl, rfl, _, rfl, iB (fun g => ?_) (fun g => ?_)⟩
    · have g := of_decide_eq_true g
      rw [if_pos (by omega)] at hst
      exact mkO_ref T.x_NotThere (refused_of hs qx hst rfl) rfl (by decide) (by decide) fun _ _ => ⟨rfl, rfl⟩
    have g := of_decide_eq_false g
    rw [if_neg (by omega)] at hst
    refine ⟨_, rfl, s, sx, _, rfl, w.s_, by rfl, ?_⟩
    refine ⟨_, rfl, _, rfl, _, rfl, il, us, rfl, SqL.of h2, fun p1 hp1 => ?_⟩
    have x1 := Ex.new (o := .lst (cutV us none (some (i : Int)))) hp1
    refine ⟨_, rfl, _, rfl, _, _, rfl, rfl, _, rfl, il, us, rfl, SqL.of (x1 _ _ h2), fun p2 hp2 => ?_⟩
    have x2 := x1.trans (Ex.new (o := .lst (cutV us (some ((i : Int) + 1)) none)) hp2)
    have z1 := cutV_length us none (some (i : Int))
    have z2 := cutV_length us (some ((i : Int) + 1)) none
    have sh := hs1.okn.short
    refine ⟨p1, p2, _, _, rfl, rfl, (Ex.new hp2) _ _ upd_same, upd_same, szl (by omega), fun p3 hp3 => ?_⟩
    have x3 := x2.trans (Ex.new (o := .lst (cutV us none (some (i : Int)) ++ cutV us (some ((i : Int) + 1)) none)) hp3)
    have hcv : CodeV K H (cutV us none (some (i : Int)) ++ cutV us (some ((i : Int) + 1)) none) (d.now.code.take i ++ d.now.code.drop (i + 1)) := by
      rw [cutV_to, show ((i : Int) + 1) = ((i + 1 : Nat) : Int) by omega, cutV_from]
      exact All2.append (h3.take i) (h3.drop _)
    have ap := hs1.apart (fresh_back x2 hp3)
    refine ⟨s, p3, b1, b2, d, _, _, rfl, hs1.grow x3, ap.1, ap.2, upd_same, hcv.monoQ (ExQ.of x3), HeldOk.fresh (fun j hj => ?_) (fun j hj => ?_) ?_, fun H3 p4 r3 hs3 h3 => ?_⟩
    · rcases List.mem_append.mp hj with hj | hj
      · exact hs1.okn.ok j (List.mem_of_mem_take hj)
      · exact hs1.okn.ok j (List.mem_of_mem_drop hj)
    · rcases List.mem_append.mp hj with hj | hj
      · exact hs1.okn.nm j (List.mem_of_mem_take hj)
      · exact hs1.okn.nm j (List.mem_of_mem_drop hj)
    · rw [List.length_append, List.length_take, List.length_drop]
      omega
    · unfold Told at q
      rw [hst] at q
      exact q H3 p4 ((StayR.of x3).trans (ExS.stay (hs1.grow x3) r3)) ⟨b1, b2, hs3⟩ h3
theorem st_put {d : PeepSpec.State} {i : Nat} {l : PeCode.Bytes} : stepS d (.put i l) = if 4096 < l.length ∨ d.now.code.length < i then (d, [-1]) else match PeCode.insOf l with
    | none => (d, [-6, 0])
    | some x => if 128 ≤ d.now.code.length then (d, [-9]) else (PeepSpec.edited d ⟨d.now.code.take i ++ x :: d.now.code.drop i, []⟩, [0, ((d.now.code.take i ++ x :: d.now.code.drop i).length : Int), (PeCode.costOf (d.now.code.take i ++ x :: d.now.code.drop i) : Int)]) := by
  unfold stepS PeepSpec.step
  dsimp only
  by_cases h : 4096 < l.length ∨ d.now.code.length < i
  · rw [if_pos (show PeepSpec.TEXT < l.length ∨ d.now.code.length < i from h), if_pos h]; rfl
  · rw [if_neg (show ¬ (PeepSpec.TEXT < l.length ∨ d.now.code.length < i) from h), if_neg h]
    cases PeCode.insOf l with
    | none => rfl
    | some x =>
      dsimp only
      by_cases g : 128 ≤ d.now.code.length
      · rw [if_pos (show PeCode.CODE ≤ d.now.code.length from g), if_pos g]; rfl
      · rw [if_neg (show ¬ PeCode.CODE ≤ d.now.code.length from g), if_neg g]; rfl
theorem G_Session_put {P : Program} {w : World} {K : PySem.W.Frag} {mg : Str → Option Value} {base : Heap} (T : Txt w K mg) : Has P w K mg base (L2.CX P w) 7 (He.ma K (He.ga K "Session") "put") p_Session_put (spSX K (SA2 K) 2 (argNB K PeepSpec.Call.put)) := by
  have G_Session_hand_in := G_Session_hand_in (P := P) (base := base) T
  have G_read_code_line := G_read_code_line (P := P) (base := base) T
  have G_text_of := G_text_of (P := P) (base := base) T
  have G_NoRoom_init := G_NoRoom_init (P := P) (base := base) T
  have G_OutOfBounds_init := G_OutOfBounds_init (P := P) (base := base) T
  refine T.d_Session_put.hasX sc_Session_put (fun vs H Q E h => ?_) (fun cdv A outer s H vs Q E hr h => ⟨_, ((pss_cons (ps_set (i := 3) sc_Session_put.nd rfl (Or.inl rfl) (pe_callH G_text_of (hr.mono (by decide)) T.g_text_of (passes_call (takes_of rfl rfl rfl rfl) (fun _ _ _ _ h => h)) (pa_cons (pv 2) pa_nil)))
    (pss_cons (ps_set (i := 4) sc_Session_put.nd rfl (Or.inl rfl) (pe_fld (pe_fld (pv 0) rfl) rfl))
    (pss_cons (ps_if (pt_cmpR op_gt (pv 1) (pe_callB call_len_seq (by rfl) T.u_len PySem.boot_len (pa_cons (pv 4) pa_nil)) (nomark _)) (pss_one (ps_raise rfl (takes_of rfl rfl rfl rfl) (pmk_c0H T.x_OutOfBounds G_OutOfBounds_init (hr.mono (by decide)) T.g_OutOfBounds))) pss_nil)
    (pss_cons (ps_set (i := 5) sc_Session_put.nd rfl (Or.inl rfl) (pe_callH G_read_code_line (hr.mono (by decide)) T.g_read_code_line (passes_call (takes_of rfl rfl rfl rfl) (fun _ _ _ _ h => h)) (pa_cons (pv 3) pa_nil)))
    (pss_cons (ps_if (pt_cmpR op_ge (pe_callB call_len_seq (by rfl) T.u_len PySem.boot_len (pa_cons (pv 4) pa_nil)) (pe_gi T.c_MOST_INSTRUCTIONS) (nomark _)) (pss_one (ps_raise rfl (takes_of rfl rfl rfl rfl) (pmk_c0H T.x_NoRoom G_NoRoom_init (hr.mono (by decide)) T.g_NoRoom))) pss_nil)
    (pss_one (ps_ret (pe_methH (pv 0) T.cl_Session T.m_Session_hand_in G_Session_hand_in (hr.mono (by decide)) pass0 (pa_cons (pe_op op_cat (pe_op op_cat (pe_slice sl_list (pv 4) po_none (po_some (pv 1))) (pe_lst (pa_cons (pv 5) pa_nil))) (pe_slice sl_list (pv 4) (po_some (pv 1)) po_none)) pa_nil)))))))))), ?_⟩)
  · obtain ⟨s, d, as, x, rfl, ha, _⟩ := h
    rw [List.length_cons, ha]
    rfl
  · obtain ⟨s, d, as, x, rfl, _, hs, ⟨i, l, b, rfl, hi, hl, hb, rfl⟩, q, qx⟩ := h
    have hst := st_put (d := d) (i := i) (l := b)
    obtain ⟨b1, b2, hs1⟩ := hs
    have hs : SA2 K H s d := ⟨b1, b2, hs1⟩
    obtain ⟨sx, hi, hx, m, mx, il, wl, hh, us, ws, kvs, w⟩ := hs1.view
    have h2 := w.il_
    have h3 := w.cv
    have nu := h3.length
    refine ⟨_, rfl, l, b, rfl, SqL.of hl, by omega, fun c => ?_, fun c H1 e1 => ?_⟩
    · rw [if_pos (.inl c)] at hst
      exact refused_of hs qx hst rfl
    refine ⟨_, rfl, s, _, sx, _, _, rfl, e1 _ _ w.s_, T.cl_Session, T.nF_Session_now, lkNow .., m, _, mx, _, _, rfl, e1 _ _ w.m_, T.cl_Moment, T.nF_Moment_instructions, lkMI .., ?_⟩
    refine ⟨_, rfl, _, rfl, il, us, rfl, .inl (SqL.of (e1 _ _ h2)), _, _, rfl, rfl, _, rfl, iB (fun g => ?_) (fun g => ?_)⟩
    · have g := of_decide_eq_true g
      rw [if_pos (.inr (by omega))] at hst
      exact mkO_ref T.x_OutOfBounds ((refused_of hs qx hst rfl).mono e1) rfl (by decide) (by decide) fun _ _ => ⟨rfl, rfl⟩
    have g := of_decide_eq_false g
    rw [if_neg (by omega)] at hst
    refine ⟨_, rfl, b.map Pb.cl, rfl, Lo.cl b, by rw [List.length_map]; omega, fun hn => ?_, fun x hx H2 v e2 hv => ?_⟩
    · rw [insOf_cl] at hn
      rw [hn] at hst
      exact (refused_of hs qx hst rfl).mono e1
    rw [insOf_cl] at hx
    rw [hx] at hst
    dsimp only at hst
    have e12 := e1.trans e2
    refine ⟨_, rfl, il, us, rfl, .inl (SqL.of (e12 _ _ h2)), _, _, rfl, rfl, _, rfl, iB (fun g2 => ?_) (fun g2 => ?_)⟩
    · have g2 := of_decide_eq_true g2
      rw [if_pos (by omega)] at hst
      exact mkO_ref T.x_NoRoom ((refused_of hs qx hst rfl).mono e12) rfl (by decide) (by decide) fun _ _ => ⟨rfl, rfl⟩
    have g2 := of_decide_eq_false g2
    rw [if_neg (by omega)] at hst
    have sh := hs1.okn.short
    have hs2 := hs1.grow e12
    refine ⟨_, rfl, s, sx, _, rfl, e12 _ _ w.s_, by rfl, ?_⟩
    refine ⟨_, rfl, _, rfl, _, rfl, il, us, rfl, SqL.of (e12 _ _ h2), fun p1 hp1 => ?_⟩
    have x1 := Ex.new (o := .lst (cutV us none (some (i : Int)))) hp1
    refine ⟨_, rfl, by show 1 ≤ sizeLine; decide, fun p2 hp2 => ?_⟩
    have x2 := x1.trans (Ex.new (o := .lst [v]) hp2)
    have z1 := cutV_length us none (some (i : Int))
    have z2 := cutV_length us (some (i : Int)) none
    refine ⟨p1, p2, _, _, rfl, rfl, (Ex.new hp2) _ _ upd_same, upd_same, szl (by show _ + 1 ≤ 1000000; omega), fun p3 hp3 => ?_⟩
    have x3 := x2.trans (Ex.new (o := .lst (cutV us none (some (i : Int)) ++ [v])) hp3)
    refine ⟨_, rfl, _, rfl, _, rfl, il, us, rfl, SqL.of (x3 _ _ (e12 _ _ h2)), fun p4 hp4 => ?_⟩
    have x4 := x3.trans (Ex.new (o := .lst (cutV us (some (i : Int)) none)) hp4)
    refine ⟨p3, p4, _, _, rfl, rfl, (Ex.new hp4) _ _ upd_same, upd_same, szl (by rw [List.length_append]; show _ + 1 + _ ≤ 1000000; omega), fun p5 hp5 => ?_⟩
    have x5 := x4.trans (Ex.new (o := .lst ((cutV us none (some (i : Int)) ++ [v]) ++ cutV us (some (i : Int)) none)) hp5)
    have hcv : CodeV K H2 ((cutV us none (some (i : Int)) ++ [v]) ++ cutV us (some (i : Int)) none) (d.now.code.take i ++ x :: d.now.code.drop i) := by
      rw [cutV_to, cutV_from, List.append_assoc]
      have h3' : CodeV K H2 us d.now.code := h3.monoQ (ExQ.of e12)
      exact All2.append (h3'.take i) (.cons hv (h3'.drop _))
    have ap := hs2.apart (fresh_back x4 hp5)
    refine ⟨s, p5, b1, b2, d, _, _, rfl, hs2.grow x5, ap.1, ap.2, upd_same, hcv.monoQ (ExQ.of x5), HeldOk.fresh (fun j hj => ?_) (fun j hj => ?_) ?_, fun H3 p6 r3 hs3 h6 => ?_⟩
    · rcases List.mem_append.mp hj with hj | hj
      · exact hs1.okn.ok j (List.mem_of_mem_take hj)
      · rcases List.mem_cons.mp hj with rfl | hj
        · exact insOf_ok hx
        · exact hs1.okn.ok j (List.mem_of_mem_drop hj)
    · rcases List.mem_append.mp hj with hj | hj
      · exact hs1.okn.nm j (List.mem_of_mem_take hj)
      · rcases List.mem_cons.mp hj with rfl | hj
        · exact insOf_n hx
        · exact hs1.okn.nm j (List.mem_of_mem_drop hj)
    · rw [List.length_append, List.length_take, List.length_cons, List.length_drop]
      omega
    · unfold Told at q
      rw [hst] at q
      exact q H3 p6 ((StayR.of (e12.trans x5)).trans (ExS.stay (hs2.grow x5) r3)) ⟨b1, b2, hs3⟩ h6
end Pb

set_option Elab.async false
set_option linter.all false
set_option maxRecDepth 100000
set_option maxHeartbeats 4000000
namespace Pb
open PySem PySem.Spec PyProof.Rows L2 Evl PbX
/-- the rules held are others -/
theorem SAh.put_dict {K : PySem.W.Frag} {hb hu : Addr} {H : Hp} {s : Addr} {d : PeepSpec.State} {sx hi hx m mx il wl hh : Addr} {us ws : List V} {kvs kvs' : List (Key × V)} {rs' : PeRule.Rules} (h : SAh K hb hu H s d)
    (w : Sees K (cut hb hu H) s d sx hi hx m mx il wl hh hb hu us ws kvs) (hd : HeldD K (cut hb hu H) kvs' rs') : SAh K hb hu (upd H hh (.dK kvs')) s { d with rules := rs' } := by
  have nb := (of_cut w.hh_).2.1
  have nu := (of_cut w.hh_).2.2
  have ec : cut hb hu (upd H hh (.dK kvs')) = upd (cut hb hu H) hh (.dK kvs') := cut_upd nb nu
  have q : ExQ (cut hb hu H) (upd (cut hb hu H) hh (.dK kvs')) := ExQ.upd w.hh_ (fun z => z)
  obtain ⟨bs, b1, b2⟩ := h.bef
  obtain ⟨un, u1, u2⟩ := h.und
  refine ⟨⟨sx, hi, hx, m, mx, il, wl, hh, us, ws, kvs', ?_⟩, ⟨bs, ?_, ?_⟩, ⟨un, ?_, ?_⟩, h.ne, h.okn, h.okp, h.oku, h.few⟩
  · rw [ec]
    refine ⟨?_, q _ _ (firmH ..) w.hi_, q _ _ (firmM ..) w.m_, q _ _ trivial w.il_, w.cv.monoQ q, q _ _ trivial w.wl_, All2.mono (fun _ _ => PairAt.monoQ q) w.pv, upd_same, hd.monoQ q⟩
    rw [upd_ne (ne_of w.s_ w.hh_ (by intro z; cases z))]
    exact w.s_
  · rw [upd_ne nb.symm]
    exact b1
  · rw [ec]
    exact All2.mono (fun _ _ => MomAt.monoQ q) b2
  · rw [upd_ne nu.symm]
    exact u1
  · rw [ec]
    exact All2.mono (fun _ _ => MomAt.monoQ q) u2
theorem RuleNew.cut {K : PySem.W.Frag} {a b : Addr} {H H' : Hp} {v : V} {r : PeRule.Rule} {xs ys : List V} (h : RuleNew K H H' v r) (e : Ex H H') (ha : H a = some (.lst xs)) (hb : H b = some (.lst ys)) : RuleAt K (Pb.cut a b H') v r := by
  have n := h.2
  obtain ⟨c, dx, l, m, us, ws, rfl, h1, h2, h3, h4, h5⟩ := h.1
  obtain ⟨nl, nm⟩ := n c dx l m _ rfl h1
  have ei : ExI H' (Pb.cut a b H') := ExI.cut (e _ _ ha) (e _ _ hb)
  exact ⟨c, dx, l, m, us, ws, rfl, ei _ _ _ _ h1, to_cut h2 (ne_of_none ha nl).symm (ne_of_none hb nl).symm, to_cut h3 (ne_of_none ha nm).symm (ne_of_none hb nm).symm, h4.mono ei, h5.mono ei⟩
def spHeldRule (K : PySem.W.Frag) : Sp := fun vs H Q E => ∃ (s : Addr) (d : PeepSpec.State) (k : Nat), vs = [.ref s, .int k] ∧ SA2 K H s d ∧ (d.rules.getD k none = none → Refused K E H [.int (-3)]) ∧
  ∀ r, d.rules.getD k none = some r → ∀ v, RuleAt K H v r → RuleHeld r → r.text.length ≤ 4096 → Q v H
theorem G_Session_held_rule {P : Program} {w : World} {K : PySem.W.Frag} {mg : Str → Option Value} {base : Heap} (T : Txt w K mg) : Has P w K mg base (L2.CX P w) 4 (He.ma K (He.ga K "Session") "held_rule") p_Session_held_rule (spHeldRule K) := by
  have G_NotThere_init := G_NotThere_init (P := P) (base := base) T
  refine T.d_Session_held_rule.hasX sc_Session_held_rule (fun vs H Q E h => ?_) (fun cdv A outer s H vs Q E hr h => ⟨_, ((pss_cons (ps_if (pt_cmp (pc_dnotin (hu_of hr) (pv 1) (pe_fld (pv 0) rfl))) (pss_one (ps_raise rfl (takes_of rfl rfl rfl rfl) (pmk_c0H T.x_NotThere G_NotThere_init (hr.mono (by decide)) T.g_NotThere))) pss_nil)
    (pss_one (ps_ret (pe_dget (hu_of hr) (pe_fld (pv 0) rfl) (pv 1) (fun _ _ => rfl)))))), ?_⟩)
  · obtain ⟨s, d, k, rfl, _⟩ := h
    rfl
  · obtain ⟨s, d, k, rfl, ⟨b1, b2, hs1⟩, qE, qV⟩ := h
    obtain ⟨sx, hi, hx, m, mx, il, wl, hh, us, ws, kvs, w⟩ := hs1.view
    have h1 := w.s_
    have h4 := w.hh_
    have h5 := w.held
    have ho := h5.at' k
    refine ⟨_, rfl, _, rfl, s, _, sx, _, _, rfl, h1, T.cl_Session, T.nF_Session_held, lkHeld .., hh, _, rfl, DGet.k (k := .inl (k : Int)) h4, _, rfl, iB (fun g => ?_) (fun g => ?_)⟩
    · cases hr : d.rules.getD k none with
      | none => exact mkO_ref T.x_NotThere (qE hr) rfl (by decide) (by decide) fun _ _ => ⟨rfl, rfl⟩
      | some r =>
        rw [hr] at ho
        obtain ⟨v, hv, _⟩ := ho
        rw [hv] at g
        cases g
    · cases hr : d.rules.getD k none with
      | none =>
        rw [hr] at ho
        have ho' : valV kvs (.inl (k : Int)) = none := ho
        rw [ho'] at g
        cases g
      | some r =>
        rw [hr] at ho
        obtain ⟨v, hv, hr1, hr2, hr3⟩ := ho
        refine ⟨_, rfl, s, _, sx, _, _, rfl, h1, T.cl_Session, T.nF_Session_held, lkHeld .., _, rfl, hh, v, rfl, ?_, qV r hr v hr1 hr2 hr3⟩
        have := DGet.k (k := .inl (k : Int)) h4
        rw [hv] at this
        exact this
theorem st_judge {d : PeepSpec.State} {t : PeCode.Bytes} : stepS d (.judge t) = if 4096 < t.length then (d, [-1]) else match PeRule.readRule t with
    | .error k => (d, [-6, (k : Int)])
    | .ok r => if r.formed = false then (d, [-2]) else if r.cheaper = false then (d, [-4]) else match r.bad with
      | some t => (d, -3 :: t.map fun (n : Nat) => (n : Int))
      | none => (d, [0, (PeRule.sideCost r.left : Int), (PeRule.sideCost r.right : Int)]) := by
  unfold stepS PeepSpec.step
  dsimp only
  by_cases h : 4096 < t.length
  · rw [if_pos (show PeepSpec.TEXT < t.length from h), if_pos h]
    rfl
  · rw [if_neg (show ¬ PeepSpec.TEXT < t.length from h), if_neg h]
    cases PeRule.readRule t with
    | error k => rfl
    | ok r =>
      dsimp only
      unfold PeepSpec.refused
      by_cases f : r.formed = false
      · rw [if_pos f, if_pos f]; rfl
      · rw [if_neg f, if_neg f]
        by_cases g : r.cheaper = false
        · rw [if_pos g, if_pos g]; rfl
        · rw [if_neg g, if_neg g]
          cases r.bad with
          | none => rfl
          | some t =>
            show (d, (-3 : Int) :: (t.map (fun (n : Nat) => (n : Int)) ++ [])) = _
            rw [List.append_nil]
theorem natV_map (t : List Nat) : (t.map fun (n : Nat) => (n : Int)).map V.int = natV t := by
  rw [List.map_map]
  rfl
theorem G_Session_judge {P : Program} {w : World} {K : PySem.W.Frag} {mg : Str → Option Value} {base : Heap} (T : Txt w K mg) : Has P w K mg base (L2.CX P w) 8 (He.ma K (He.ga K "Session") "judge") p_Session_judge (spSX K (SA2 K) 1 (argB K PeepSpec.Call.judge)) := by
  have G_cost_of := G_cost_of (P := P) (base := base) T
  have G_read_sound_rule := G_read_sound_rule (P := P) (base := base) T
  have G_text_of := G_text_of (P := P) (base := base) T
  refine T.d_Session_judge.hasX sc_Session_judge (fun vs H Q E h => ?_) (fun cdv A outer s H vs Q E hr h => ⟨_, ((pss_cons (ps_set (i := 2) sc_Session_judge.nd rfl (Or.inl rfl) (pe_callH G_read_sound_rule (hr.mono (by decide)) T.g_read_sound_rule (passes_call (takes_of rfl rfl rfl rfl) (fun _ _ _ _ h => h)) (pa_cons (pe_callH G_text_of (hr.mono (by decide)) T.g_text_of (passes_call (takes_of rfl rfl rfl rfl) (fun _ _ _ _ h => h)) (pa_cons (pv 1) pa_nil)) pa_nil)))
    (pss_one (ps_ret (pe_lst (pa_cons pe_int (pa_cons (pe_callH G_cost_of (hr.mono (by decide)) T.g_cost_of pass0 (pa_cons (pe_fld (pv 2) rfl) pa_nil)) (pa_cons (pe_callH G_cost_of (hr.mono (by decide)) T.g_cost_of pass0 (pa_cons (pe_fld (pv 2) rfl) pa_nil)) pa_nil)))))))), ?_⟩)
  · obtain ⟨s, d, as, x, rfl, ha, _⟩ := h
    rw [List.length_cons, ha]
    rfl
  · obtain ⟨s, d, as, x, rfl, _, hs, ⟨l, b, rfl, hl, hb, rfl⟩, q, qx⟩ := h
    have hst := st_judge (d := d) (t := b)
    refine ⟨_, rfl, l, b, rfl, SqL.of hl, by omega, fun c => ?_, fun c H1 e1 => ?_⟩
    · rw [if_pos c] at hst
      exact refused_of hs qx hst rfl
    rw [if_neg (by omega)] at hst
    have rr := readRule_cl b
    refine ⟨b.map Pb.cl, rfl, Lo.cl b, by rw [List.length_map]; omega, fun k hk => ?_, fun r hk => ?_⟩
    · rw [rr] at hk
      rw [hk] at hst
      exact (refused_of hs qx hst rfl).mono e1
    rw [rr] at hk
    rw [hk] at hst
    dsimp only at hst
    refine ⟨fun f => ?_, fun f g => ?_, fun t f g t' => ?_, fun f g t' H2 v e2 hvn => ?_⟩
    · rw [if_pos f] at hst
      exact (refused_of hs qx hst rfl).mono e1
    · rw [if_neg (by rw [f]; decide), if_pos g] at hst
      exact (refused_of hs qx hst rfl).mono e1
    · rw [if_neg (by rw [f]; decide), if_neg (by rw [g]; decide), t'] at hst
      exact (refused_of hs qx hst (by rw [List.map_cons, natV_map])).mono e1
    rw [if_neg (by rw [f]; decide), if_neg (by rw [g]; decide), t'] at hst
    have ln := readRule_len hk
    obtain ⟨a, dx, l1, m1, us, ws, rfl, ha, hl1, hm1, sl, sr⟩ := hvn.1
    have w1 : ∀ {H3 : Hp} {vs : List V} {ps : List PeRule.Pat}, SideV K H3 vs ps → All2 (WordV K H3) vs (ps.map (·.op)) := fun h => h.map_r fun _ _ h => h.word
    refine ⟨_, rfl, a, _, dx, _, _, rfl, ha, T.cl_Rule, T.nF_Rule_left, lkLeft .., l1, us, r.left.map (·.op), rfl, SqL.of hl1, w1 sl, by rw [List.length_map]; omega, fun H3 e3 => ?_⟩
    refine ⟨_, rfl, a, _, dx, _, _, rfl, e3 _ _ ha, T.cl_Rule, T.nF_Rule_right, lkRight .., m1, ws, r.right.map (·.op), rfl, SqL.of (e3 _ _ hm1), w1 (All2.mono (fun _ _ => PatAt.mono (ExI.of e3)) sr), by rw [List.length_map]; omega, fun H4 e4 => ?_⟩
    refine ⟨by show 3 ≤ sizeLine; decide, fun p hp => ?_⟩
    have x5 := ((e1.trans e2).trans (e3.trans e4)).trans (Ex.new (o := .lst [V.int 0, V.int ((((r.left.map (·.op)).map fun o => o.cost).sum : Nat) : Int), V.int ((((r.right.map (·.op)).map fun o => o.cost).sum : Nat) : Int)]) hp)
    unfold Told at q
    rw [hst] at q
    refine q _ p (StayR.of x5) (hs.grow x5) ?_
    rw [upd_same, side_ops, side_ops]
    rfl
theorem st_rule {d : PeepSpec.State} {t : PeCode.Bytes} : stepS d (.rule t) = if 4096 < t.length then (d, [-1]) else match PeRule.readRule t with
    | .error k => (d, [-6, (k : Int)])
    | .ok r => if r.formed = false then (d, [-2]) else if r.cheaper = false then (d, [-4]) else match r.bad with
      | some t => (d, -3 :: t.map fun (n : Nat) => (n : Int))
      | none => if 32 ≤ PeepSpec.freeAt d.rules then (d, [-9]) else ({ d with rules := PeepSpec.laidAt d.rules (PeepSpec.freeAt d.rules) r }, [(PeepSpec.freeAt d.rules : Int)]) := by
  unfold stepS PeepSpec.step
  dsimp only
  by_cases h : 4096 < t.length
  · rw [if_pos (show PeepSpec.TEXT < t.length from h), if_pos h]
    rfl
  · rw [if_neg (show ¬ PeepSpec.TEXT < t.length from h), if_neg h]
    cases PeRule.readRule t with
    | error k => rfl
    | ok r =>
      dsimp only
      unfold PeepSpec.refused
      by_cases f : r.formed = false
      · rw [if_pos f, if_pos f]; rfl
      · rw [if_neg f, if_neg f]
        by_cases g : r.cheaper = false
        · rw [if_pos g, if_pos g]; rfl
        · rw [if_neg g, if_neg g]
          cases r.bad with
          | none =>
            dsimp only
            by_cases z : 32 ≤ PeepSpec.freeAt d.rules
            · rw [if_pos (show PeRule.RULES ≤ PeepSpec.freeAt d.rules from z), if_pos z]; rfl
            · rw [if_neg (show ¬ PeRule.RULES ≤ PeepSpec.freeAt d.rules from z), if_neg z]; rfl
          | some t =>
            show (d, (-3 : Int) :: (t.map (fun (n : Nat) => (n : Int)) ++ [])) = _
            rw [List.append_nil]
theorem G_Session_rule {P : Program} {w : World} {K : PySem.W.Frag} {mg : Str → Option Value} {base : Heap} (T : Txt w K mg) : Has P w K mg base (L2.CX P w) 8 (He.ma K (He.ga K "Session") "rule") p_Session_rule (spSX K (SA2 K) 1 (argB K PeepSpec.Call.rule)) := by
  have G_read_sound_rule := G_read_sound_rule (P := P) (base := base) T
  have G_text_of := G_text_of (P := P) (base := base) T
  have G_NoRoom_init := G_NoRoom_init (P := P) (base := base) T
  refine T.d_Session_rule.hasX sc_Session_rule (fun vs H Q E h => ?_) (fun cdv A outer s H vs Q E hr h => ⟨_, ((pss_cons (ps_set (i := 2) sc_Session_rule.nd rfl (Or.inl rfl) (pe_callH G_read_sound_rule (hr.mono (by decide)) T.g_read_sound_rule (passes_call (takes_of rfl rfl rfl rfl) (fun _ _ _ _ h => h)) (pa_cons (pe_callH G_text_of (hr.mono (by decide)) T.g_text_of (passes_call (takes_of rfl rfl rfl rfl) (fun _ _ _ _ h => h)) (pa_cons (pv 1) pa_nil)) pa_nil)))
    (pss_cons (ps_if (pt_cmpR op_ge (pe_callB call_lenD (by rfl) T.u_len PySem.boot_len (pa_cons (pe_fld (pv 0) rfl) pa_nil)) (pe_gi T.c_MOST_RULES) (nomark _)) (pss_one (ps_raise rfl (takes_of rfl rfl rfl rfl) (pmk_c0H T.x_NoRoom G_NoRoom_init (hr.mono (by decide)) T.g_NoRoom))) pss_nil)
    (pss_cons (ps_set (i := 3) sc_Session_rule.nd rfl (Or.inl rfl) pe_int)
    (pss_cons (ps_while (passes_of rfl) (pt_cmp (pc_din (hu_of hr) (pv 3) (pe_fld (pv 0) rfl))) (pss_one (ps_aug (i := 3) sc_Session_rule.nd rfl (Or.inl rfl) pe_int ip_add)))
    (pss_cons (ps_dput (hu_of hr) (pe_fld (pv 0) rfl) (pv 3) (pv 2) rfl)
    (pss_one (ps_ret (pe_lst (pa_cons (pv 3) pa_nil)))))))))), ?_⟩)
  · obtain ⟨s, d, as, x, rfl, ha, _⟩ := h
    rw [List.length_cons, ha]
    rfl
  · obtain ⟨s, d, as, x, rfl, _, hs, ⟨l, b, rfl, hl, hb, rfl⟩, q, qx⟩ := h
    have hst := st_rule (d := d) (t := b)
    refine ⟨_, rfl, l, b, rfl, SqL.of hl, by omega, fun c => ?_, fun c H1 e1 => ?_⟩
    · rw [if_pos c] at hst
      exact refused_of hs qx hst rfl
    rw [if_neg (by omega)] at hst
    have rr := readRule_cl b
    refine ⟨b.map Pb.cl, rfl, Lo.cl b, by rw [List.length_map]; omega, fun k hk => ?_, fun r hk => ?_⟩
    · rw [rr] at hk
      rw [hk] at hst
      exact (refused_of hs qx hst rfl).mono e1
    have htx : r.text.length ≤ 4096 := by
      rw [readRule_text hk, List.length_map]
      exact c
    rw [rr] at hk
    rw [hk] at hst
    dsimp only at hst
    refine ⟨fun f => ?_, fun f g => ?_, fun t f g t' => ?_, fun f g t' H2 v e2 hvn => ?_⟩
    · rw [if_pos f] at hst
      exact (refused_of hs qx hst rfl).mono e1
    · rw [if_neg (by rw [f]; decide), if_pos g] at hst
      exact (refused_of hs qx hst rfl).mono e1
    · rw [if_neg (by rw [f]; decide), if_neg (by rw [g]; decide), t'] at hst
      exact (refused_of hs qx hst (by rw [List.map_cons, natV_map])).mono e1
    rw [if_neg (by rw [f]; decide), if_neg (by rw [g]; decide), t'] at hst
    dsimp only at hst
    have e12 := e1.trans e2
    obtain ⟨b1, b2, hs1⟩ := hs
    have hs2 := hs1.grow e12
    obtain ⟨sx, hi, hx, m, mx, il, wl, hh, us, ws, kvs, wc⟩ := hs2.see
    obtain ⟨bs, z1, _⟩ := hs1.bef
    obtain ⟨un, z2, _⟩ := hs1.und
    have w := wc.mono Ex.cut
    have h1' := w.s_
    have h4' := w.hh_
    have h5' : HeldD K H2 kvs d.rules := w.held
    have hfull := count_full h5'.short
    rw [← h5'.len] at hfull
    have hs : SA2 K H s d := ⟨b1, b2, hs1⟩
    refine ⟨_, rfl, s, _, sx, _, _, rfl, h1', T.cl_Session, T.nF_Session_held, lkHeld .., hh, kvs, rfl, h4', _, _, rfl, rfl, _, rfl, iB (fun z => ?_) (fun z => ?_)⟩
    · have z := of_decide_eq_true z
      rw [if_pos (hfull.mp (by omega))] at hst
      exact mkO_ref T.x_NoRoom ((refused_of hs qx hst rfl).mono e12) rfl (by decide) (by decide) fun _ _ => ⟨rfl, rfl⟩
    have z := of_decide_eq_false z
    have hfree : PeepSpec.freeAt d.rules < 32 := by
      rcases Nat.lt_or_ge (PeepSpec.freeAt d.rules) 32 with y | y
      · exact y
      · have := hfull.mpr y
        omega
    rw [if_neg (by omega)] at hst
    refine ⟨fun m σ H' => ∃ n : Nat, n ≤ PeepSpec.freeAt d.rules ∧ σ = [some (.ref s), some (.ref l), some v, some (.int (n : Int))] ∧ H' = H2 ∧ m = PeepSpec.freeAt d.rules - n, ⟨_, 0, Nat.zero_le _, rfl, rfl, rfl⟩, ?_⟩
    rintro m σ H' ⟨n, hn, rfl, rfl, rfl⟩
    have ho := h5'.at' n
    refine ⟨_, rfl, _, rfl, s, _, sx, _, _, rfl, h1', T.cl_Session, T.nF_Session_held, lkHeld .., hh, _, rfl, DGet.k (k := .inl (n : Int)) h4', _, rfl, iB (fun y => ?_) (fun y => ?_)⟩
    · have hlt : n < PeepSpec.freeAt d.rules := by
        rcases Nat.lt_or_ge n (PeepSpec.freeAt d.rules) with w | w
        · exact w
        · have e : n = PeepSpec.freeAt d.rules := by omega
          rw [e, free_none] at ho
          have ho' : valV kvs (.inl ((PeepSpec.freeAt d.rules : Nat) : Int)) = none := ho
          rw [e, ho'] at y
          cases y
      refine ⟨fun σ' H' => ∃ m', m' < PeepSpec.freeAt d.rules - n ∧ ∃ n : Nat, n ≤ PeepSpec.freeAt d.rules ∧ σ' = [some (.ref s), some (.ref l), some v, some (.int (n : Int))] ∧ H' = _ ∧ m' = PeepSpec.freeAt d.rules - n, fun _ _ z => z, ?_⟩
      exact ⟨_, rfl, _, _, rfl, rfl, _, by omega, n + 1, by omega, rfl, rfl, rfl⟩
    · have e : n = PeepSpec.freeAt d.rules := by
        rcases Nat.lt_or_ge n (PeepSpec.freeAt d.rules) with w | w
        · obtain ⟨r', hr'⟩ := below_free w
          rw [hr'] at ho
          obtain ⟨v', hv', _⟩ := ho
          rw [hv'] at y
          cases y
        · omega
      subst e
      have hkl : kvs.length < 32 := by omega
      refine ⟨_, rfl, _, rfl, s, _, sx, _, _, rfl, h1', T.cl_Session, T.nF_Session_held, lkHeld .., _, rfl, hh, _, rfl, DPut.k (k := .inl ((PeepSpec.freeAt d.rules : Nat) : Int)) h4' (szlt (by omega)), ?_⟩
      have rh : RuleHeld r := ⟨readRule_ok hk, f, g⟩
      have hnew := wc.held.laid hfree (hvn.cut e2 (e1 _ _ z1) (e1 _ _ z2)) rh htx
      have er : StayR K H' (upd H' hh (.dK (putK kvs (.inl ((PeepSpec.freeAt d.rules : Nat) : Int)) v))) := StayR.upd h4' (nrD K _)
      have hs3 := hs2.put_dict wc hnew
      refine ⟨_, rfl, by show 1 ≤ sizeLine; decide, fun p hp => ?_⟩
      have x6 := Ex.new (o := .lst [V.int ((PeepSpec.freeAt d.rules : Nat) : Int)]) hp
      unfold Told at q
      rw [hst] at q
      refine q _ p ((StayR.of e12).trans (er.trans (StayR.of x6))) ⟨b1, b2, hs3.grow x6⟩ ?_
      rw [upd_same]
      rfl
theorem st_drop {d : PeepSpec.State} {k : Nat} : stepS d (.drop k) = match d.rules.getD k none with
    | none => (d, [-3])
    | some _ => ({ d with rules := d.rules.set k none }, [0]) := by
  unfold stepS PeepSpec.step
  dsimp only
  cases d.rules.getD k none <;> rfl
theorem G_Session_drop {P : Program} {w : World} {K : PySem.W.Frag} {mg : Str → Option Value} {base : Heap} (T : Txt w K mg) : Has P w K mg base (L2.CX P w) 5 (He.ma K (He.ga K "Session") "drop") p_Session_drop (spSX K (SA2 K) 1 (argN PeepSpec.Call.drop)) := by
  have G_Session_held_rule := G_Session_held_rule (P := P) (base := base) T
  refine T.d_Session_drop.hasX sc_Session_drop (fun vs H Q E h => ?_) (fun cdv A outer s H vs Q E hr h => ⟨_, ((pss_cons (ps_expr (pe_methH (pv 0) T.cl_Session T.m_Session_held_rule G_Session_held_rule (hr.mono (by decide)) (passes_call (takes_of rfl rfl rfl rfl) (fun _ _ _ _ h => h)) (pa_cons (pv 1) pa_nil)))
    (pss_cons (ps_expr (pe_dpop1 (pe_fld (pv 0) rfl) (pv 1) ⟨rfl, by rfl, rfl, rfl⟩))
    (pss_one (ps_ret (pe_lst (pa_cons pe_int pa_nil))))))), ?_⟩)
  · obtain ⟨s, d, as, x, rfl, ha, _⟩ := h
    rw [List.length_cons, ha]
    rfl
  · obtain ⟨s, d, as, x, rfl, _, hs, ⟨k, rfl, hk, rfl⟩, q, qx⟩ := h
    have hst := st_drop (d := d) (k := k)
    obtain ⟨b1, b2, hs1⟩ := hs
    have hs : SA2 K H s d := ⟨b1, b2, hs1⟩
    obtain ⟨sx, hi, hx, m, mx, il, wl, hh, us, ws, kvs, wc⟩ := hs1.see
    have w := wc.mono Ex.cut
    have h1 := w.s_
    have h4 := w.hh_
    have h5 := w.held
    refine ⟨_, rfl, s, sx, _, rfl, h1, by rfl, _, rfl, s, d, k, rfl, hs, fun hn => ?_, fun r hr v hv rh htx => ?_⟩
    · rw [hn] at hst
      exact refused_of hs qx hst rfl
    rw [hr] at hst
    have ho := h5.at' k
    rw [hr] at ho
    obtain ⟨v', hv', _⟩ := ho
    refine ⟨_, rfl, s, _, sx, _, _, rfl, h1, T.cl_Session, T.nF_Session_held, lkHeld .., hh, rfl, .inl ⟨_, .inl h4⟩, _, rfl, kvs, .inl (k : Int), v', h4, rfl, hv', ?_⟩
    have er : StayR K H (upd H hh (.dK (dropK kvs (.inl (k : Int))))) := StayR.upd h4 (nrD K _)
    have hs3 := hs1.put_dict wc (wc.held.drop hr)
    refine ⟨by show 1 ≤ sizeLine; decide, fun p hp => ?_⟩
    have x6 := Ex.new (o := .lst [V.int 0]) hp
    unfold Told at q
    rw [hst] at q
    refine q _ p (er.trans (StayR.of x6)) ⟨b1, b2, hs3.grow x6⟩ ?_
    rw [upd_same]
    rfl
theorem st_say {d : PeepSpec.State} {k : Nat} : stepS d (.say k) = match d.rules.getD k none with
    | none => (d, [-3])
    | some r => (d, 0 :: r.text.map (fun c => (c.toNat : Int))) := by
  unfold stepS PeepSpec.step PeepSpec.ofRule
  dsimp only
  cases d.rules.getD k none <;> rfl
theorem G_Session_say {P : Program} {w : World} {K : PySem.W.Frag} {mg : Str → Option Value} {base : Heap} (T : Txt w K mg) : Has P w K mg base (L2.CX P w) 5 (He.ma K (He.ga K "Session") "say") p_Session_say (spSX K (SA2 K) 1 (argN PeepSpec.Call.say)) := by
  have G_Session_held_rule := G_Session_held_rule (P := P) (base := base) T
  have G_bytes_of := G_bytes_of (P := P) (base := base) T
  refine T.d_Session_say.hasX sc_Session_say (fun vs H Q E h => ?_) (fun cdv A outer s H vs Q E hr h => ⟨_, ((pss_one (ps_ret (pe_op op_cat (pe_lst (pa_cons pe_int pa_nil)) (pe_callH G_bytes_of (hr.mono (by decide)) T.g_bytes_of pass0 (pa_cons (pe_fld (pe_methH (pv 0) T.cl_Session T.m_Session_held_rule G_Session_held_rule (hr.mono (by decide)) (passes_call (takes_of rfl rfl rfl rfl) (fun _ _ _ _ h => h)) (pa_cons (pv 1) pa_nil)) rfl) pa_nil)))))), ?_⟩)
  · obtain ⟨s, d, as, x, rfl, ha, _⟩ := h
    rw [List.length_cons, ha]
    rfl
  · obtain ⟨s, d, as, x, rfl, _, hs, ⟨k, rfl, hk, rfl⟩, q, qx⟩ := h
    have hst := st_say (d := d) (k := k)
    obtain ⟨b1, b2, hs1⟩ := hs
    have hs : SA2 K H s d := ⟨b1, b2, hs1⟩
    obtain ⟨sx, hi, hx, m', mx, il, wl, hh, us, ws', kvs, w⟩ := hs1.view
    have h1 := w.s_
    refine ⟨by show 1 ≤ sizeLine; decide, fun p hp => ?_⟩
    have x1 := Ex.new (o := .lst [V.int 0]) hp
    refine ⟨_, rfl, s, sx, _, rfl, x1 _ _ h1, by rfl, _, rfl, s, d, k, rfl, hs.grow x1, fun hn => ?_, fun r hr v hv rh htx => ?_⟩
    · rw [hn] at hst
      exact (refused_of hs qx hst rfl).mono x1
    rw [hr] at hst
    obtain ⟨a, dx, l, m, ls, ws, rfl, ha, _⟩ := hv
    refine ⟨a, _, dx, _, _, rfl, ha, T.cl_Rule, T.nF_Rule_text, lkText .., r.text, rfl, by omega, fun H2 p2 hp2 e2 h2' => ?_⟩
    have x2 := x1.trans e2
    refine ⟨p, p2, _, _, rfl, rfl, e2 p _ upd_same, h2', ?_, fun p4 hp4 => ?_⟩
    · unfold numsV
      rw [List.length_map]
      exact szl (by show 1 + _ ≤ 1000000; omega)
    · have x3 := x2.trans (Ex.new (o := .lst ([V.int 0] ++ numsV r.text)) hp4)
      unfold Told at q
      rw [hst] at q
      refine q _ p4 (StayR.of x3) (hs.grow x3) ?_
      rw [upd_same, List.map_cons, numsV_map]
      rfl
end Pb

set_option Elab.async false
set_option linter.all false
set_option maxRecDepth 100000
set_option maxHeartbeats 4000000
namespace Pb
open PySem PySem.Spec PyProof.Rows L2 Evl PbX
def spHeldFit (K : PySem.W.Frag) : Sp := fun vs H Q E => ∃ (s : Addr) (d : PeepSpec.State) (k i : Nat), vs = [.ref s, .int k, .int i] ∧ SA2 K H s d ∧ (d.rules.getD k none = none → Refused K E H [.int (-3)]) ∧
  ∀ r, d.rules.getD k none = some r → (PeRule.fits r (d.now.code.drop i) = none → Refused K E H [.int (-5)]) ∧ ∀ b, PeRule.fits r (d.now.code.drop i) = some b → ∀ H' a p, Ex H H' → FitAt K H' a p b → BoundOk b → RuleHeld r → Q (.ref a) H'
theorem G_Session_held_fit {P : Program} {w : World} {K : PySem.W.Frag} {mg : Str → Option Value} {base : Heap} (T : Txt w K mg) : Has P w K mg base (L2.CX P w) 5 (He.ma K (He.ga K "Session") "held_fit") p_Session_held_fit (spHeldFit K) := by
  have G_Session_held_rule := G_Session_held_rule (P := P) (base := base) T
  have G_fit_at := G_fit_at (P := P) (base := base) T
  have G_NotFitting_init := G_NotFitting_init (P := P) (base := base) T
  refine T.d_Session_held_fit.hasX sc_Session_held_fit (fun vs H Q E h => ?_) (fun cdv A outer s H vs Q E hr h => ⟨_, ((pss_cons (ps_set (i := 3) sc_Session_held_fit.nd rfl (Or.inl rfl) (pe_callH G_fit_at (hr.mono (by decide)) T.g_fit_at pass0 (pa_cons (pe_methH (pv 0) T.cl_Session T.m_Session_held_rule G_Session_held_rule (hr.mono (by decide)) (passes_call (takes_of rfl rfl rfl rfl) (fun _ _ _ _ h => h)) (pa_cons (pv 1) pa_nil)) (pa_cons (pe_fld (pe_fld (pv 0) rfl) rfl) (pa_cons (pv 2) pa_nil)))))
    (pss_cons (ps_if (pt_cmpR op_isN (pv 3) pe_non (nomark _)) (pss_one (ps_raise rfl (takes_of rfl rfl rfl rfl) (pmk_c0H T.x_NotFitting G_NotFitting_init (hr.mono (by decide)) T.g_NotFitting))) pss_nil)
    (pss_one (ps_ret (pv 3)))))), ?_⟩)
  · obtain ⟨s, d, k, i, rfl, _⟩ := h
    rfl
  · obtain ⟨s, d, k, i, rfl, hs, qE, qV⟩ := h
    obtain ⟨b1, b2, hs1⟩ := hs
    have hs : SA2 K H s d := ⟨b1, b2, hs1⟩
    obtain ⟨sx, hi, hx, m, mx, il, wl, hh, us, ws, kvs, w⟩ := hs1.view
    have h1 := w.s_
    refine ⟨_, rfl, s, sx, _, rfl, h1, by rfl, _, rfl, s, d, k, rfl, hs, qE, fun r hr v hv rh htx => ?_⟩
    obtain ⟨qN, qY⟩ := qV r hr
    have ln := rh.lens
    refine ⟨_, rfl, s, _, sx, _, _, rfl, h1, T.cl_Session, T.nF_Session_now, lkNow .., m, _, mx, _, _, rfl, w.m_, T.cl_Moment, T.nF_Moment_instructions, lkMI .., _, rfl, v, r, il, us, d.now.code, i, rfl, hv, rh.1, by omega, SqL.of w.il_, w.cv, hs1.okn.ok, fun hn H2 e2 => ?_, fun b hb H2 a p na np e2 hf bok => ?_⟩
    · refine ⟨_, rfl, rfl, _, rfl, ?_⟩
      exact mkO_ref T.x_NotFitting ((qN hn).mono e2) rfl (by decide) (by decide) fun _ _ => ⟨rfl, rfl⟩
    · refine ⟨_, rfl, rfl, _, rfl, ?_⟩
      exact ⟨_, rfl, qY b hb H2 a p e2 hf bok rh⟩
theorem st_fits {d : PeepSpec.State} {k i : Nat} : stepS d (.fits k i) = match d.rules.getD k none with
    | none => (d, [-3])
    | some r => match PeRule.fits r (d.now.code.drop i) with
      | none => (d, [-5])
      | some b => (d, 0 :: (b.regs ++ [b.x.getD 0, b.y.getD 0]).map (fun (n : Nat) => (n : Int))) := by
  unfold stepS PeepSpec.step PeepSpec.ofRule
  dsimp only
  cases d.rules.getD k none with
  | none => rfl
  | some r =>
    dsimp only
    cases PeRule.fits r (d.now.code.drop i) with
    | none => rfl
    | some b =>
      show (d, (0 : Int) :: ((b.regs ++ [b.x.getD 0, b.y.getD 0]).map (fun (n : Nat) => (n : Int)) ++ [])) = _
      rw [List.append_nil]
theorem G_Session_fits {P : Program} {w : World} {K : PySem.W.Frag} {mg : Str → Option Value} {base : Heap} (T : Txt w K mg) : Has P w K mg base (L2.CX P w) 6 (He.ma K (He.ga K "Session") "fits") p_Session_fits (spSX K (SA2 K) 2 (argNN PeepSpec.Call.fits)) := by
  have G_Fit_told_x := G_Fit_told_x (P := P) (base := base) T
  have G_Fit_told_y := G_Fit_told_y (P := P) (base := base) T
  have G_Session_held_fit := G_Session_held_fit (P := P) (base := base) T
  refine T.d_Session_fits.hasX sc_Session_fits (fun vs H Q E h => ?_) (fun cdv A outer s H vs Q E hr h => ⟨_, ((pss_cons (ps_set (i := 3) sc_Session_fits.nd rfl (Or.inl rfl) (pe_methH (pv 0) T.cl_Session T.m_Session_held_fit G_Session_held_fit (hr.mono (by decide)) (passes_call (takes_of rfl rfl rfl rfl) (fun _ _ _ _ h => h)) (pa_cons (pv 1) (pa_cons (pv 2) pa_nil))))
    (pss_one (ps_ret (pe_op op_cat (pe_op op_cat (pe_lst (pa_cons pe_int pa_nil)) (pe_fld (pv 3) rfl)) (pe_lst (pa_cons (pe_meth0H (pv 3) T.cl_Fit T.m_Fit_told_x G_Fit_told_x (hr.mono (by decide)) pass0) (pa_cons (pe_meth0H (pv 3) T.cl_Fit T.m_Fit_told_y G_Fit_told_y (hr.mono (by decide)) pass0) pa_nil)))))))), ?_⟩)
  · obtain ⟨s, d, as, x, rfl, ha, _⟩ := h
    rw [List.length_cons, ha]
    rfl
  · obtain ⟨s, d, as, x, rfl, _, hs, ⟨k, i, rfl, hk, hi, rfl⟩, q, qx⟩ := h
    have hst := st_fits (d := d) (k := k) (i := i)
    obtain ⟨b1, b2, hs1⟩ := hs
    have hs : SA2 K H s d := ⟨b1, b2, hs1⟩
    obtain ⟨sx, hi, hx, m, mx, il, wl, hh, us, ws, kvs, w⟩ := hs1.view
    have h1 := w.s_
    refine ⟨_, rfl, s, sx, _, rfl, h1, by rfl, _, rfl, _, rfl, s, d, k, i, rfl, hs, fun hn => ?_, fun r hr => ⟨fun hn => ?_, fun b hb H2 a p e2 hf bok rh => ?_⟩⟩
    · rw [hn] at hst
      exact refused_of hs qx hst rfl
    · rw [hr] at hst
      dsimp only at hst
      rw [hn] at hst
      exact refused_of hs qx hst rfl
    rw [hr] at hst
    dsimp only at hst
    rw [hb] at hst
    dsimp only at hst
    refine ⟨by show 1 ≤ sizeLine; decide, fun p1 hp1 => ?_⟩
    have x1 := Ex.new (o := .lst [V.int 0]) hp1
    have hf' := hf
    obtain ⟨⟨fd, ha⟩, hp⟩ := hf'
    refine ⟨_, rfl, a, _, fd, _, _, rfl, x1 _ _ ha, T.cl_Fit, T.nF_Fit_places, lkP .., p1, p, _, _, rfl, rfl, upd_same, x1 _ _ hp, ?_, fun p2 hp2 => ?_⟩
    · rw [natV_len, bok.1]
      exact szl (by show 1 + 4 ≤ 1000000; decide)
    have x2 := x1.trans (Ex.new (o := .lst ([V.int 0] ++ natV b.regs)) hp2)
    have hf2 : FitAt K (upd (upd H2 p1 (.lst [V.int 0])) p2 (.lst ([V.int 0] ++ natV b.regs))) a p b := ⟨⟨fd, x2 _ _ ha⟩, x2 _ _ hp⟩
    refine ⟨_, rfl, a, fd, _, rfl, x2 _ _ ha, lkToldX .., a, p, b, rfl, hf2, ?_⟩
    refine ⟨_, rfl, a, fd, _, rfl, x2 _ _ ha, lkToldY .., a, p, b, rfl, hf2, ?_⟩
    refine ⟨by show 2 ≤ sizeLine; decide, fun p3 hp3 => ?_⟩
    refine ⟨p2, p3, _, _, rfl, rfl, (Ex.new hp3) _ _ upd_same, upd_same, ?_, fun p4 hp4 => ?_⟩
    · rw [List.length_append, natV_len, bok.1]
      exact szl (by show 1 + 4 + 2 ≤ 1000000; decide)
    have x3 := x2.trans (Ex.new (o := .lst [V.int ((b.x.getD 0 : Nat) : Int), V.int ((b.y.getD 0 : Nat) : Int)]) hp3)
    have x4 := (e2.trans x3).trans (Ex.new (o := .lst (([V.int 0] ++ natV b.regs) ++ [V.int ((b.x.getD 0 : Nat) : Int), V.int ((b.y.getD 0 : Nat) : Int)])) hp4)
    unfold Told at q
    rw [hst] at q
    refine q _ p4 (StayR.of x4) (hs.grow x4) ?_
    rw [upd_same, List.map_cons, natV_map]
    unfold natV
    rw [List.map_append]
    rfl
/-! ### steps -/
/-- a moment whose objects are new -/
def MomNew (K : PySem.W.Frag) (H H' : Hp) (v : V) (h : PeepSpec.Held) : Prop := ∃ (m dx il wl : Addr) (us ws : List V), v = .ref m ∧ H m = none ∧ H il = none ∧ H wl = none ∧ H' m = some (.ins (cMom K) dx (fMom (.ref il) (.ref wl))) ∧ H' il = some (.lst us) ∧ CodeV K H' us h.code ∧ H' wl = some (.lst ws) ∧ All2 (PairAt H') ws h.steps
theorem MomNew.at' {K : PySem.W.Frag} {H H' : Hp} {v : V} {h : PeepSpec.Held} (q : MomNew K H H' v h) : MomAt K H' v h := by
  obtain ⟨m, dx, il, wl, us, ws, rfl, _, _, _, h1, h2, h3, h4, h5⟩ := q
  exact ⟨m, dx, il, wl, us, ws, rfl, h1, h2, h3, h4, h5⟩
theorem MomNew.mono {K : PySem.W.Frag} {H H1 H2 : Hp} {v : V} {h : PeepSpec.Held} (q : MomNew K H H1 v h) (e : Ex H1 H2) : MomNew K H H2 v h := by
  obtain ⟨m, dx, il, wl, us, ws, rfl, n1, n2, n3, h1, h2, h3, h4, h5⟩ := q
  exact ⟨m, dx, il, wl, us, ws, rfl, n1, n2, n3, e _ _ h1, e _ _ h2, h3.monoQ (ExQ.of e), e _ _ h4, All2.mono (fun _ _ => PairAt.monoQ (ExQ.of e)) h5⟩
theorem MomNew.back {K : PySem.W.Frag} {H0 H H' : Hp} {v : V} {h : PeepSpec.Held} (q : MomNew K H H' v h) (e : Ex H0 H) : MomNew K H0 H' v h := by
  obtain ⟨m, dx, il, wl, us, ws, rfl, n1, n2, n3, h1, h2, h3, h4, h5⟩ := q
  exact ⟨m, dx, il, wl, us, ws, rfl, fresh_back e n1, fresh_back e n2, fresh_back e n3, h1, h2, h3, h4, h5⟩
theorem PairAt.cut {H : Hp} {a b : Addr} {xs ys : List V} (ha : H a = some (.lst xs)) (hb : H b = some (.lst ys)) {v : V} {x : Nat × Nat} (h : PairAt H v x) : PairAt (Pb.cut a b H) v x := by
  obtain ⟨t, rfl, h1⟩ := h
  exact ⟨t, rfl, to_cut h1 (ne_of h1 ha (by intro z; cases z)) (ne_of h1 hb (by intro z; cases z))⟩
theorem MomNew.cut {K : PySem.W.Frag} {H H' : Hp} {v : V} {h : PeepSpec.Held} {a b : Addr} {xs ys : List V} (q : MomNew K H H' v h) (e : Ex H H') (ha : H a = some (.lst xs)) (hb : H b = some (.lst ys)) : MomAt K (Pb.cut a b H') v h := by
  obtain ⟨m, dx, il, wl, us, ws, rfl, n1, n2, n3, h1, h2, h3, h4, h5⟩ := q
  have ap : ∀ {x : Addr}, H x = none → x ≠ a ∧ x ≠ b := fun n => ⟨(ne_of_none ha n).symm, (ne_of_none hb n).symm⟩
  exact ⟨m, dx, il, wl, us, ws, rfl, to_cut h1 (ap n1).1 (ap n1).2, to_cut h2 (ap n2).1 (ap n2).2, h3.mono (ExI.cut (e _ _ ha) (e _ _ hb)), to_cut h4 (ap n3).1 (ap n3).2, All2.mono (fun _ _ => PairAt.cut (e _ _ ha) (e _ _ hb)) h5⟩
/-- what a step comes to -/
def stepped (r : PeRule.Rule) (b : PeRule.Bound) (c : PeCode.Code) (i : Nat) : PeCode.Code := c.take i ++ (PeRule.put r b ++ c.drop (i + r.left.length))
theorem worked_of {r : PeRule.Rule} {b : PeRule.Bound} {c : PeCode.Code} {i : Nat} (h : PeRule.fits r (c.drop i) = some b) : PeRule.worked r c i = some (stepped r b c i) := by
  unfold PeRule.worked
  rw [h]
  rfl
theorem HeldOk.after {h : PeepSpec.Held} (o : HeldOk h) {r : PeRule.Rule} {b : PeRule.Bound} (k : Nat) {i : Nat} (rh : RuleHeld r) (f : PeRule.fits r (h.code.drop i) = some b) : HeldOk ⟨stepped r b h.code i, h.steps ++ [(k, i)]⟩ ∧ PeCode.costOf (stepped r b h.code i) < PeCode.costOf h.code := by
  obtain ⟨w1, w2, w3, _⟩ := worked_ok rh o.ok (worked_of f)
  exact ⟨o.step k i w1 (worked_n o.nm (worked_of f)) w2 w3, w3⟩
def spAfter (K : PySem.W.Frag) : Sp := fun vs H Q _ => ∃ (hh m t a p tx : Addr) (kvs : List (Key × V)) (rs : PeRule.Rules) (h : PeepSpec.Held) (k i : Nat) (r : PeRule.Rule) (b : PeRule.Bound), vs = [.ref hh, .ref m, .ref t] ∧ H hh = some (.dK kvs) ∧ HeldD K H kvs rs ∧ rs.getD k none = some r ∧ MomAt K H (.ref m) h ∧ HeldOk h ∧
  H t = some (.ins (cStep K) tx (fStep (.int k) (.int i) (.ref a))) ∧ FitAt K H a p b ∧ BoundOk b ∧ ∀ H' n, Ex H H' → MomNew K H H' (.ref n) ⟨stepped r b h.code i, h.steps ++ [(k, i)]⟩ → Q (.ref n) H'
theorem G_moment_after {P : Program} {w : World} {K : PySem.W.Frag} {mg : Str → Option Value} {base : Heap} (T : Txt w K mg) : Has P w K mg base CX0 5 (He.ga K "moment_after") p_moment_after (spAfter K) := by
  have G_put_to_work := G_put_to_work (P := P) (base := base) T
  have G_Moment_init := G_Moment_init (P := P) (base := base) T
  refine T.d_moment_after.has sc_moment_after (fun vs H Q E h => ?_) (fun cdv A outer s H vs Q E hr h => ⟨_, PSs.nox ((pss_cons (ps_set (i := 3) sc_moment_after.nd rfl (Or.inl rfl) (pe_callH G_put_to_work (hr.mono (by decide)) T.g_put_to_work pass0 (pa_cons (pe_dget (hu_of hr) (pv 0) (pe_fld (pv 2) rfl) (fun _ _ => rfl)) (pa_cons (pe_fld (pv 2) rfl) (pa_cons (pe_fld (pv 1) rfl) (pa_cons (pe_fld (pv 2) rfl) pa_nil))))))
    (pss_one (ps_ret (pe_makeH T.k_Moment G_Moment_init (hr.mono (by decide)) T.g_Moment pass0 (pa_cons (pv 3) (pa_cons (pe_op op_cat (pe_fld (pv 1) rfl) (pe_lst (pa_cons (pe_tup (pa_cons (pe_fld (pv 2) rfl) (pa_cons (pe_fld (pv 2) rfl) pa_nil))) pa_nil))) pa_nil))))))), ?_⟩)
  · obtain ⟨hh, m, t, a, p, tx, kvs, rs, h, k, i, r, b, rfl, _⟩ := h
    rfl
  · obtain ⟨hh, m, t, a, p, tx, kvs, rs, h, k, i, r, b, rfl, h4, h5, hr, ⟨m', mx, il, wl, us, ws, e, m1, m2, m3, m4, m5⟩, ok, ht, hf, bok, q⟩ := h
    have e := V.ref.inj e
    subst e
    have ho := h5.at' k
    rw [hr] at ho
    obtain ⟨v, hv, hrv, rh, _⟩ := ho
    have ln := rh.lens
    have sh := ok.short
    have al := ok.all
    refine ⟨_, rfl, _, rfl, t, _, tx, _, _, rfl, ht, T.cl_Step, T.nF_Step_number, lkSN .., hh, v, rfl, ?_, ?_⟩
    · have := DGet.k (k := .inl (k : Int)) h4
      rw [hv] at this
      exact this
    refine ⟨_, rfl, t, _, tx, _, _, rfl, ht, T.cl_Step, T.nF_Step_fit, lkSF .., ?_⟩
    refine ⟨_, rfl, m, _, mx, _, _, rfl, m1, T.cl_Moment, T.nF_Moment_instructions, lkMI .., ?_⟩
    refine ⟨_, rfl, t, _, tx, _, _, rfl, ht, T.cl_Step, T.nF_Step_place, lkSP .., ?_⟩
    refine ⟨v, r, a, p, il, b, us, h.code, i, rfl, hrv, rh.1, by omega, by omega, hf, bok, m2, m3, by omega, fun H1 q1 w1 n1 e1 g1 gv => ?_⟩
    refine ⟨_, rfl, _, rfl, m, _, mx, _, _, rfl, e1 _ _ m1, T.cl_Moment, T.nF_Moment_worked, lkMW .., ?_⟩
    refine ⟨_, rfl, t, _, tx, _, _, rfl, e1 _ _ ht, T.cl_Step, T.nF_Step_number, lkSN .., ?_⟩
    refine ⟨_, rfl, t, _, tx, _, _, rfl, e1 _ _ ht, T.cl_Step, T.nF_Step_place, lkSP .., by show 2 ≤ sizeLine; decide, fun tp ntp => ?_⟩
    have x2 := Ex.new (o := .tup [V.int (k : Int), V.int (i : Int)]) ntp
    refine ⟨by show 1 ≤ sizeLine; decide, fun lp nlp => ?_⟩
    have x3 := x2.trans (Ex.new (o := .lst [V.ref tp]) nlp)
    have gt : (upd (upd H1 tp (.tup [V.int (k : Int), V.int (i : Int)])) lp (.lst [V.ref tp])) tp = some (.tup [V.int (k : Int), V.int (i : Int)]) := (Ex.new nlp) _ _ upd_same
    have gl : (upd (upd H1 tp (.tup [V.int (k : Int), V.int (i : Int)])) lp (.lst [V.ref tp])) lp = some (.lst [V.ref tp]) := upd_same
    have m4' := x3 _ _ (e1 _ _ m4)
    generalize upd (upd H1 tp (.tup [V.int (k : Int), V.int (i : Int)])) lp (.lst [V.ref tp]) = H3 at x3 gt gl m4' ⊢
    have lw := m5.length
    refine ⟨wl, lp, ws, [.ref tp], rfl, rfl, m4', gl, szl (by show ws.length + 1 ≤ 1000000; omega), fun w2 nw2 => ?_⟩
    have x4 := x3.trans (Ex.new (o := .lst (ws ++ [V.ref tp])) nw2)
    have gt4 := (Ex.new (o := .lst (ws ++ [V.ref tp])) nw2) _ _ gt
    have gw : (upd H3 w2 (.lst (ws ++ [V.ref tp]))) w2 = some (.lst (ws ++ [V.ref tp])) := upd_same
    have nw : H w2 = none := fresh_back (e1.trans x3) nw2
    generalize upd H3 w2 (.lst (ws ++ [V.ref tp])) = H4 at x4 gt4 gw ⊢
    intro n nx nn nnx ne
    refine mk_newA nn nnx rfl fun H5 e5 h5 => ⟨rfl, ?_⟩
    have e05 := (e1.trans x4).trans e5
    refine q H5 n e05 ⟨n, nx, q1, w2, w1, ws ++ [.ref tp], rfl, fresh_back (e1.trans x4) nn, n1, nw, h5, e5 _ _ (x4 _ _ g1), gv.monoQ (ExQ.of (x4.trans e5)), e5 _ _ gw, ?_⟩
    exact All2.append (All2.mono (fun _ _ => PairAt.monoQ (ExQ.of e05)) m5) (.cons ⟨tp, rfl, e5 _ _ gt4⟩ .nil)
def spNextStep (K : PySem.W.Frag) : Sp := fun vs H Q _ => ∃ (hh l : Addr) (kvs : List (Key × V)) (rs : PeRule.Rules) (us : List V) (c : PeCode.Code), vs = [.ref hh, .ref l] ∧ H hh = some (.dK kvs) ∧ HeldD K H kvs rs ∧ H l = some (.lst us) ∧ CodeV K H us c ∧ CodeOk c ∧ c.length ≤ 128 ∧
  (PeRule.stepOf rs c = none → ∀ H', Ex H H' → Q .non H') ∧ ∀ k i r b, rs.getD k none = some r → PeRule.fits r (c.drop i) = some b → PeRule.stepOf rs c = some (k, i, stepped r b c i) → ∀ H' t tx a p, Ex H H' → H' t = some (.ins (cStep K) tx (fStep (.int k) (.int i) (.ref a))) → FitAt K H' a p b → BoundOk b → Q (.ref t) H'
theorem G_next_step {P : Program} {w : World} {K : PySem.W.Frag} {mg : Str → Option Value} {base : Heap} (T : Txt w K mg) : Has P w K mg base CX0 5 (He.ga K "next_step") p_next_step (spNextStep K) := by
  have G_fit_at := G_fit_at (P := P) (base := base) T
  have G_Step_init := G_Step_init (P := P) (base := base) T
  refine T.d_next_step.has sc_next_step (fun vs H Q E h => ?_) (fun cdv A outer s H vs Q E hr h => ⟨_, PSs.nox ((pss_cons (ps_set (i := 2) sc_next_step.nd rfl (Or.inl rfl) (pe_callB (call_sortedDI rfl) (by rfl) T.u_sorted (by decide +kernel) (pa_cons (pv 0) pa_nil)))
    (pss_cons (ps_for PassesOwn.never rfl (pi_range1 (by rfl) T.u_range (pa_cons (pe_callB call_len_seq (by rfl) T.u_len PySem.boot_len (pa_cons (pv 1) pa_nil)) pa_nil)) (pg_name (i := 3) sc_next_step.nd rfl (Or.inl rfl)) (pss_one (ps_for PassesOwn.never rfl (pi_list (pv 2)) (pg_name (i := 4) sc_next_step.nd rfl (Or.inl rfl)) (pss_cons (ps_set (i := 5) sc_next_step.nd rfl (Or.inl rfl) (pe_callH G_fit_at (hr.mono (by decide)) T.g_fit_at pass0 (pa_cons (pe_dget (hu_of hr) (pv 0) (pv 4) (fun _ _ => rfl)) (pa_cons (pv 1) (pa_cons (pv 3) pa_nil)))))
    (pss_one (ps_if (pt_cmpR op_notN (pv 5) pe_non (nomark _)) (pss_one (ps_ret (pe_makeH T.k_Step G_Step_init (hr.mono (by decide)) T.g_Step pass0 (pa_cons (pv 4) (pa_cons (pv 3) (pa_cons (pv 5) pa_nil)))))) pss_nil))))))
    (pss_one (ps_ret pe_non))))), ?_⟩)
  · obtain ⟨hh, l, kvs, rs, us, c, rfl, _⟩ := h
    rfl
  · obtain ⟨hh, l, kvs, rs, us, c, rfl, h4, h5, hl, hc, cok, hz, qN, qY⟩ := h
    obtain ⟨ks, hk, hp⟩ := h5.keys
    have lk := hp.length_eq
    rw [List.length_map] at lk
    have lk2 := keys_count rs
    have lk3 := h5.short
    refine ⟨_, rfl, hh, kvs, ks, rfl, .inl h4, hk, by omega, fun ys p perm srt np => ?_⟩
    have ey : ys.map V.int = natV (keysOf rs) := by
      have e : ys = (keysOf rs).map fun (n : Nat) => (n : Int) := List.Perm.eq_of_pairwise (fun a b _ _ h1 h2 => Int.le_antisymm h1 h2) srt (List.pairwise_map.mpr ((keys_sorted rs).imp fun h => by omega)) (perm.trans hp)
      rw [e, List.map_map]
      rfl
    rw [ey]
    have x1 := Ex.new (o := .lst (natV (keysOf rs))) np
    have g1 : (upd H p (.lst (natV (keysOf rs)))) p = some (.lst (natV (keysOf rs))) := upd_same
    generalize upd H p (.lst (natV (keysOf rs))) = H1 at x1 g1 ⊢
    have lu := hc.length
    refine ⟨_, rfl, l, us, rfl, .inl (SqL.of (x1 _ _ hl)), _, rfl, by omega, by omega, ?_⟩
    rw [show ((us.length : Int)).toNat = c.length by omega]
    refine for_it (walk_range (lo := 0) (n := c.length)) (fun i σ H2 => (∃ x y z, σ = [some (.ref hh), some (.ref l), some (.ref p), x, y, z]) ∧ Ex H1 H2 ∧ PeRule.stepOf rs c = ((List.range c.length).drop i).findSome? (atPlace rs c)) ?_ (fun _ _ _ _ _ => trivial) ?_ ?_
    · exact ⟨⟨_, _, _, rfl⟩, Ex.refl H1, by rw [List.drop_zero, stepOf_place]⟩
    · rintro i x σ H2 H3 hi ⟨⟨y0, y1, y2, rfl⟩, e2, hst⟩ ⟨rfl, hx⟩
      have hx : x = V.int (i : Nat) := by
        rw [hx]
        show V.int (0 + (i : Int)) = _
        rw [Int.zero_add]
      subst hx
      have hi2 : (List.range c.length)[i]? = some i := List.getElem?_range hi
      rw [findSome_drop hi2] at hst
      refine ⟨_, rfl, p, rfl, ⟨_, SqL.of (e2 _ _ g1)⟩, ?_⟩
      refine for_it (walk_list (a := p) (xs := natV (keysOf rs))) (fun j σ H4 => (∃ y z, σ = [some (.ref hh), some (.ref l), some (.ref p), some (.int (i : Nat)), y, z]) ∧ Ex H1 H4 ∧ PeRule.firstAt rs c i = ((keysOf rs).drop j).findSome? (atKey rs c i)) ?_ (fun j σ H4 _ q => SqL.of (q.2.1 _ _ g1)) ?_ ?_
      · exact ⟨⟨_, _, rfl⟩, e2, by rw [List.drop_zero, firstAt_keys]⟩
      · rintro j x σ H4 H5 hj ⟨⟨y0, y1, rfl⟩, e4, hfa⟩ ⟨rfl, hx⟩
        obtain ⟨k, hk, rfl⟩ : ∃ k, (keysOf rs)[j]? = some k ∧ x = V.int (k : Nat) := by
          rw [List.getElem?_map] at hx
          cases hkj : (keysOf rs)[j]? with
          | none => rw [hkj] at hx; cases hx
          | some k => rw [hkj] at hx; exact ⟨k, rfl, (Option.some.inj hx).symm⟩
        rw [findSome_drop hk] at hfa
        have e14 := x1.trans e4
        have hsome := mem_keys.mp (List.mem_of_getElem? hk)
        obtain ⟨r, hr⟩ := Option.isSome_iff_exists.mp hsome
        have ho := (h5.monoQ (ExQ.of e14)).at' k
        rw [hr] at ho
        obtain ⟨v, hv, hrv, rh, _⟩ := ho
        have ln := rh.lens
        refine ⟨_, rfl, _, rfl, hh, v, rfl, ?_, ?_⟩
        · have := DGet.k (k := .inl (k : Int)) (e14 _ _ h4)
          rw [hv] at this
          exact this
        refine ⟨_, rfl, _, rfl, v, r, l, us, c, i, rfl, hrv, rh.1, by omega, SqL.of (e14 _ _ hl), hc.monoQ (ExQ.of e14), cok, fun hn H6 e6 => ?_, fun b hb H6 a pl na npl e6 hf bok => ?_⟩
        · have hak : atKey rs c i k = none := by
            unfold atKey
            rw [hr]
            show (PeRule.worked r c i).map _ = none
            unfold PeRule.worked
            rw [hn]
            rfl
          rw [hak] at hfa
          refine ⟨_, rfl, rfl, _, rfl, ?_⟩
          exact ⟨⟨_, _, rfl⟩, e4.trans e6, hfa⟩
        · have hak : atKey rs c i k = some (k, stepped r b c i) := by
            unfold atKey
            rw [hr]
            show (PeRule.worked r c i).map _ = _
            rw [worked_of hb]
            rfl
          rw [hak] at hfa
          have hap : atPlace rs c i = some (k, i, stepped r b c i) := by
            unfold atPlace
            rw [show PeRule.firstAt rs c i = some (k, stepped r b c i) from hfa]
            rfl
          rw [hap] at hst
          refine ⟨_, rfl, rfl, _, rfl, ?_⟩
          refine ⟨_, rfl, _, rfl, _, rfl, ?_⟩
          intro t tx nt ntx ne
          refine mk_newA nt ntx rfl fun H7 e7 h7 => ⟨rfl, ?_⟩
          exact qY k i r b hr hb hst H7 t tx a pl ((e14.trans e6).trans e7) h7 ⟨hf.1.imp fun _ h => e7 _ _ h, e7 _ _ hf.2⟩ bok
      · rintro σ H4 ⟨⟨y0, y1, rfl⟩, e4, hfa⟩
        have hfa : PeRule.firstAt rs c i = none := by
          rw [hfa, List.length_map, List.drop_length]
          rfl
        have hap : atPlace rs c i = none := by
          unfold atPlace
          rw [hfa]
          rfl
        rw [hap] at hst
        exact ⟨⟨_, _, _, rfl⟩, e4, hst⟩
    · rintro σ H2 ⟨⟨y0, y1, y2, rfl⟩, e2, hst⟩
      refine qN ?_ H2 (x1.trans e2)
      rw [hst, List.drop_of_length_le (by rw [List.length_range]; exact Nat.le_refl _)]
      rfl
/-- where steps come to an end -/
def restOf (rs : PeRule.Rules) (h : PeepSpec.Held) : PeepSpec.Held := ⟨(runC rs h.code).2, h.steps ++ (runC rs h.code).1⟩
theorem restOf_none {rs : PeRule.Rules} {h : PeepSpec.Held} (e : PeRule.stepOf rs h.code = none) : restOf rs h = h := by
  unfold restOf
  rw [runC_none e]
  show (⟨h.code, h.steps ++ []⟩ : PeepSpec.Held) = h
  rw [List.append_nil]
theorem restOf_some {rs : PeRule.Rules} {h : PeepSpec.Held} {k i : Nat} {d : PeCode.Code} (hr : RulesOk rs) (o : HeldOk h) (e : PeRule.stepOf rs h.code = some (k, i, d)) : restOf rs h = restOf rs ⟨d, h.steps ++ [(k, i)]⟩ := by
  unfold restOf
  rw [runC_some hr o.ok e]
  show (⟨(runC rs d).2, h.steps ++ ((k, i) :: (runC rs d).1)⟩ : PeepSpec.Held) = ⟨(runC rs d).2, (h.steps ++ [(k, i)]) ++ (runC rs d).1⟩
  rw [List.append_assoc]
  rfl
def spRest (K : PySem.W.Frag) : Sp := fun vs H Q _ => ∃ (hh m : Addr) (kvs : List (Key × V)) (rs : PeRule.Rules) (h : PeepSpec.Held), vs = [.ref hh, .ref m] ∧ H hh = some (.dK kvs) ∧ HeldD K H kvs rs ∧ MomAt K H (.ref m) h ∧ HeldOk h ∧
  ∀ H' n, Ex H H' → (MomNew K H H' (.ref n) (restOf rs h) ∨ n = m ∧ restOf rs h = h) → MomAt K H' (.ref n) (restOf rs h) → HeldOk (restOf rs h) → Q (.ref n) H'
/-- what the loop knows -/
def LoopR (K : PySem.W.Frag) (H : Hp) (hh m : Addr) (rs : PeRule.Rules) (h : PeepSpec.Held) (k : Nat) (σ : L2.St) (H' : Hp) : Prop := ∃ (n : Addr) (sv : V) (g : PeepSpec.Held), σ = [some (.ref hh), some (.ref n), some sv] ∧ Ex H H' ∧ (MomNew K H H' (.ref n) g ∨ n = m ∧ g = h) ∧ MomAt K H' (.ref n) g ∧ HeldOk g ∧ restOf rs h = restOf rs g ∧ k = PeCode.costOf g.code ∧
  (sv = .non ∧ PeRule.stepOf rs g.code = none ∨ ∃ (t tx a p : Addr) (k i : Nat) (r : PeRule.Rule) (b : PeRule.Bound), sv = .ref t ∧ rs.getD k none = some r ∧ PeRule.fits r (g.code.drop i) = some b ∧ PeRule.stepOf rs g.code = some (k, i, stepped r b g.code i) ∧ H' t = some (.ins (cStep K) tx (fStep (.int k) (.int i) (.ref a))) ∧ FitAt K H' a p b ∧ BoundOk b)
theorem G_moment_at_rest {P : Program} {w : World} {K : PySem.W.Frag} {mg : Str → Option Value} {base : Heap} (T : Txt w K mg) : Has P w K mg base CX0 6 (He.ga K "moment_at_rest") p_moment_at_rest (spRest K) := by
  have G_moment_after := G_moment_after (P := P) (base := base) T
  have G_next_step := G_next_step (P := P) (base := base) T
  refine T.d_moment_at_rest.has sc_moment_at_rest (fun vs H Q E h => ?_) (fun cdv A outer s H vs Q E hr h => ⟨_, PSs.nox ((pss_cons (ps_set (i := 2) sc_moment_at_rest.nd rfl (Or.inl rfl) (pe_callH G_next_step (hr.mono (by decide)) T.g_next_step pass0 (pa_cons (pv 0) (pa_cons (pe_fld (pv 1) rfl) pa_nil))))
    (pss_cons (ps_while PassesOwn.never (pt_cmpR op_notN (pv 2) pe_non (nomark _)) (pss_cons (ps_set (i := 1) sc_moment_at_rest.nd rfl (Or.inl rfl) (pe_callH G_moment_after (hr.mono (by decide)) T.g_moment_after pass0 (pa_cons (pv 0) (pa_cons (pv 1) (pa_cons (pv 2) pa_nil)))))
    (pss_one (ps_set (i := 2) sc_moment_at_rest.nd rfl (Or.inl rfl) (pe_callH G_next_step (hr.mono (by decide)) T.g_next_step pass0 (pa_cons (pv 0) (pa_cons (pe_fld (pv 1) rfl) pa_nil)))))))
    (pss_one (ps_ret (pv 1)))))), ?_⟩)
  · obtain ⟨hh, m, kvs, rs, h, rfl, _⟩ := h
    rfl
  · obtain ⟨hh, m, kvs, rs, h, rfl, h4, h5, hm, ok, q⟩ := h
    have hro := h5.rulesOk
    obtain ⟨m', mx, il, wl, us, ws, e, m1, m2, m3, m4, m5⟩ := id hm
    have e := V.ref.inj e
    subst e
    refine ⟨_, rfl, _, rfl, m, _, mx, _, _, rfl, m1, T.cl_Moment, T.nF_Moment_instructions, lkMI .., ?_⟩
    refine ⟨hh, il, kvs, rs, us, h.code, rfl, h4, h5, m2, m3, ok.ok, ok.short, fun hn H1 e1 => ?_, fun k i r b hr hb hst H1 t tx a p e1 ht hf bok => ?_⟩
    · have L0 : LoopR K H hh m rs h (PeCode.costOf h.code) [some (.ref hh), some (.ref m), some .non] H1 := ⟨m, .non, h, rfl, e1, .inr ⟨rfl, rfl⟩, hm.monoQ (ExQ.of e1), ok, rfl, rfl, .inl ⟨rfl, hn⟩⟩
      refine ⟨LoopR K H hh m rs h, ⟨_, L0⟩, ?_⟩
      rintro kk σ H2 ⟨n, sv, g, rfl, e2, hnew, hg, gok, hre, rfl, hsv⟩
      rcases hsv with ⟨rfl, hno⟩ | ⟨t, tx, a, p, k, i, r, b, rfl, hr, hb, hst, ht, hf, bok⟩
      · refine ⟨_, rfl, rfl, _, rfl, ?_⟩
        refine ⟨_, rfl, ?_⟩
        rw [restOf_none hno] at hre
        rw [hre] at q
        exact q H2 n e2 hnew hg gok
      · refine ⟨_, rfl, rfl, _, rfl, ?_⟩
        refine ⟨fun σ' H' => ∃ m', m' < PeCode.costOf g.code ∧ LoopR K H hh m rs h m' σ' H', fun _ _ z => z, ?_⟩
        refine ⟨_, rfl, _, rfl, _, rfl, hh, n, t, a, p, tx, kvs, rs, g, k, i, r, b, rfl, e2 _ _ h4, h5.monoQ (ExQ.of e2), hr, hg, gok, ht, hf, bok, fun H3 n3 e3 hn3 => ?_⟩
        obtain ⟨ok3, lt3⟩ := gok.after k (hro k r hr) hb
        obtain ⟨m3, mx3, il3, wl3, us3, ws3, ev, _, _, _, k1, k2, k3, k4, k5⟩ := id hn3
        have ev := V.ref.inj ev
        subst ev
        have hre3 := hre.trans (restOf_some hro gok hst)
        have e23 := e2.trans e3
        refine ⟨_, rfl, _, rfl, n3, _, mx3, _, _, rfl, k1, T.cl_Moment, T.nF_Moment_instructions, lkMI .., ?_⟩
        refine ⟨hh, il3, kvs, rs, us3, _, rfl, e23 _ _ h4, h5.monoQ (ExQ.of e23), k2, k3, ok3.ok, ok3.short, fun hn4 H4 e4 => ?_, fun k' i' r' b' hr' hb' hst' H4 t' tx' a' p' e4 ht' hf' bok' => ?_⟩
        · exact ⟨_, lt3, n3, .non, _, rfl, e23.trans e4, .inl ((hn3.back e2).mono e4), (hn3.at').monoQ (ExQ.of e4), ok3, hre3, rfl, .inl ⟨rfl, hn4⟩⟩
        · exact ⟨_, lt3, n3, .ref t', _, rfl, e23.trans e4, .inl ((hn3.back e2).mono e4), (hn3.at').monoQ (ExQ.of e4), ok3, hre3, rfl, .inr ⟨t', tx', a', p', k', i', r', b', rfl, hr', hb', hst', ht', hf', bok'⟩⟩
    · have L0 : LoopR K H hh m rs h (PeCode.costOf h.code) [some (.ref hh), some (.ref m), some (.ref t)] H1 := ⟨m, .ref t, h, rfl, e1, .inr ⟨rfl, rfl⟩, hm.monoQ (ExQ.of e1), ok, rfl, rfl, .inr ⟨t, tx, a, p, k, i, r, b, rfl, hr, hb, hst, ht, hf, bok⟩⟩
      clear ht hf bok hst hb hr
      refine ⟨LoopR K H hh m rs h, ⟨_, L0⟩, ?_⟩
      rintro kk σ H2 ⟨n, sv, g, rfl, e2, hnew, hg, gok, hre, rfl, hsv⟩
      rcases hsv with ⟨rfl, hno⟩ | ⟨t, tx, a, p, k, i, r, b, rfl, hr, hb, hst, ht, hf, bok⟩
      · refine ⟨_, rfl, rfl, _, rfl, ?_⟩
        refine ⟨_, rfl, ?_⟩
        rw [restOf_none hno] at hre
        rw [hre] at q
        exact q H2 n e2 hnew hg gok
      · refine ⟨_, rfl, rfl, _, rfl, ?_⟩
        refine ⟨fun σ' H' => ∃ m', m' < PeCode.costOf g.code ∧ LoopR K H hh m rs h m' σ' H', fun _ _ z => z, ?_⟩
        refine ⟨_, rfl, _, rfl, _, rfl, hh, n, t, a, p, tx, kvs, rs, g, k, i, r, b, rfl, e2 _ _ h4, h5.monoQ (ExQ.of e2), hr, hg, gok, ht, hf, bok, fun H3 n3 e3 hn3 => ?_⟩
        obtain ⟨ok3, lt3⟩ := gok.after k (hro k r hr) hb
        obtain ⟨m3, mx3, il3, wl3, us3, ws3, ev, _, _, _, k1, k2, k3, k4, k5⟩ := id hn3
        have ev := V.ref.inj ev
        subst ev
        have hre3 := hre.trans (restOf_some hro gok hst)
        have e23 := e2.trans e3
        refine ⟨_, rfl, _, rfl, n3, _, mx3, _, _, rfl, k1, T.cl_Moment, T.nF_Moment_instructions, lkMI .., ?_⟩
        refine ⟨hh, il3, kvs, rs, us3, _, rfl, e23 _ _ h4, h5.monoQ (ExQ.of e23), k2, k3, ok3.ok, ok3.short, fun hn4 H4 e4 => ?_, fun k' i' r' b' hr' hb' hst' H4 t' tx' a' p' e4 ht' hf' bok' => ?_⟩
        · exact ⟨_, lt3, n3, .non, _, rfl, e23.trans e4, .inl ((hn3.back e2).mono e4), (hn3.at').monoQ (ExQ.of e4), ok3, hre3, rfl, .inl ⟨rfl, hn4⟩⟩
        · exact ⟨_, lt3, n3, .ref t', _, rfl, e23.trans e4, .inl ((hn3.back e2).mono e4), (hn3.at').monoQ (ExQ.of e4), ok3, hre3, rfl, .inr ⟨t', tx', a', p', k', i', r', b', rfl, hr', hb', hst', ht', hf', bok'⟩⟩
end Pb

set_option Elab.async false
set_option linter.all false
set_option maxRecDepth 100000
set_option maxHeartbeats 4000000
namespace Pb
open PySem PySem.Spec PyProof.Rows L2 Evl PbX
/-! ### a list made longer by a tuple -/
theorem ext_tup (p q : Addr) (xs ys : Array Value) (n k : Nat) (dc : Option Addr) (sl : Array (Option Value)) (h0 : ¬(!xs.isEmpty && Builtin.List.listTooLong (xs.size + ys.size)) = true) (h1 : xs.size ≤ sizeLine) (h2 : xs.size + ys.size ≤ sizeLine + 1) :
    Meets (Builtin.«list.extend» ⟨[.ref p, .ref q], []⟩) (fun _ R s => s.heap.get? p = some { cls := .type "list", dict := none, data := .seq xs n, slots := #[] } ∧ s.heap.get? q = some { cls := .type "tuple", dict := dc, data := .seq ys k, slots := sl } ∧
      R (.ok (.ret Value.none)) { s with heap := s.heap.update p (Obj.mapSeq fun x => x ++ ys), toks := s.toks }) :=
  .of_wp fun prog w A R s z => by
    obtain ⟨hp, gn, dr, tk, os⟩ := s
    obtain ⟨e1, e2, z⟩ := z
    have w1 := AutoSeq1.sub_tuple_tuple
    have w2 := AutoSeq1.sub_list_list
    have w3 := AutoSeq1.sub_tuple_list
    have w4 := AutoSeq1.sub_list_tuple
    have w5 := AutoSeq1.idx_int
    have room : (xs ++ ys).size ≤ sizeLine + 1 := by
      rw [Array.size_append]
      exact h2
    wp_walk using (wpAny_updateSeq e1 rfl (hz := h1) (_hz' := room)), AutoSeq1.wpAny_loadPart' e1, AutoSeq1.wpAny_loadPart' e2
    exact ⟨_, rfl, z⟩
def rExtendT : V → List V → Hp → VK → Prop := fun x vs H Q => ∃ p q xs ys, x = .ref p ∧ vs = [.ref q] ∧ H p = some (.lst xs) ∧ H q = some (.tup ys) ∧ xs.length + ys.length ≤ sizeLine ∧ Q .non (upd H p (.lst (xs ++ ys)))
theorem mt_extendT {X : Cx} : MtM X "list.extend" rExtendT := by
  intro pins s σ H x vs v us Q I rx rv h
  obtain ⟨p, q, xs, ys, rfl, rfl, hp, hq, hz, k⟩ := h
  cases rx
  obtain ⟨u, rfl, ru⟩ := rv.one
  cases ru
  obtain ⟨z1, as, n, r1, l1, e1⟩ := I.lstM hp
  obtain ⟨z2, bs, r2, o, e2, c2, m, d2⟩ := I.hok q _ hq
  obtain ⟨oc, od, odt, osl⟩ := o
  dsimp only at c2 d2
  subst c2 d2
  have l2 := r2.length
  have sz : as.toArray.size + bs.toArray.size ≤ sizeLine := by
    rw [List.size_toArray, List.size_toArray]
    omega
  have nl : ¬ (!as.toArray.isEmpty && Builtin.List.listTooLong (as.toArray.size + bs.toArray.size)) = true := by
    rw [notLongL sz, Bool.and_false]
    exact Bool.false_ne_true
  refine call_meets F.slot_list_extend ⟨_, e1, rfl⟩ F.entry_list_extend (F.args_list_extend_2 _ _) (ext_tup p q as.toArray bs.toArray n m od osl nl (by rw [List.size_toArray]; omega) (by omega)) ⟨e1, e2, ?_⟩
  refine ⟨.non, _, I.lset (its' := as ++ bs) hp e1 (by simp) (r1.append r2) ?_, rfl, k⟩
  rw [List.length_append]
  omega
end Pb

set_option Elab.async false
set_option linter.all false
set_option maxRecDepth 100000
set_option maxHeartbeats 4000000
namespace Pb
open PySem PySem.Spec PyProof.Rows L2 Evl PbX
theorem st_at {d : PeepSpec.State} {k i : Nat} : stepS d (.at_ k i) = match d.rules.getD k none with
    | none => (d, [-3])
    | some r => match PeRule.worked r d.now.code i with
      | none => (d, [-5])
      | some c => (PeepSpec.edited d ⟨c, d.now.steps ++ [(k, i)]⟩, [0, (c.length : Int), (PeCode.costOf c : Int)]) := by
  unfold stepS PeepSpec.step
  dsimp only
  cases d.rules.getD k none with
  | none => rfl
  | some r =>
    dsimp only
    cases PeRule.worked r d.now.code i with
    | none => rfl
    | some c => rfl
theorem G_Session_at {P : Program} {w : World} {K : PySem.W.Frag} {mg : Str → Option Value} {base : Heap} (T : Txt w K mg) : Has P w K mg base (L2.CX P w) 6 (He.ma K (He.ga K "Session") "at") p_Session_at (spSX K (SA2 K) 2 (argNN PeepSpec.Call.at_)) := by
  have G_Session_become := G_Session_become (P := P) (base := base) T
  have G_Session_held_fit := G_Session_held_fit (P := P) (base := base) T
  have G_Session_size := G_Session_size (P := P) (base := base) T
  have G_moment_after := G_moment_after (P := P) (base := base) T
  have G_Step_init := G_Step_init (P := P) (base := base) T
  refine T.d_Session_at.hasX sc_Session_at (fun vs H Q E h => ?_) (fun cdv A outer s H vs Q E hr h => ⟨_, ((pss_cons (ps_set (i := 3) sc_Session_at.nd rfl (Or.inl rfl) (pe_makeH T.k_Step G_Step_init (hr.mono (by decide)) T.g_Step pass0 (pa_cons (pv 1) (pa_cons (pv 2) (pa_cons (pe_methH (pv 0) T.cl_Session T.m_Session_held_fit G_Session_held_fit (hr.mono (by decide)) (passes_call (takes_of rfl rfl rfl rfl) (fun _ _ _ _ h => h)) (pa_cons (pv 1) (pa_cons (pv 2) pa_nil))) pa_nil)))))
    (pss_cons (ps_expr (pe_methH (pv 0) T.cl_Session T.m_Session_become G_Session_become (hr.mono (by decide)) pass0 (pa_cons (pe_callH G_moment_after (hr.mono (by decide)) T.g_moment_after pass0 (pa_cons (pe_fld (pv 0) rfl) (pa_cons (pe_fld (pv 0) rfl) (pa_cons (pv 3) pa_nil)))) pa_nil)))
    (pss_one (ps_ret (pe_meth0H (pv 0) T.cl_Session T.m_Session_size G_Session_size (hr.mono (by decide)) pass0)))))), ?_⟩)
  · obtain ⟨s, d, as, x, rfl, ha, _⟩ := h
    rw [List.length_cons, ha]
    rfl
  · obtain ⟨s, d, as, x, rfl, _, hs, ⟨k, i, rfl, hk, hi, rfl⟩, q, qx⟩ := h
    have hst := st_at (d := d) (k := k) (i := i)
    obtain ⟨b1, b2, hs1⟩ := hs
    have hs : SA2 K H s d := ⟨b1, b2, hs1⟩
    obtain ⟨sx, hi, hx, m, mx, il, wl, hh, us, ws, kvs, w⟩ := hs1.view
    refine ⟨_, rfl, _, rfl, _, rfl, s, sx, _, rfl, w.s_, by rfl, _, rfl, _, rfl, s, d, k, i, rfl, hs, fun hn => ?_, fun r hr => ⟨fun hn => ?_, fun b hb H1 a p e1 hf bok rh => ?_⟩⟩
    · rw [hn] at hst
      exact refused_of hs qx hst rfl
    · rw [hr] at hst
      dsimp only at hst
      unfold PeRule.worked at hst
      rw [hn] at hst
      exact refused_of hs qx hst rfl
    rw [hr] at hst
    dsimp only at hst
    rw [worked_of hb] at hst
    dsimp only at hst
    intro t tx nt ntx ne
    refine mk_newA nt ntx rfl fun H2 e2 ht => ⟨rfl, ?_⟩
    have e12 := e1.trans e2
    have w2 := w.mono e12
    have hf2 : FitAt K H2 a p b := ⟨hf.1.imp fun _ h => e2 _ _ h, e2 _ _ hf.2⟩
    obtain ⟨ok3, _⟩ := hs1.okn.after k rh hb
    refine ⟨_, rfl, s, sx, _, rfl, w2.s_, by rfl, ?_⟩
    refine ⟨_, rfl, s, _, sx, _, _, rfl, w2.s_, T.cl_Session, T.nF_Session_held, lkHeld .., _, rfl, s, _, sx, _, _, rfl, w2.s_, T.cl_Session, T.nF_Session_now, lkNow .., _, rfl, ?_⟩
    refine ⟨hh, m, t, a, p, tx, kvs, d.rules, d.now, k, i, r, b, rfl, w2.hh_, w2.held, hr, w2.mom, hs1.okn, ht, hf2, bok, fun H3 n e3 hn => ?_⟩
    have e13 := e12.trans e3
    have hs3 := hs1.grow e13
    obtain ⟨bs, z1, _⟩ := hs1.bef
    obtain ⟨un, z2, _⟩ := hs1.und
    refine ⟨s, n, b1, b2, d, _, rfl, hs3, hn.cut e3 (e12 _ _ z1) (e12 _ _ z2), ok3, fun H4 e4 hs4 => ?_⟩
    obtain ⟨sx4, m4, hi4, hh4, k4⟩ := hs4.at_s
    refine ⟨_, rfl, s, sx4, _, rfl, k4, by rfl, s, _, rfl, ⟨b1, b2, hs4⟩, fun H5 p5 np e5 h5 => ?_⟩
    rw [edited_now] at h5
    unfold Told at q
    rw [hst] at q
    exact q H5 p5 ((StayR.of e13).trans ((ExS.stay hs3 e4).trans (StayR.of e5))) ⟨b1, b2, hs4.grow e5⟩ h5
theorem st_step {d : PeepSpec.State} : stepS d .step = match PeRule.stepOf d.rules d.now.code with
    | none => (d, [-5])
    | some x => (PeepSpec.edited d ⟨x.2.2, d.now.steps ++ [(x.1, x.2.1)]⟩, [0, (x.1 : Int), (x.2.1 : Int)]) := by
  unfold stepS PeepSpec.step
  dsimp only
  cases PeRule.stepOf d.rules d.now.code with
  | none => rfl
  | some x => rfl
theorem lkStepIn : True := trivial
theorem G_Session_step {P : Program} {w : World} {K : PySem.W.Frag} {mg : Str → Option Value} {base : Heap} (T : Txt w K mg) : Has P w K mg base (L2.CX P w) 6 (He.ma K (He.ga K "Session") "step") p_Session_step (spSX K (SA2 K) 0 (arg0 PeepSpec.Call.step)) := by
  have G_Session_become := G_Session_become (P := P) (base := base) T
  have G_moment_after := G_moment_after (P := P) (base := base) T
  have G_next_step := G_next_step (P := P) (base := base) T
  have G_NotFitting_init := G_NotFitting_init (P := P) (base := base) T
  refine T.d_Session_step.hasX sc_Session_step (fun vs H Q E h => ?_) (fun cdv A outer s H vs Q E hr h => ⟨_, ((pss_cons (ps_set (i := 1) sc_Session_step.nd rfl (Or.inl rfl) (pe_callH G_next_step (hr.mono (by decide)) T.g_next_step pass0 (pa_cons (pe_fld (pv 0) rfl) (pa_cons (pe_fld (pe_fld (pv 0) rfl) rfl) pa_nil))))
    (pss_cons (ps_if (pt_cmpR op_isN (pv 1) pe_non (nomark _)) (pss_one (ps_raise rfl (takes_of rfl rfl rfl rfl) (pmk_c0H T.x_NotFitting G_NotFitting_init (hr.mono (by decide)) T.g_NotFitting))) pss_nil)
    (pss_cons (ps_expr (pe_methH (pv 0) T.cl_Session T.m_Session_become G_Session_become (hr.mono (by decide)) pass0 (pa_cons (pe_callH G_moment_after (hr.mono (by decide)) T.g_moment_after pass0 (pa_cons (pe_fld (pv 0) rfl) (pa_cons (pe_fld (pv 0) rfl) (pa_cons (pv 1) pa_nil)))) pa_nil)))
    (pss_one (ps_ret (pe_lst (pa_cons pe_int (pa_cons (pe_fld (pv 1) rfl) (pa_cons (pe_fld (pv 1) rfl) pa_nil)))))))))), ?_⟩)
  · obtain ⟨s, d, as, x, rfl, ha, _⟩ := h
    rw [List.length_cons, ha]
    rfl
  · obtain ⟨s, d, as, x, rfl, _, hs, ⟨rfl, rfl⟩, q, qx⟩ := h
    have hst := st_step (d := d)
    obtain ⟨b1, b2, hs1⟩ := hs
    have hs : SA2 K H s d := ⟨b1, b2, hs1⟩
    obtain ⟨sx, hi, hx, m, mx, il, wl, hh, us, ws, kvs, w⟩ := hs1.view
    refine ⟨_, rfl, s, _, sx, _, _, rfl, w.s_, T.cl_Session, T.nF_Session_held, lkHeld .., _, rfl, s, _, sx, _, _, rfl, w.s_, T.cl_Session, T.nF_Session_now, lkNow .., m, _, mx, _, _, rfl, w.m_, T.cl_Moment, T.nF_Moment_instructions, lkMI .., ?_⟩
    refine ⟨hh, il, kvs, d.rules, us, d.now.code, rfl, w.hh_, w.held, w.il_, w.cv, hs1.okn.ok, hs1.okn.short, fun hn H1 e1 => ?_, fun k i r b hr hb hso H1 t tx a p e1 ht hf bok => ?_⟩
    · rw [hn] at hst
      refine ⟨_, rfl, rfl, _, rfl, ?_⟩
      exact mkO_ref T.x_NotFitting ((refused_of hs qx hst rfl).mono e1) rfl (by decide) (by decide) fun _ _ => ⟨rfl, rfl⟩
    rw [hso] at hst
    dsimp only at hst
    have rh := w.held.rulesOk k r hr
    have w2 := w.mono e1
    obtain ⟨ok3, _⟩ := hs1.okn.after k rh hb
    refine ⟨_, rfl, rfl, _, rfl, ?_⟩
    refine ⟨_, rfl, s, sx, _, rfl, w2.s_, by rfl, ?_⟩
    refine ⟨_, rfl, s, _, sx, _, _, rfl, w2.s_, T.cl_Session, T.nF_Session_held, lkHeld .., _, rfl, s, _, sx, _, _, rfl, w2.s_, T.cl_Session, T.nF_Session_now, lkNow .., _, rfl, ?_⟩
    refine ⟨hh, m, t, a, p, tx, kvs, d.rules, d.now, k, i, r, b, rfl, w2.hh_, w2.held, hr, w2.mom, hs1.okn, ht, hf, bok, fun H3 n e3 hn => ?_⟩
    have e13 := e1.trans e3
    have hs3 := hs1.grow e13
    obtain ⟨bs, z1, _⟩ := hs1.bef
    obtain ⟨un, z2, _⟩ := hs1.und
    have ht3 := e3 _ _ ht
    refine ⟨s, n, b1, b2, d, _, rfl, hs3, hn.cut e3 (e1 _ _ z1) (e1 _ _ z2), ok3, fun H4 e4 hs4 => ?_⟩
    have ht4 : H4 t = some (.ins (cStep K) tx (fStep (.int (k : Nat)) (.int (i : Nat)) (.ref a))) := e4 _ _ (ne_of ht3 (e13 _ _ w.s_) (by
      intro z
      injection z with _ _ z
      injection z with z1 z2
      injection z1 with z1 z3
      exact absurd z1 (by decide +kernel))) (ne_of ht3 (e13 _ _ z1) (by intro z; cases z)) (ne_of ht3 (e13 _ _ z2) (by intro z; cases z)) ht3
    refine ⟨_, rfl, t, _, tx, _, _, rfl, ht4, T.cl_Step, T.nF_Step_number, lkSN .., _, rfl, t, _, tx, _, _, rfl, ht4, T.cl_Step, T.nF_Step_place, lkSP .., by show 3 ≤ sizeLine; decide, fun p5 np => ?_⟩
    have x5 := Ex.new (o := .lst [V.int 0, V.int (k : Nat), V.int (i : Nat)]) np
    unfold Told at q
    rw [hst] at q
    refine q _ p5 ((StayR.of e13).trans ((ExS.stay hs3 e4).trans (StayR.of x5))) ⟨b1, b2, hs4.grow x5⟩ ?_
    rw [upd_same]
    rfl
theorem st_run {d : PeepSpec.State} : stepS d .run = (PeepSpec.edited d (restOf d.rules d.now), [((runC d.rules d.now.code).1.length : Int)]) := rfl
theorem G_Session_run {P : Program} {w : World} {K : PySem.W.Frag} {mg : Str → Option Value} {base : Heap} (T : Txt w K mg) : Has P w K mg base CX0 7 (He.ma K (He.ga K "Session") "run") p_Session_run (spS0 K (SA2 K) 0 (arg0 PeepSpec.Call.run)) := by
  have G_Session_become := G_Session_become (P := P) (base := base) T
  have G_moment_at_rest := G_moment_at_rest (P := P) (base := base) T
  refine T.d_Session_run.has sc_Session_run (fun vs H Q E h => ?_) (fun cdv A outer s H vs Q E hr h => ⟨_, PSs.nox ((pss_cons (ps_set (i := 1) sc_Session_run.nd rfl (Or.inl rfl) (pe_callH G_moment_at_rest (hr.mono (by decide)) T.g_moment_at_rest pass0 (pa_cons (pe_fld (pv 0) rfl) (pa_cons (pe_fld (pv 0) rfl) pa_nil))))
    (pss_cons (ps_set (i := 2) sc_Session_run.nd rfl (Or.inl rfl) (pe_op op_sub (pe_callB call_len_seq (by rfl) T.u_len PySem.boot_len (pa_cons (pe_fld (pv 1) rfl) pa_nil)) (pe_callB call_len_seq (by rfl) T.u_len PySem.boot_len (pa_cons (pe_fld (pe_fld (pv 0) rfl) rfl) pa_nil))))
    (pss_cons (ps_expr (pe_methH (pv 0) T.cl_Session T.m_Session_become G_Session_become (hr.mono (by decide)) pass0 (pa_cons (pv 1) pa_nil)))
    (pss_one (ps_ret (pe_lst (pa_cons (pv 2) pa_nil)))))))), ?_⟩)
  · obtain ⟨s, d, as, x, rfl, ha, _⟩ := h
    rw [List.length_cons, ha]
    rfl
  · obtain ⟨s, d, as, x, rfl, _, hs, ⟨rfl, rfl⟩, q⟩ := h
    obtain ⟨b1, b2, hs1⟩ := hs
    have hs : SA2 K H s d := ⟨b1, b2, hs1⟩
    obtain ⟨sx, hi, hx, m, mx, il, wl, hh, us, ws, kvs, w⟩ := hs1.view
    obtain ⟨bs, z1, _⟩ := hs1.bef
    obtain ⟨un, z2, _⟩ := hs1.und
    refine ⟨_, rfl, s, _, sx, _, _, rfl, w.s_, T.cl_Session, T.nF_Session_held, lkHeld .., _, rfl, s, _, sx, _, _, rfl, w.s_, T.cl_Session, T.nF_Session_now, lkNow .., ?_⟩
    refine ⟨hh, m, kvs, d.rules, d.now, rfl, w.hh_, w.held, w.mom, hs1.okn, fun H1 n e1 hn hna ok1 => ?_⟩
    have w1 := w.mono e1
    have hs3 := hs1.grow e1
    obtain ⟨n', nx, il1, wl1, us1, ws1, ev, g1, g2, g3, g4, g5⟩ := id hna
    have ev := V.ref.inj ev
    subst ev
    refine ⟨_, rfl, n, _, nx, _, _, rfl, g1, T.cl_Moment, T.nF_Moment_worked, lkMW .., wl1, _, rfl, .inl (SqL.of g4), ?_⟩
    refine ⟨_, rfl, s, _, sx, _, _, rfl, w1.s_, T.cl_Session, T.nF_Session_now, lkNow .., m, _, mx, _, _, rfl, w1.m_, T.cl_Moment, T.nF_Moment_worked, lkMW .., wl, _, rfl, .inl (SqL.of w1.wl_), _, _, rfl, rfl, ?_⟩
    have hcut : MomAt K (cut b1 b2 H1) (.ref n) (restOf d.rules d.now) := by
      rcases hn with hn | ⟨rfl, he⟩
      · exact hn.cut e1 z1 z2
      · rw [he]
        obtain ⟨sx', hi', hx', m', mx', il', wl', hh', us', ws', kvs', w'⟩ := hs3.see
        have h1 := (of_cut w'.s_).1
        rw [w1.s_] at h1
        have h2 := Option.some.inj h1
        injection h2 with _ _ h3
        injection h3 with h4 _
        injection h4 with _ h5
        have h6 := V.ref.inj h5
        subst h6
        exact w'.mom
    refine ⟨_, rfl, s, sx, _, rfl, w1.s_, by rfl, _, rfl, s, n, b1, b2, d, restOf d.rules d.now, rfl, hs3, hcut, ok1, fun H4 e4 hs4 => ?_⟩
    refine ⟨_, rfl, by show 1 ≤ sizeLine; decide, fun p5 np => ?_⟩
    have e5 : ((ws1.length : Int) - (ws.length : Int)) = ((runC d.rules d.now.code).1.length : Int) := by
      have l1 := g5.length
      have l2 := w.pv.length
      have l3 : (restOf d.rules d.now).steps.length = d.now.steps.length + (runC d.rules d.now.code).1.length := List.length_append
      omega
    have x5 := Ex.new (o := .lst [V.int ((ws1.length : Int) - (ws.length : Int))]) np
    unfold Told at q
    rw [st_run] at q
    refine q _ p5 ((StayR.of e1).trans ((ExS.stay hs3 e4).trans (StayR.of x5))) ⟨b1, b2, hs4.grow x5⟩ ?_
    rw [upd_same]
    show some (HO.lst [V.int ((ws1.length : Int) - (ws.length : Int))]) = some (HO.lst [V.int ((runC d.rules d.now.code).1.length : Int)])
    rw [e5]
/-! ### the trail told -/
def flatP (l : List (Nat × Nat)) : List Nat := l.flatMap fun x => [x.1, x.2]
theorem flatP_len (l : List (Nat × Nat)) : (flatP l).length = 2 * l.length := by
  induction l with
  | nil => rfl
  | cons x l ih =>
    show ([x.1, x.2] ++ flatP l).length = 2 * (l.length + 1)
    rw [List.length_append, ih]
    show 2 + _ = _
    omega
theorem flatP_snoc (l : List (Nat × Nat)) (x : Nat × Nat) : flatP (l ++ [x]) = flatP l ++ [x.1, x.2] := by
  unfold flatP
  rw [List.flatMap_append]
  rfl
theorem st_trail {d : PeepSpec.State} : stepS d .trail = (d, ((d.now.steps.length : Nat) : Int) :: (flatP d.now.steps).map (fun (n : Nat) => (n : Int))) := by
  show (d, ((d.now.steps.length : Nat) : Int) :: ((flatP d.now.steps).map (fun (n : Nat) => (n : Int)) ++ [])) = _
  rw [List.append_nil]
theorem G_Session_trail {P : Program} {w : World} {K : PySem.W.Frag} {mg : Str → Option Value} {base : Heap} (T : Txt w K mg) : Has P w K mg base CX0 1 (He.ma K (He.ga K "Session") "trail") p_Session_trail (spS0 K (SA2 K) 0 (arg0 PeepSpec.Call.trail)) := by
  refine T.d_Session_trail.has sc_Session_trail (fun vs H Q E h => ?_) (fun cdv A outer s H vs Q E hr h => ⟨_, PSs.nox ((pss_cons (ps_set (i := 1) sc_Session_trail.nd rfl (Or.inl rfl) (pe_lst (pa_cons (pe_callB call_len_seq (by rfl) T.u_len PySem.boot_len (pa_cons (pe_fld (pe_fld (pv 0) rfl) rfl) pa_nil)) pa_nil)))
    (pss_cons (ps_for PassesOwn.never rfl (pi_list (pe_fld (pe_fld (pv 0) rfl) rfl)) (pg_name (i := 2) sc_Session_trail.nd rfl (Or.inl rfl)) (pss_one (ps_expr (pe_bm PySem.F.plainAttrs_list PySem.F.slot_list_extend PySem.F.type_list_extend mt_extendT (pv 1) (pa_cons (pv 2) pa_nil)))))
    (pss_one (ps_ret (pv 1)))))), ?_⟩)
  · obtain ⟨s, d, as, x, rfl, ha, _⟩ := h
    rw [List.length_cons, ha]
    rfl
  · obtain ⟨s, d, as, x, rfl, _, hs, ⟨rfl, rfl⟩, q⟩ := h
    obtain ⟨b1, b2, hs1⟩ := hs
    have hs : SA2 K H s d := ⟨b1, b2, hs1⟩
    obtain ⟨sx, hi, hx, m, mx, il, wl, hh, us, ws, kvs, w⟩ := hs1.view
    have lw := w.pv.length
    have al := hs1.okn.all
    refine ⟨_, rfl, s, _, sx, _, _, rfl, w.s_, T.cl_Session, T.nF_Session_now, lkNow .., m, _, mx, _, _, rfl, w.m_, T.cl_Moment, T.nF_Moment_worked, lkMW .., wl, _, rfl, .inl (SqL.of w.wl_), by show 1 ≤ sizeLine; decide, fun p np => ?_⟩
    have x1 := Ex.new (o := .lst [V.int (ws.length : Int)]) np
    refine ⟨_, rfl, s, _, sx, _, _, rfl, x1 _ _ w.s_, T.cl_Session, T.nF_Session_now, lkNow .., m, _, mx, _, _, rfl, x1 _ _ w.m_, T.cl_Moment, T.nF_Moment_worked, lkMW .., wl, rfl, ⟨_, SqL.of (x1 _ _ w.wl_)⟩, ?_⟩
    refine for_it (walk_list (a := wl) (xs := ws)) (fun j σ H2 => (∃ y, σ = [some (.ref s), some (.ref p), y]) ∧ Ex H H2 ∧ H2 p = some (.lst (V.int (ws.length : Int) :: natV (flatP (d.now.steps.take j))))) ?_ (fun j σ H2 _ q => SqL.of (q.2.1 _ _ w.wl_)) ?_ ?_
    · exact ⟨⟨_, rfl⟩, x1, by rw [upd_same]; rfl⟩
    · rintro j x σ H2 H3 hj ⟨⟨y, rfl⟩, e2, hp⟩ ⟨rfl, hx⟩
      obtain ⟨c, hc, t, rfl, ht⟩ := w.pv.at_ hx
      have ht2 := e2 _ _ ht
      have lt := flatP_len (d.now.steps.take j)
      rw [List.length_take] at lt
      refine ⟨_, rfl, .inl ⟨rfl, _, SqL.of hp⟩, _, rfl, p, t, _, _, rfl, rfl, hp, ht2, szl ?_, ?_⟩
      · rw [List.length_cons, natV_len]
        show _ + 1 + 2 ≤ 1000000
        omega
      · refine ⟨⟨_, rfl⟩, e2.mut np, ?_⟩
        rw [upd_same, take_next hc, flatP_snoc, natV, natV, List.map_append]
        rfl
    · rintro σ H2 ⟨⟨y, rfl⟩, e2, hp⟩
      rw [lw, List.take_length] at hp
      refine ⟨_, rfl, ?_⟩
      unfold Told at q
      rw [st_trail] at q
      refine q H2 p (StayR.of e2) (hs.grow e2) ?_
      rw [hp, List.map_cons, natV_map]
end Pb

set_option Elab.async false
set_option linter.all false
set_option maxRecDepth 100000
set_option maxHeartbeats 4000000
namespace Pb
open PySem PySem.Spec PyProof.Rows L2 Evl PbX
/-! ### the nine states -/
def spNine : Sp := fun vs H Q _ => vs = [] ∧ ∀ H' q ts, H q = none → Ex H H' → H' q = some (.lst ts) → All2 (NumsAt H') ts PeCode.states → Q (.ref q) H'
theorem G_nine_states {P : Program} {w : World} {K : PySem.W.Frag} {mg : Str → Option Value} {base : Heap} (T : Txt w K mg) : Has P w K mg base CX0 2 (He.ga K "nine_states") p_nine_states spNine := by
  have G_zero_and_ones := G_zero_and_ones (P := P) (base := base) T
  refine T.d_nine_states.has sc_nine_states (fun vs H Q E h => ?_) (fun cdv A outer s H vs Q E hr h => ⟨_, PSs.nox ((pss_one (ps_ret (pe_callH G_zero_and_ones (hr.mono (by decide)) T.g_zero_and_ones pass0 (pa_cons (pe_callB call_len_seq (by rfl) T.u_len PySem.boot_len (pa_cons (pe_gr T.g_REGISTERS) pa_nil)) pa_nil))))), ?_⟩)
  · exact congrArg List.length h.1
  · obtain ⟨rfl, q⟩ := h
    exact ⟨_, _, rfl, .inr (T.tp_REGISTERS _), 8, rfl, by decide, fun H' p ts hp e h1 h2 => q H' p ts hp e h1 h2⟩
theorem states_ok : ∀ t ∈ PeCode.states, t.length = 8 ∧ ∀ n ∈ t, n < PeCode.W := by decide +kernel
def spBetween (K : PySem.W.Frag) : Sp := fun vs H Q _ => ∃ (l m : Addr) (us ws : List V) (c e : PeCode.Code), vs = [.ref l, .ref m] ∧ SqL K H l us ∧ CodeV K H us c ∧ CodeOk c ∧ SqL K H m ws ∧ CodeV K H ws e ∧ CodeOk e ∧ ∀ H' v, Ex H H' → TrialV H' v (PeCode.apartAt c e) → Q v H'
theorem G_state_between {P : Program} {w : World} {K : PySem.W.Frag} {mg : Str → Option Value} {base : Heap} (T : Txt w K mg) : Has P w K mg base CX0 3 (He.ga K "state_between") p_state_between (spBetween K) := by
  have G_nine_states := G_nine_states (P := P) (base := base) T
  have G_state_after := G_state_after (P := P) (base := base) T
  refine T.d_state_between.has sc_state_between (fun vs H Q E h => ?_) (fun cdv A outer s H vs Q E hr h => ⟨_, PSs.nox ((pss_cons (ps_for PassesOwn.never rfl (pi_list (pe_call0H G_nine_states (hr.mono (by decide)) T.g_nine_states pass0)) (pg_name (i := 2) sc_state_between.nd rfl (Or.inl rfl)) (pss_one (ps_if (pt_cmpR (op_neD hr.units) (pe_callH G_state_after (hr.mono (by decide)) T.g_state_after pass0 (pa_cons (pv 0) (pa_cons (pv 2) pa_nil))) (pe_callH G_state_after (hr.mono (by decide)) T.g_state_after pass0 (pa_cons (pv 1) (pa_cons (pv 2) pa_nil))) (nomark _)) (pss_one (ps_ret (pv 2))) pss_nil)))
    (pss_one (ps_ret pe_non)))), ?_⟩)
  · obtain ⟨l, m, us, ws, c, e, rfl, _⟩ := h
    rfl
  · obtain ⟨l, m, us, ws, c, d, rfl, hl, hc, ok, hm, hd, okd, q⟩ := h
    unfold PeCode.apartAt at q
    refine ⟨rfl, fun H1 p ts hp e1 hts hall => ?_⟩
    refine ⟨p, rfl, ⟨_, SqL.of hts⟩, ?_⟩
    refine for_it (walk_list (a := p) (xs := ts)) (fun i σ H2 => (∃ x, σ = [some (.ref l), some (.ref m), x]) ∧ Ex H1 H2 ∧ PeCode.states.find? (fun s => PeCode.runOf c s != PeCode.runOf d s) = (PeCode.states.drop i).find? (fun s => PeCode.runOf c s != PeCode.runOf d s)) ⟨⟨_, rfl⟩, Ex.refl H1, rfl⟩ (fun i σ H2 _ q => SqL.of (q.2.1 _ _ hts)) ?_ ?_
    · rintro i x σ H2 H3 hi ⟨⟨y, rfl⟩, e2, hfind⟩ ⟨rfl, hx⟩
      obtain ⟨t, ht, b, rfl, hb⟩ := hall.at_ hx
      have tok := states_ok t (List.mem_of_getElem? ht)
      rw [find_drop ht] at hfind
      have e12 := e1.trans e2
      have hb2 := e2 _ _ hb
      refine ⟨_, rfl, _, rfl, l, us, c, b, t, rfl, ex_l e12 hl, hc.monoQ (ExQ.of e12), ok, SqL.of hb2, tok, fun H4 p4 hp4 e4 h4 => ?_⟩
      have e14 := e12.trans e4
      refine ⟨_, rfl, _, rfl, m, ws, d, b, t, rfl, ex_l e14 hm, hd.monoQ (ExQ.of e14), okd, SqL.of (e4 _ _ hb2), tok, fun H5 p5 hp5 e5 h5 => ?_⟩
      refine ⟨_, _, dp_nat (e5 _ _ h4), dp_nat h5, shaped_nat _, shaped_nat _, _, congrArg V.bl (ne_nat _ _), iB (fun g => ?_) (fun g => ?_)⟩
      · rw [if_pos g] at hfind
        rw [hfind] at q
        exact ⟨_, rfl, q H5 _ (e14.trans e5) ⟨b, rfl, e5 _ _ (e4 _ _ hb2)⟩⟩
      · rw [if_neg (by rw [g]; exact Bool.false_ne_true)] at hfind
        exact ⟨⟨_, rfl⟩, (e2.trans e4).trans e5, hfind⟩
    · rintro σ H2 ⟨⟨y, rfl⟩, e2, hfind⟩
      rw [hall.length, List.drop_length] at hfind
      rw [hfind] at q
      exact q H2 .non (e1.trans e2) rfl
/-! ### sums -/
def reachedOf (c : PeCode.Code) (r : Nat) : List Nat := PeCode.states.map fun s => PeCode.at_ (PeCode.runOf c s) r
theorem reached_eq (c : PeCode.Code) (r : Nat) : reachedOf c r = PeCode.at_ (PeCode.runOf c (stJ 8)) r :: (List.range 8).map fun j => PeCode.at_ (PeCode.runOf c (stJ j)) r := by
  unfold reachedOf
  rw [states_eq, List.map_cons, List.map_map]
  rfl
def spSumAt (K : PySem.W.Frag) : Sp := fun vs H Q _ => ∃ (l : Addr) (us : List V) (c : PeCode.Code) (r : Nat), vs = [.ref l, .int r] ∧ SqL K H l us ∧ CodeV K H us c ∧ CodeOk c ∧ r < 8 ∧ ∀ H' q, H q = none → Ex H H' → H' q = some (.lst (natV (PeCode.sumAt (PeCode.formsOf c) r))) → Q (.ref q) H'
theorem G_sum_at {P : Program} {w : World} {K : PySem.W.Frag} {mg : Str → Option Value} {base : Heap} (T : Txt w K mg) : Has P w K mg base CX0 3 (He.ga K "sum_at") p_sum_at (spSumAt K) := by
  have G_nine_states := G_nine_states (P := P) (base := base) T
  have G_state_after := G_state_after (P := P) (base := base) T
  refine T.d_sum_at.has sc_sum_at (fun vs H Q E h => ?_) (fun cdv A outer s H vs Q E hr h => ⟨_, PSs.nox ((pss_cons (ps_setLc (i := 2) (own := [("state", 4)]) (g := gName 4) (tt := tYes) rfl sc_sum_at.nd rfl rfl (sw_true rfl rfl rfl (by decide +kernel)) (pi_list (pe_call0H G_nine_states (hr.mono (by decide)) T.g_nine_states pass0)) (blkOk_by (N := n_sum_at) (sc := defScope s_sum_at) (by decide +kernel)) (fun _ _ _ _ _ => pg_name (i := 4) sc_sum_at.nd rfl (Or.inl rfl)) (fun _ _ _ _ _ => pts_nil) (fun _ _ _ _ _ => (pe_ix (ix_listK (K := K) rfl) (pe_callH G_state_after (hr.mono (by decide)) T.g_state_after pass0 (pa_cons (pv 0) (pa_cons (pv 4) pa_nil))) (pv 1) (fun _ _ => rfl))))
    (pss_cons (ps_set (i := 3) sc_sum_at.nd rfl (Or.inr rfl) (pe_ix ix_list (pv 2) pe_int (fun _ _ => rfl)))
    (pss_one (ps_ret (pe_op op_cat (pe_lc (own := [("number", 5)]) (g := gName 5) (tt := tYes) rfl sc_sum_at.nd (pi_list (pe_slice sl_list (pv 2) (po_some pe_int) po_none)) (blkOk_by (N := n_sum_at) (sc := defScope s_sum_at) (by decide +kernel)) (fun _ _ _ _ _ => pg_name (i := 5) sc_sum_at.nd rfl (Or.inl rfl)) (fun _ _ _ _ _ => pts_nil) (fun _ _ _ _ _ => (pe_op op_modN (pe_op op_sub (pv 5) (pv 3)) (pe_gi T.c_MODULUS)))) (pe_lst (pa_cons (pv 3) pa_nil)))))))), ?_⟩)
  · obtain ⟨l, us, c, r, rfl, _⟩ := h
    rfl
  · obtain ⟨l, us, c, r, rfl, hl, hc, ok, hr8, q⟩ := h
    rw [forms_list ok hr8] at q
    refine ⟨rfl, fun H1 p ts hp e1 hts hall => ?_⟩
    refine ⟨p, rfl, ⟨_, SqL.of hts⟩, fun D hD => ?_⟩
    refine lc_it (walk_list (a := p) (xs := ts)) (fun i H2 => Ex H1 H2 ∧ H2 D = some (.lst (natV ((reachedOf c r).take i)))) ⟨Ex.new hD, upd_same⟩ (fun i H2 _ q => SqL.of (q.1 _ _ hts)) ?_ ?_
    · rintro i x H2 H3 hi ⟨e2, hlst⟩ ⟨rfl, hx⟩
      obtain ⟨t, ht, b, rfl, hb⟩ := hall.at_ hx
      have tok := states_ok t (List.mem_of_getElem? ht)
      have e12 := e1.trans e2
      have sok := runOf_ok ok (s := t) tok
      refine ⟨rfl, _, rfl, _, rfl, l, us, c, b, t, rfl, ex_l e12 hl, hc.monoQ (ExQ.of e12), ok, SqL.of (e2 _ _ hb), tok, fun H4 p4 hp4 e4 h4 => ?_⟩
      refine ⟨_, rfl, p4, _, _, _, rfl, rfl, SqL.of h4, natV_at (by rw [sok.1]; exact hr8), _, e4 _ _ hlst, ?_, ?_⟩
      · rw [natV_len, List.length_take]
        have : (reachedOf c r).length = 9 := by rw [reached_eq, List.length_cons, List.length_map, List.length_range]
        exact szlt (by omega)
      · refine ⟨(e2.trans e4).mut hD, ?_⟩
        have hq : (reachedOf c r)[i]? = some (PeCode.at_ (PeCode.runOf c t) r) := by
          unfold reachedOf
          rw [List.getElem?_map, ht]
          rfl
        rw [upd_same, take_next hq, natV, natV, List.map_append]
        rfl
    rintro H2 ⟨e2, hlst⟩
    rw [hall.length, show PeCode.states.length = (reachedOf c r).length from (List.length_map ..).symm, List.take_length, reached_eq] at hlst
    generalize hA : PeCode.at_ (PeCode.runOf c (stJ 8)) r = A at hlst q
    generalize hL : (List.range 8).map (fun j => PeCode.at_ (PeCode.runOf c (stJ j)) r) = L at hlst
    have hL8 : L.length = 8 := by rw [← hL, List.length_map, List.length_range]
    have e12 := e1.trans e2
    have at0 : atI (natV (A :: L)) 0 = some (V.int (A : Nat)) := natV_at (s := A :: L) (r := 0) (by show 0 < L.length + 1; omega)
    refine ⟨_, rfl, D, _, _, _, rfl, rfl, SqL.of hlst, at0, ?_⟩
    have hcut : cutV (natV (A :: L)) (some 1) none = natV L := by
      rw [show (1 : Int) = ((1 : Nat) : Int) from rfl, cutV_from]
      rfl
    refine ⟨_, rfl, _, rfl, D, _, rfl, SqL.of hlst, fun p2 hp2 => ?_⟩
    rw [hcut] at *
    have x2 := Ex.new (o := .lst (natV L)) hp2
    have g2 : (upd H2 p2 (.lst (natV L))) p2 = some (.lst (natV L)) := upd_same
    have np2 := fresh_back e12 hp2
    generalize upd H2 p2 (.lst (natV L)) = H3 at x2 g2 ⊢
    refine ⟨p2, rfl, ⟨_, SqL.of g2⟩, fun D2 hD2 => ?_⟩
    refine lc_it (walk_list (a := p2) (xs := natV L)) (fun i H4 => Ex H3 H4 ∧ H4 D2 = some (.lst (natV ((L.map fun n => PeCode.less n A).take i)))) ⟨Ex.new hD2, upd_same⟩ (fun i H4 _ q => SqL.of (q.1 _ _ g2)) ?_ ?_
    · rintro i x H4 H5 hi ⟨e4, h4⟩ ⟨rfl, hx⟩
      obtain ⟨n, hn, rfl⟩ : ∃ n, L[i]? = some n ∧ x = V.int (n : Nat) := by
        rw [List.getElem?_map] at hx
        cases hk : L[i]? with
        | none => rw [hk] at hx; cases hx
        | some k => rw [hk] at hx; exact ⟨k, rfl, (Option.some.inj hx).symm⟩
      refine ⟨rfl, _, rfl, _, rfl, _, _, rfl, rfl, _, _, rfl, rfl, (by show (4294967296 : Int) ≠ 0; decide), _, h4, ?_, e4.mut hD2, ?_⟩
      · rw [natV_len, List.length_take, List.length_map]
        exact szlt (by omega)
      · have hq : (L.map fun n => PeCode.less n A)[i]? = some (PeCode.less n A) := by
          rw [List.getElem?_map, hn]
          rfl
        rw [upd_same, take_next hq, natV, natV, List.map_append]
        show some (HO.lst (_ ++ [V.int (((n : Int) - (A : Int)).fmod 4294967296)])) = _
        rw [less_int]
        rfl
    rintro H4 ⟨e4, h4⟩
    have hlen : (natV L).length = (L.map fun n => PeCode.less n A).length := by rw [natV_len, List.length_map]
    rw [hlen, List.take_length] at h4
    refine ⟨_, rfl, by show 1 ≤ sizeLine; decide, fun p3 hp3 => ?_⟩
    have x5 := Ex.new (o := .lst [V.int (A : Nat)]) hp3
    refine ⟨D2, p3, _, _, rfl, rfl, x5 _ _ h4, upd_same, ?_, fun p4 hp4 => ?_⟩
    · rw [natV_len, List.length_map, hL8]
      exact szl (by show 8 + 1 ≤ 1000000; decide)
    have x6 := ((e12.trans x2).trans e4).trans x5
    refine q _ p4 (fresh_back x6 hp4) (x6.trans (Ex.new hp4)) ?_
    rw [upd_same, ← hL, List.map_map]
    unfold natV
    rw [List.map_append]
    rfl
end Pb

set_option Elab.async false
set_option linter.all false
set_option maxRecDepth 100000
set_option maxHeartbeats 4000000
namespace Pb
open PySem PySem.Spec PyProof.Rows L2 Evl PbX
theorem any_big {s : List Nat} (h : ∀ n ∈ s, n < 2 ^ 32) : (s.any fun (n : Nat) => decide (PeCode.W ≤ n)) = false := by
  rw [List.any_eq_false]
  intro n hn
  have := h n hn
  have hW : PeCode.W = 2 ^ 32 := by decide
  rw [decide_eq_true_iff]
  omega
theorem st_eval {d : PeepSpec.State} {s : List Nat} (h : ∀ n ∈ s, n < 2 ^ 32) : stepS d (.eval s) = if s.length ≠ 8 then (d, [-1]) else (d, 0 :: (PeCode.runOf d.now.code s).map (fun (n : Nat) => (n : Int))) := by
  unfold stepS PeepSpec.step
  dsimp only
  rw [any_big h]
  by_cases g : s.length = 8
  · rw [if_neg (by rintro (z | z); exact z g; cases z), if_neg (fun z => z g)]
    show (d, (0 : Int) :: ((PeCode.runOf d.now.code s).map (fun (n : Nat) => (n : Int)) ++ [])) = _
    rw [List.append_nil]
  · rw [if_pos (.inl g), if_pos g]
    rfl
theorem G_Session_reckon {P : Program} {w : World} {K : PySem.W.Frag} {mg : Str → Option Value} {base : Heap} (T : Txt w K mg) : Has P w K mg base (L2.CX P w) 4 (He.ma K (He.ga K "Session") "reckon") p_Session_reckon (spSX K (SA2 K) 1 (argL K PeepSpec.Call.eval)) := by
  have G_state_after := G_state_after (P := P) (base := base) T
  have G_OutOfBounds_init := G_OutOfBounds_init (P := P) (base := base) T
  refine T.d_Session_reckon.hasX sc_Session_reckon (fun vs H Q E h => ?_) (fun cdv A outer s H vs Q E hr h => ⟨_, ((pss_cons (ps_if (pt_cmpR op_ne (pe_callB call_len_seq (by rfl) T.u_len PySem.boot_len (pa_cons (pv 1) pa_nil)) (pe_callB call_len_seq (by rfl) T.u_len PySem.boot_len (pa_cons (pe_gr T.g_REGISTERS) pa_nil)) (nomark _)) (pss_one (ps_raise rfl (takes_of rfl rfl rfl rfl) (pmk_c0H T.x_OutOfBounds G_OutOfBounds_init (hr.mono (by decide)) T.g_OutOfBounds))) pss_nil)
    (pss_one (ps_ret (pe_op op_cat (pe_lst (pa_cons pe_int pa_nil)) (pe_callH G_state_after (hr.mono (by decide)) T.g_state_after pass0 (pa_cons (pe_fld (pe_fld (pv 0) rfl) rfl) (pa_cons (pv 1) pa_nil)))))))), ?_⟩)
  · obtain ⟨s, d, as, x, rfl, ha, _⟩ := h
    rw [List.length_cons, ha]
    rfl
  · obtain ⟨s, d, as, x, rfl, _, hs, ⟨l, b, rfl, hl, hb, hw, rfl⟩, q, qx⟩ := h
    have hst := st_eval (d := d) hw
    obtain ⟨b1, b2, hs1⟩ := hs
    have hs : SA2 K H s d := ⟨b1, b2, hs1⟩
    obtain ⟨sx, hi, hx, m, mx, il, wl, hh, us, ws, kvs, w⟩ := hs1.view
    have hl : H l = some (.lst (natV b)) := hl
    refine ⟨_, rfl, l, _, rfl, .inl (SqL.of hl), _, _, rfl, .inr (T.tp_REGISTERS _), rfl, _, rfl, iB (fun g => ?_) (fun g => ?_)⟩
    · have g : ¬ V.int ((natV b).length : Int) = V.int 8 := by simpa using g
      rw [if_pos (fun z => g (by rw [natV_len, z]; rfl))] at hst
      exact mkO_ref T.x_OutOfBounds (refused_of hs qx hst rfl) rfl (by decide) (by decide) fun _ _ => ⟨rfl, rfl⟩
    have g : b.length = 8 := by
      have g : V.int ((natV b).length : Int) = V.int 8 := by simpa using g
      have g := V.int.inj g
      rw [natV_len] at g
      omega
    rw [if_neg (fun z => z g)] at hst
    have sok : StOk b := ⟨g, fun n hn => by
      have := hw n hn
      have hW : PeCode.W = 2 ^ 32 := by decide
      omega⟩
    refine ⟨by show 1 ≤ sizeLine; decide, fun p hp => ?_⟩
    have x1 := Ex.new (o := .lst [V.int 0]) hp
    refine ⟨_, rfl, s, _, sx, _, _, rfl, x1 _ _ w.s_, T.cl_Session, T.nF_Session_now, lkNow .., m, _, mx, _, _, rfl, x1 _ _ w.m_, T.cl_Moment, T.nF_Moment_instructions, lkMI .., ?_⟩
    refine ⟨_, rfl, il, us, d.now.code, l, b, rfl, SqL.of (x1 _ _ w.il_), w.cv.monoQ (ExQ.of x1), hs1.okn.ok, SqL.of (x1 _ _ hl), sok, fun H2 p2 np2 e2 h2 => ?_⟩
    have rok := runOf_ok hs1.okn.ok sok
    refine ⟨p, p2, _, _, rfl, rfl, e2 p _ upd_same, h2, ?_, fun p3 np3 => ?_⟩
    · rw [natV_len, rok.1]
      exact szl (by show 1 + 8 ≤ 1000000; decide)
    have x3 := (x1.trans e2).trans (Ex.new (o := .lst ([V.int 0] ++ natV (PeCode.runOf d.now.code b))) np3)
    unfold Told at q
    rw [hst] at q
    refine q _ p3 (StayR.of x3) (hs.grow x3) ?_
    rw [upd_same, List.map_cons, natV_map]
    rfl
theorem st_form {d : PeepSpec.State} {r : Nat} : stepS d (.form r) = if 8 ≤ r then (d, [-1]) else (d, 0 :: (PeCode.sumAt (PeCode.formsOf d.now.code) r).map (fun (n : Nat) => (n : Int))) := by
  unfold stepS PeepSpec.step
  dsimp only
  by_cases g : 8 ≤ r
  · rw [if_pos (show PeCode.REGS ≤ r from g), if_pos g]
    rfl
  · rw [if_neg (show ¬ PeCode.REGS ≤ r from g), if_neg g]
    show (d, (0 : Int) :: ((PeCode.sumAt (PeCode.formsOf d.now.code) r).map (fun (n : Nat) => (n : Int)) ++ [])) = _
    rw [List.append_nil]
theorem G_Session_form {P : Program} {w : World} {K : PySem.W.Frag} {mg : Str → Option Value} {base : Heap} (T : Txt w K mg) : Has P w K mg base (L2.CX P w) 4 (He.ma K (He.ga K "Session") "form") p_Session_form (spSX K (SA2 K) 1 (argN PeepSpec.Call.form)) := by
  have G_sum_at := G_sum_at (P := P) (base := base) T
  have G_OutOfBounds_init := G_OutOfBounds_init (P := P) (base := base) T
  refine T.d_Session_form.hasX sc_Session_form (fun vs H Q E h => ?_) (fun cdv A outer s H vs Q E hr h => ⟨_, ((pss_cons (ps_if (pt_cmpR op_ge (pv 1) (pe_callB call_len_seq (by rfl) T.u_len PySem.boot_len (pa_cons (pe_gr T.g_REGISTERS) pa_nil)) (nomark _)) (pss_one (ps_raise rfl (takes_of rfl rfl rfl rfl) (pmk_c0H T.x_OutOfBounds G_OutOfBounds_init (hr.mono (by decide)) T.g_OutOfBounds))) pss_nil)
    (pss_one (ps_ret (pe_op op_cat (pe_lst (pa_cons pe_int pa_nil)) (pe_callH G_sum_at (hr.mono (by decide)) T.g_sum_at pass0 (pa_cons (pe_fld (pe_fld (pv 0) rfl) rfl) (pa_cons (pv 1) pa_nil)))))))), ?_⟩)
  · obtain ⟨s, d, as, x, rfl, ha, _⟩ := h
    rw [List.length_cons, ha]
    rfl
  · obtain ⟨s, d, as, x, rfl, _, hs, ⟨r, rfl, hr, rfl⟩, q, qx⟩ := h
    have hst := st_form (d := d) (r := r)
    obtain ⟨b1, b2, hs1⟩ := hs
    have hs : SA2 K H s d := ⟨b1, b2, hs1⟩
    obtain ⟨sx, hi, hx, m, mx, il, wl, hh, us, ws, kvs, w⟩ := hs1.view
    refine ⟨_, rfl, _, _, rfl, .inr (T.tp_REGISTERS _), _, _, rfl, rfl, _, rfl, iB (fun g => ?_) (fun g => ?_)⟩
    · have g := of_decide_eq_true g
      rw [if_pos (show 8 ≤ r by have : (8 : Int) ≤ (r : Int) := g; omega)] at hst
      exact mkO_ref T.x_OutOfBounds (refused_of hs qx hst rfl) rfl (by decide) (by decide) fun _ _ => ⟨rfl, rfl⟩
    have g := of_decide_eq_false g
    have hr8 : r < 8 := by
      have : ¬ (8 : Int) ≤ (r : Int) := g
      omega
    rw [if_neg (by omega)] at hst
    refine ⟨by show 1 ≤ sizeLine; decide, fun p hp => ?_⟩
    have x1 := Ex.new (o := .lst [V.int 0]) hp
    refine ⟨_, rfl, s, _, sx, _, _, rfl, x1 _ _ w.s_, T.cl_Session, T.nF_Session_now, lkNow .., m, _, mx, _, _, rfl, x1 _ _ w.m_, T.cl_Moment, T.nF_Moment_instructions, lkMI .., ?_⟩
    refine ⟨_, rfl, il, us, d.now.code, r, rfl, SqL.of (x1 _ _ w.il_), w.cv.monoQ (ExQ.of x1), hs1.okn.ok, hr8, fun H2 p2 np2 e2 h2 => ?_⟩
    refine ⟨p, p2, _, _, rfl, rfl, e2 p _ upd_same, h2, ?_, fun p3 np3 => ?_⟩
    · rw [natV_len, forms_len hs1.okn.ok hr8]
      exact szl (by show 1 + 9 ≤ 1000000; decide)
    have x3 := (x1.trans e2).trans (Ex.new (o := .lst ([V.int 0] ++ natV (PeCode.sumAt (PeCode.formsOf d.now.code) r))) np3)
    unfold Told at q
    rw [hst] at q
    refine q _ p3 (StayR.of x3) (hs.grow x3) ?_
    rw [upd_same, List.map_cons, natV_map]
    rfl
theorem st_same {d : PeepSpec.State} {t : PeCode.Bytes} : stepS d (.same t) = if 4096 < t.length then (d, [-1]) else match PeCode.readCode t with
    | .error k => (d, [-6, (k : Int)])
    | .ok c => if 128 < c.length then (d, [-9]) else match PeCode.apartAt d.now.code c with
      | none => (d, [1])
      | some s => (d, 0 :: s.map (fun (n : Nat) => (n : Int))) := by
  unfold stepS PeepSpec.step
  dsimp only
  by_cases h : 4096 < t.length
  · rw [if_pos (show PeepSpec.TEXT < t.length from h), if_pos h]
    rfl
  · rw [if_neg (show ¬ PeepSpec.TEXT < t.length from h), if_neg h]
    cases PeCode.readCode t with
    | error k => rfl
    | ok c =>
      dsimp only
      by_cases g : 128 < c.length
      · rw [if_pos (show PeCode.CODE < c.length from g), if_pos g]; rfl
      · rw [if_neg (show ¬ PeCode.CODE < c.length from g), if_neg g]
        cases PeCode.apartAt d.now.code c with
        | none => rfl
        | some s =>
          show (d, (0 : Int) :: (s.map (fun (n : Nat) => (n : Int)) ++ [])) = _
          rw [List.append_nil]
theorem G_Session_same {P : Program} {w : World} {K : PySem.W.Frag} {mg : Str → Option Value} {base : Heap} (T : Txt w K mg) : Has P w K mg base (L2.CX P w) 8 (He.ma K (He.ga K "Session") "same") p_Session_same (spSX K (SA2 K) 1 (argB K PeepSpec.Call.same)) := by
  have G_read_whole_code := G_read_whole_code (P := P) (base := base) T
  have G_state_between := G_state_between (P := P) (base := base) T
  refine T.d_Session_same.hasX sc_Session_same (fun vs H Q E h => ?_) (fun cdv A outer s H vs Q E hr h => ⟨_, ((pss_cons (ps_set (i := 2) sc_Session_same.nd rfl (Or.inl rfl) (pe_callH G_state_between (hr.mono (by decide)) T.g_state_between pass0 (pa_cons (pe_fld (pe_fld (pv 0) rfl) rfl) (pa_cons (pe_callH G_read_whole_code (hr.mono (by decide)) T.g_read_whole_code (passes_call (takes_of rfl rfl rfl rfl) (fun _ _ _ _ h => h)) (pa_cons (pv 1) pa_nil)) pa_nil))))
    (pss_one (ps_ret (pe_ifExp (pt_cmpR op_isN (pv 2) pe_non (nomark _)) (pe_lst (pa_cons pe_int pa_nil)) (pe_op op_cat (pe_lst (pa_cons pe_int pa_nil)) (pv 2))))))), ?_⟩)
  · obtain ⟨s, d, as, x, rfl, ha, _⟩ := h
    rw [List.length_cons, ha]
    rfl
  · obtain ⟨s, d, as, x, rfl, _, hs, ⟨l, b, rfl, hl, hb, rfl⟩, q, qx⟩ := h
    have hst := st_same (d := d) (t := b)
    obtain ⟨b1, b2, hs1⟩ := hs
    have hs : SA2 K H s d := ⟨b1, b2, hs1⟩
    obtain ⟨sx, hi, hx, m, mx, il, wl, hh, us, ws, kvs, w⟩ := hs1.view
    refine ⟨_, rfl, s, _, sx, _, _, rfl, w.s_, T.cl_Session, T.nF_Session_now, lkNow .., m, _, mx, _, _, rfl, w.m_, T.cl_Moment, T.nF_Moment_instructions, lkMI .., ?_⟩
    refine ⟨_, rfl, l, b, rfl, SqL.of hl, by omega, fun c => ?_, fun c => ⟨fun k hk => ?_, fun c2 hc => ⟨fun z => ?_, fun z H1 p vs np e1 hp hcv => ?_⟩⟩⟩
    · rw [if_pos c] at hst
      exact refused_of hs qx hst rfl
    · rw [if_neg (by omega), hk] at hst
      exact refused_of hs qx hst rfl
    · rw [if_neg (by omega), hc] at hst
      dsimp only at hst
      rw [if_pos z] at hst
      exact refused_of hs qx hst rfl
    rw [if_neg (by omega), hc] at hst
    dsimp only at hst
    rw [if_neg (by omega)] at hst
    refine ⟨il, p, us, vs, d.now.code, c2, rfl, SqL.of (e1 _ _ w.il_), w.cv.monoQ (ExQ.of e1), hs1.okn.ok, SqL.of hp, hcv, readCode_ok hc, fun H2 v e2 hv => ?_⟩
    have e12 := e1.trans e2
    unfold Told at q
    cases ha : PeCode.apartAt d.now.code c2 with
    | none =>
      rw [ha] at hst hv
      have hv : v = .non := hv
      subst hv
      rw [hst] at q
      refine ⟨_, rfl, rfl, _, rfl, ?_⟩
      refine ⟨by show 1 ≤ sizeLine; decide, fun p2 np2 => ?_⟩
      have x3 := e12.trans (Ex.new (o := .lst [V.int 1]) np2)
      exact q _ p2 (StayR.of x3) (hs.grow x3) (by rw [upd_same]; rfl)
    | some t =>
      rw [ha] at hst hv
      obtain ⟨a, rfl, ha2⟩ := hv
      rw [hst] at q
      have tok := states_ok t (List.mem_of_find?_eq_some ha)
      refine ⟨_, rfl, rfl, _, rfl, ?_⟩
      refine iF (by rw [decide_eq_false (by intro z; cases z)]) ?_
      refine ⟨by show 1 ≤ sizeLine; decide, fun p2 np2 => ?_⟩
      have x2 := Ex.new (o := .lst [V.int 0]) np2
      refine ⟨_, rfl, p2, a, _, _, rfl, rfl, upd_same, x2 _ _ ha2, ?_, fun p3 np3 => ?_⟩
      · rw [natV_len, tok.1]
        exact szl (by show 1 + 8 ≤ 1000000; decide)
      have x3 := (e12.trans x2).trans (Ex.new (o := .lst ([V.int 0] ++ natV t)) np3)
      refine q _ p3 (StayR.of x3) (hs.grow x3) ?_
      rw [upd_same, List.map_cons, natV_map]
      rfl
theorem st_state {d : PeepSpec.State} : stepS d .state = (d, (0 : Int) :: ([d.now.code.length, PeCode.costOf d.now.code, d.past.length, d.undone.length] ++ keysOf d.rules).map (fun (n : Nat) => (n : Int))) := by
  show (d, (0 : Int) :: (([d.now.code.length, PeCode.costOf d.now.code, d.past.length, d.undone.length] ++ keysOf d.rules).map (fun (n : Nat) => (n : Int)) ++ [])) = _
  rw [List.append_nil]
theorem G_Session_state {P : Program} {w : World} {K : PySem.W.Frag} {mg : Str → Option Value} {base : Heap} (T : Txt w K mg) : Has P w K mg base CX0 3 (He.ma K (He.ga K "Session") "state") p_Session_state (spS0 K (SA2 K) 0 (arg0 PeepSpec.Call.state)) := by
  have G_Session_size := G_Session_size (P := P) (base := base) T
  refine T.d_Session_state.has sc_Session_state (fun vs H Q E h => ?_) (fun cdv A outer s H vs Q E hr h => ⟨_, PSs.nox ((pss_one (ps_ret (pe_op op_cat (pe_op op_cat (pe_meth0H (pv 0) T.cl_Session T.m_Session_size G_Session_size (hr.mono (by decide)) pass0) (pe_lst (pa_cons (pe_callB call_len_seq (by rfl) T.u_len PySem.boot_len (pa_cons (pe_fld (pe_fld (pv 0) rfl) rfl) pa_nil)) (pa_cons (pe_callB call_len_seq (by rfl) T.u_len PySem.boot_len (pa_cons (pe_fld (pe_fld (pv 0) rfl) rfl) pa_nil)) pa_nil)))) (pe_callB (call_sortedDI rfl) (by rfl) T.u_sorted (by decide +kernel) (pa_cons (pe_fld (pv 0) rfl) pa_nil)))))), ?_⟩)
  · obtain ⟨s, d, as, x, rfl, ha, _⟩ := h
    rw [List.length_cons, ha]
    rfl
  · obtain ⟨s, d, as, x, rfl, _, hs, ⟨rfl, rfl⟩, q⟩ := h
    obtain ⟨b1, b2, hs1⟩ := hs
    have hs : SA2 K H s d := ⟨b1, b2, hs1⟩
    obtain ⟨sx, hi, hx, m, mx, il, wl, hh, us, ws, kvs, w⟩ := hs1.view
    obtain ⟨bs, z1, z3⟩ := hs1.bef
    obtain ⟨un, z2, z4⟩ := hs1.und
    have l3 := z3.length
    have l4 := z4.length
    rw [List.length_reverse] at l3 l4
    refine ⟨_, rfl, s, sx, _, rfl, w.s_, by rfl, s, d, rfl, hs, fun H1 p1 np1 e1 h1 => ?_⟩
    have w1 := w.mono e1
    refine ⟨_, rfl, s, _, sx, _, _, rfl, w1.s_, T.cl_Session, T.nF_Session_history, lkHist .., hi, _, hx, _, _, rfl, w1.hi_, T.cl_History, T.nF_History_before, lkHB .., b1, _, rfl, .inl (SqL.of (e1 _ _ z1)), ?_⟩
    refine ⟨_, rfl, s, _, sx, _, _, rfl, w1.s_, T.cl_Session, T.nF_Session_history, lkHist .., hi, _, hx, _, _, rfl, w1.hi_, T.cl_History, T.nF_History_undone, lkHU .., b2, _, rfl, .inl (SqL.of (e1 _ _ z2)), ?_⟩
    refine ⟨by show 2 ≤ sizeLine; decide, fun p2 np2 => ?_⟩
    have x2 := Ex.new (o := .lst [V.int (bs.length : Int), V.int (un.length : Int)]) np2
    refine ⟨p1, p2, _, _, rfl, rfl, x2 _ _ h1, upd_same, by show 3 + 2 ≤ sizeLine; decide, fun p3 np3 => ?_⟩
    have x3 := (e1.trans x2).trans (Ex.new (o := .lst ((sizeL d.now).map V.int ++ [V.int (bs.length : Int), V.int (un.length : Int)])) np3)
    have w3 := w.mono x3
    obtain ⟨ks, hk, hp⟩ := w3.held.keys
    have lk := hp.length_eq
    rw [List.length_map] at lk
    have lk2 := keys_count d.rules
    have lk3 := w3.held.short
    refine ⟨_, rfl, s, _, sx, _, _, rfl, w3.s_, T.cl_Session, T.nF_Session_held, lkHeld .., hh, kvs, ks, rfl, .inl w3.hh_, hk, by omega, fun ys p4 perm srt np4 => ?_⟩
    have ey : ys.map V.int = natV (keysOf d.rules) := by
      have e : ys = (keysOf d.rules).map fun (n : Nat) => (n : Int) := List.Perm.eq_of_pairwise (fun a b _ _ h1 h2 => Int.le_antisymm h1 h2) srt (List.pairwise_map.mpr ((keys_sorted d.rules).imp fun h => by omega)) (perm.trans hp)
      rw [e, List.map_map]
      rfl
    rw [ey]
    have x4 := Ex.new (o := .lst (natV (keysOf d.rules))) np4
    refine ⟨p3, p4, _, _, rfl, rfl, x4 _ _ upd_same, upd_same, ?_, fun p5 np5 => ?_⟩
    · rw [natV_len]
      exact szl (by show 5 + _ ≤ 1000000; omega)
    have x5 := (x3.trans x4).trans (Ex.new (o := .lst (((sizeL d.now).map V.int ++ [V.int (bs.length : Int), V.int (un.length : Int)]) ++ natV (keysOf d.rules))) np5)
    unfold Told at q
    rw [st_state] at q
    refine q _ p5 (StayR.of x5) (hs.grow x5) ?_
    rw [upd_same, List.map_cons, natV_map, l3, l4]
    unfold natV
    rw [List.map_append]
    rfl
/-! ### undone, done again -/
theorem SAh.renow {K : PySem.W.Frag} {hb hu : Addr} {H H2 : Hp} {s : Addr} {d d' : PeepSpec.State} {sx hi hx m0 mx il wl hh m : Addr} {us ws bs un : List V} {kvs : List (Key × V)} (hs : SAh K hb hu H s d) (w : Sees K (cut hb hu H) s d sx hi hx m0 mx il wl hh hb hu us ws kvs)
    (c2 : ExC hb hu H H2) (hm : MomAt K (cut hb hu H) (.ref m) d'.now) (er : d'.rules = d.rules) (k2 : H2 hb = some (.lst bs)) (b2 : All2 (MomAt K (cut hb hu H)) bs d'.past.reverse) (k3 : H2 hu = some (.lst un)) (u2 : All2 (MomAt K (cut hb hu H)) un d'.undone.reverse)
    (o1 : HeldOk d'.now) (o2 : ∀ h ∈ d'.past, HeldOk h) (o3 : ∀ h ∈ d'.undone, HeldOk h) (few : d'.past.length + d'.undone.length ≤ 16) : SAh K hb hu (upd H2 s (.ins (cSess K) sx (fSess (.ref m) (.ref hi) (.ref hh)))) s d' := by
  have nbs : s ≠ hb := (of_cut w.s_).2.1
  have nus : s ≠ hu := (of_cut w.s_).2.2
  have q2 : ExQ (cut hb hu H) (cut hb hu H2) := ExQ.of c2.cut
  have w2 := w.mono c2.cut
  have ec : cut hb hu (upd H2 s (.ins (cSess K) sx (fSess (.ref m) (.ref hi) (.ref hh)))) = upd (cut hb hu H2) s (.ins (cSess K) sx (fSess (.ref m) (.ref hi) (.ref hh))) := cut_upd nbs nus
  have q3 : ExQ (cut hb hu H2) (upd (cut hb hu H2) s (.ins (cSess K) sx (fSess (.ref m) (.ref hi) (.ref hh)))) := ExQ.upd w2.s_ (nfSess _ _ _ _ _)
  refine ⟨?_, ⟨bs, ?_, ?_⟩, ⟨un, ?_, ?_⟩, hs.ne, o1, o2, o3, few⟩
  · rw [ec]
    obtain ⟨m', mx', il', wl', us', ws', e, g1, g2, g3, g4, g5⟩ := (hm.monoQ q2).monoQ q3
    have e' : m = m' := V.ref.inj e
    subst e'
    refine ⟨sx, hi, hx, m, mx', il', wl', hh, us', ws', kvs, ⟨upd_same, q3 _ _ (firmH ..) w2.hi_, g1, g2, g3, g4, g5, ?_, by rw [er]; exact w2.held.monoQ q3⟩⟩
    rw [upd_ne (ne_of w2.hh_ w2.s_ (by intro z; cases z))]
    exact w2.hh_
  · rw [upd_ne nbs.symm]
    exact k2
  · rw [ec]
    exact All2.mono (fun _ _ z => (MomAt.monoQ q2 z).monoQ q3) b2
  · rw [upd_ne nus.symm]
    exact k3
  · rw [ec]
    exact All2.mono (fun _ _ z => (MomAt.monoQ q2 z).monoQ q3) u2
theorem All2.snoc_inv {α β : Type} {R : α → β → Prop} : ∀ {as : List α} {bs : List β} {b : β}, All2 R as (bs ++ [b]) → ∃ as0 a, as = as0 ++ [a] ∧ All2 R as0 bs ∧ R a b
  | _, [], b, h => by
    cases h with
    | cons h t =>
      cases t
      exact ⟨[], _, rfl, .nil, h⟩
  | _, x :: bs, b, h => by
    cases h with
    | cons h t =>
      obtain ⟨as0, a, rfl, h1, h2⟩ := All2.snoc_inv t
      exact ⟨_ :: as0, a, rfl, .cons h h1, h2⟩
theorem All2.nil_of {α β : Type} {R : α → β → Prop} {as : List α} (h : All2 R as ([] : List β)) : as = [] := by
  cases h
  rfl
theorem st_undo {d : PeepSpec.State} : stepS d .undo = match d.past with
    | [] => (d, [-3])
    | m :: l => ({ d with now := m, past := l, undone := d.now :: d.undone }, [0]) := by
  unfold stepS PeepSpec.step
  dsimp only
  cases d.past <;> rfl
theorem st_redo {d : PeepSpec.State} : stepS d .redo = match d.undone with
    | [] => (d, [-3])
    | m :: l => ({ d with now := m, past := d.now :: d.past, undone := l }, [0]) := by
  unfold stepS PeepSpec.step
  dsimp only
  cases d.undone <;> rfl
theorem G_Session_undo {P : Program} {w : World} {K : PySem.W.Frag} {mg : Str → Option Value} {base : Heap} (T : Txt w K mg) : Has P w K mg base (L2.CX P w) 5 (He.ma K (He.ga K "Session") "undo") p_Session_undo (spSX K (SA2 K) 0 (arg0 PeepSpec.Call.undo)) := by
  have G_History_step_back := G_History_step_back (P := P) (base := base) T
  refine T.d_Session_undo.hasX sc_Session_undo (fun vs H Q E h => ?_) (fun cdv A outer s H vs Q E hr h => ⟨_, ((pss_cons (ps_fld (pv 0) (pe_methH (pe_fld (pv 0) rfl) T.cl_History T.m_History_step_back G_History_step_back (hr.mono (by decide)) (passes_call (takes_of rfl rfl rfl rfl) (fun _ _ _ _ h => h)) (pa_cons (pe_fld (pv 0) rfl) pa_nil)) rfl)
    (pss_one (ps_ret (pe_lst (pa_cons pe_int pa_nil)))))), ?_⟩)
  · obtain ⟨s, d, as, x, rfl, ha, _⟩ := h
    rw [List.length_cons, ha]
    rfl
  · obtain ⟨s, d, as, x, rfl, _, hs, ⟨rfl, rfl⟩, q, qx⟩ := h
    have hst := st_undo (d := d)
    obtain ⟨b1, b2, hs1⟩ := hs
    have hs : SA2 K H s d := ⟨b1, b2, hs1⟩
    obtain ⟨sx, hi, hx, m, mx, il, wl, hh, us, ws, kvs, wc⟩ := hs1.see
    have w := wc.mono Ex.cut
    obtain ⟨bs, z1, z3⟩ := hs1.bef
    obtain ⟨un, z2, z4⟩ := hs1.und
    have l3 := z3.length
    have l4 := z4.length
    rw [List.length_reverse] at l3 l4
    have few := hs1.few
    refine ⟨_, rfl, s, _, sx, _, _, rfl, w.s_, T.cl_Session, T.nF_Session_history, lkHist .., hi, hx, _, rfl, w.hi_, by rfl, _, rfl, s, _, sx, _, _, rfl, w.s_, T.cl_Session, T.nF_Session_now, lkNow .., ?_⟩
    refine ⟨hi, hx, b1, b2, .ref m, bs, un, rfl, w.hi_, z1, z2, hs1.ne, by omega, fun hn => ?_, fun b0 y hy H2 c2 k2 k3 => ?_⟩
    · have hp : d.past = [] := by
        rw [hn] at l3
        exact List.length_eq_zero_iff.mp l3.symm
      rw [hp] at hst
      exact refused_of hs qx hst rfl
    cases hp : d.past with
    | nil =>
      rw [hp, hy, List.length_append] at l3
      cases l3
    | cons g l =>
      rw [hp] at hst z3
      rw [List.reverse_cons, hy] at z3
      obtain ⟨c0, c1, ec, h0, hg⟩ := All2.snoc_inv z3
      obtain ⟨e0, e1⟩ := List.append_inj' ec rfl
      injection e1 with e1
      subst e0 e1
      obtain ⟨m', mx', il', wl', us', ws', rfl, g1, _⟩ := id hg
      have s2 : H2 s = _ := c2 s _ (of_cut wc.s_).2.1 (of_cut wc.s_).2.2 w.s_
      refine ⟨_, rfl, s, _, sx, _, rfl, s2, T.cl_Session, T.nF_Session_now, by show 3 < 1000; decide, ?_⟩
      have hs2 : SAh K b1 b2 (upd H2 s (.ins (cSess K) sx (fSess (.ref m') (.ref hi) (.ref hh)))) s { d with now := g, past := l, undone := d.now :: d.undone } :=
        hs1.renow wc c2 hg rfl k2 h0 k3 (by
          show All2 _ _ (d.now :: d.undone).reverse
          rw [List.reverse_cons]
          exact All2.append z4 (.cons wc.mom .nil)) (hs1.okp g (by rw [hp]; exact List.mem_cons_self ..)) (fun h hh => hs1.okp h (by rw [hp]; exact List.mem_cons_of_mem _ hh)) (fun h hh => by
            rcases List.mem_cons.mp hh with rfl | hh
            · exact hs1.okn
            · exact hs1.oku h hh) (by
          rw [hp] at few
          show l.length + (d.undone.length + 1) ≤ 16
          have : (g :: l).length = l.length + 1 := rfl
          omega)
      have st : StayR K H (upd H2 s (.ins (cSess K) sx (fSess (.ref m') (.ref hi) (.ref hh)))) := ExS.stay hs1 (fun c o n1 n2 n3 hc => by rw [upd_ne n1]; exact c2 c o n2 n3 hc)
      refine ⟨by show 1 ≤ sizeLine; decide, fun p5 np => ?_⟩
      have x5 := Ex.new (o := .lst [V.int 0]) np
      unfold Told at q
      rw [hst] at q
      refine q _ p5 (st.trans (StayR.of x5)) ⟨b1, b2, hs2.grow x5⟩ ?_
      rw [upd_same]
      rfl
theorem G_Session_redo {P : Program} {w : World} {K : PySem.W.Frag} {mg : Str → Option Value} {base : Heap} (T : Txt w K mg) : Has P w K mg base (L2.CX P w) 5 (He.ma K (He.ga K "Session") "redo") p_Session_redo (spSX K (SA2 K) 0 (arg0 PeepSpec.Call.redo)) := by
  have G_History_step_forth := G_History_step_forth (P := P) (base := base) T
  refine T.d_Session_redo.hasX sc_Session_redo (fun vs H Q E h => ?_) (fun cdv A outer s H vs Q E hr h => ⟨_, ((pss_cons (ps_fld (pv 0) (pe_methH (pe_fld (pv 0) rfl) T.cl_History T.m_History_step_forth G_History_step_forth (hr.mono (by decide)) (passes_call (takes_of rfl rfl rfl rfl) (fun _ _ _ _ h => h)) (pa_cons (pe_fld (pv 0) rfl) pa_nil)) rfl)
    (pss_one (ps_ret (pe_lst (pa_cons pe_int pa_nil)))))), ?_⟩)
  · obtain ⟨s, d, as, x, rfl, ha, _⟩ := h
    rw [List.length_cons, ha]
    rfl
  · obtain ⟨s, d, as, x, rfl, _, hs, ⟨rfl, rfl⟩, q, qx⟩ := h
    have hst := st_redo (d := d)
    obtain ⟨b1, b2, hs1⟩ := hs
    have hs : SA2 K H s d := ⟨b1, b2, hs1⟩
    obtain ⟨sx, hi, hx, m, mx, il, wl, hh, us, ws, kvs, wc⟩ := hs1.see
    have w := wc.mono Ex.cut
    obtain ⟨bs, z1, z3⟩ := hs1.bef
    obtain ⟨un, z2, z4⟩ := hs1.und
    have l3 := z3.length
    have l4 := z4.length
    rw [List.length_reverse] at l3 l4
    have few := hs1.few
    refine ⟨_, rfl, s, _, sx, _, _, rfl, w.s_, T.cl_Session, T.nF_Session_history, lkHist .., hi, hx, _, rfl, w.hi_, by rfl, _, rfl, s, _, sx, _, _, rfl, w.s_, T.cl_Session, T.nF_Session_now, lkNow .., ?_⟩
    refine ⟨hi, hx, b2, b1, .ref m, un, bs, rfl, w.hi_, z2, z1, hs1.ne.symm, by omega, fun hn => ?_, fun b0 y hy H2 c2 k2 k3 => ?_⟩
    · have hp : d.undone = [] := by
        rw [hn] at l4
        exact List.length_eq_zero_iff.mp l4.symm
      rw [hp] at hst
      exact refused_of hs qx hst rfl
    cases hp : d.undone with
    | nil =>
      rw [hp, hy, List.length_append] at l4
      cases l4
    | cons g l =>
      rw [hp] at hst z4
      rw [List.reverse_cons, hy] at z4
      obtain ⟨c0, c1, ec, h0, hg⟩ := All2.snoc_inv z4
      obtain ⟨e0, e1⟩ := List.append_inj' ec rfl
      injection e1 with e1
      subst e0 e1
      obtain ⟨m', mx', il', wl', us', ws', rfl, g1, _⟩ := id hg
      have c2' : ExC b1 b2 H H2 := fun c o n1 n2 hc => c2 c o n2 n1 hc
      have s2 : H2 s = _ := c2' s _ (of_cut wc.s_).2.1 (of_cut wc.s_).2.2 w.s_
      refine ⟨_, rfl, s, _, sx, _, rfl, s2, T.cl_Session, T.nF_Session_now, by show 3 < 1000; decide, ?_⟩
      have hs2 : SAh K b1 b2 (upd H2 s (.ins (cSess K) sx (fSess (.ref m') (.ref hi) (.ref hh)))) s { d with now := g, past := d.now :: d.past, undone := l } :=
        hs1.renow wc c2' hg rfl k3 (by
          show All2 _ _ (d.now :: d.past).reverse
          rw [List.reverse_cons]
          exact All2.append z3 (.cons wc.mom .nil)) k2 h0 (hs1.oku g (by rw [hp]; exact List.mem_cons_self ..)) (fun h hh => by
            rcases List.mem_cons.mp hh with rfl | hh
            · exact hs1.okn
            · exact hs1.okp h hh) (fun h hh => hs1.oku h (by rw [hp]; exact List.mem_cons_of_mem _ hh)) (by
          rw [hp] at few
          show (d.past.length + 1) + l.length ≤ 16
          have : (g :: l).length = l.length + 1 := rfl
          omega)
      have st : StayR K H (upd H2 s (.ins (cSess K) sx (fSess (.ref m') (.ref hi) (.ref hh)))) := ExS.stay hs1 (fun c o n1 n2 n3 hc => by rw [upd_ne n1]; exact c2' c o n2 n3 hc)
      refine ⟨by show 1 ≤ sizeLine; decide, fun p5 np => ?_⟩
      have x5 := Ex.new (o := .lst [V.int 0]) np
      unfold Told at q
      rw [hst] at q
      refine q _ p5 (st.trans (StayR.of x5)) ⟨b1, b2, hs2.grow x5⟩ ?_
      rw [upd_same]
      rfl
end Pb

set_option Elab.async false
set_option linter.all false
set_option maxRecDepth 100000
set_option maxHeartbeats 8000000
namespace Pb
open PySem PySem.Spec PyProof.Rows L2 Evl PbX
/-! ### all calls, and the end -/
theorem calls_held {P : Program} {w : World} {K : PySem.W.Frag} {mg : Str → Option Value} {base : Heap} (T : Txt w K mg) : ∀ i : Nat, i < 19 → ∃ f, ([V.ref (He.ga K "answer_load"), V.ref (He.ga K "answer_code"), V.ref (He.ga K "answer_put"), V.ref (He.ga K "answer_cut"), V.ref (He.ga K "answer_judge"), V.ref (He.ga K "answer_rule"), V.ref (He.ga K "answer_drop"), V.ref (He.ga K "answer_say"), V.ref (He.ga K "answer_fits"), V.ref (He.ga K "answer_at"), V.ref (He.ga K "answer_step"), V.ref (He.ga K "answer_run"), V.ref (He.ga K "answer_trail"), V.ref (He.ga K "answer_eval"), V.ref (He.ga K "answer_form"), V.ref (He.ga K "answer_same"), V.ref (He.ga K "answer_state"), V.ref (He.ga K "answer_undo"), V.ref (He.ga K "answer_redo")] : List V)[i]? = some (.ref f) ∧ HeldX P w K mg base lvA f (spAns K (SA2 K) i)
  | 0, _ => ⟨_, rfl, HeldX.of (G_answer_load T (SA2.ax K) (by decide) (G_Session_load T)) (Nat.le_refl _)⟩
  | 1, _ => ⟨_, rfl, HeldX.of (G_answer_code T (SA2.ax K) (by decide) (G_Session_code T)) (Nat.le_refl _)⟩
  | 2, _ => ⟨_, rfl, HeldX.of (G_answer_put T (SA2.ax K) (by decide) (G_Session_put T)) (Nat.le_refl _)⟩
  | 3, _ => ⟨_, rfl, HeldX.of (G_answer_cut T (SA2.ax K) (by decide) (G_Session_cut T)) (Nat.le_refl _)⟩
  | 4, _ => ⟨_, rfl, HeldX.of (G_answer_judge T (SA2.ax K) (by decide) (G_Session_judge T)) (Nat.le_refl _)⟩
  | 5, _ => ⟨_, rfl, HeldX.of (G_answer_rule T (SA2.ax K) (by decide) (G_Session_rule T)) (Nat.le_refl _)⟩
  | 6, _ => ⟨_, rfl, HeldX.of (G_answer_drop T (SA2.ax K) (by decide) (G_Session_drop T)) (Nat.le_refl _)⟩
  | 7, _ => ⟨_, rfl, HeldX.of (G_answer_say T (SA2.ax K) (by decide) (G_Session_say T)) (Nat.le_refl _)⟩
  | 8, _ => ⟨_, rfl, HeldX.of (G_answer_fits T (SA2.ax K) (by decide) (G_Session_fits T)) (Nat.le_refl _)⟩
  | 9, _ => ⟨_, rfl, HeldX.of (G_answer_at T (SA2.ax K) (by decide) (G_Session_at T)) (Nat.le_refl _)⟩
  | 10, _ => ⟨_, rfl, HeldX.of (G_answer_step T (SA2.ax K) (by decide) (G_Session_step T)) (Nat.le_refl _)⟩
  | 11, _ => ⟨_, rfl, HeldX.of (G_answer_run T (SA2.ax K) (by decide) (G_Session_run T)) (Nat.le_refl _)⟩
  | 12, _ => ⟨_, rfl, HeldX.of (G_answer_trail T (SA2.ax K) (by decide) (G_Session_trail T)) (Nat.le_refl _)⟩
  | 13, _ => ⟨_, rfl, HeldX.of (G_answer_eval T (SA2.ax K) (by decide) (G_Session_reckon T)) (Nat.le_refl _)⟩
  | 14, _ => ⟨_, rfl, HeldX.of (G_answer_form T (SA2.ax K) (by decide) (G_Session_form T)) (Nat.le_refl _)⟩
  | 15, _ => ⟨_, rfl, HeldX.of (G_answer_same T (SA2.ax K) (by decide) (G_Session_same T)) (Nat.le_refl _)⟩
  | 16, _ => ⟨_, rfl, HeldX.of (G_answer_state T (SA2.ax K) (by decide) (G_Session_state T)) (Nat.le_refl _)⟩
  | 17, _ => ⟨_, rfl, HeldX.of (G_answer_undo T (SA2.ax K) (by decide) (G_Session_undo T)) (Nat.le_refl _)⟩
  | 18, _ => ⟨_, rfl, HeldX.of (G_answer_redo T (SA2.ax K) (by decide) (G_Session_redo T)) (Nat.le_refl _)⟩
  | n + 19, h => absurd h (by omega)
end Pb
theorem PySem.Challenge.cw_peepbook_s01_answers_holds : PySem.Challenge.rw_peepbook_s01_answers.Holds :=
  Pb.end_of (k := 15) ⟨rfl, by decide, by decide⟩ fun _ K _ _ _ T F => Pb.G_answers_body T (Pb.SA2.ax K) (by decide) (by decide) (Pb.G_next_of T (Pb.SA2.ax K) (fun H => T.tp_CALLS H) (Pb.calls_held T)) (Pb.G_Session_init T) F

