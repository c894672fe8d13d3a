import PyProof.Rows.All
import Wide.All
import OpenK.AllK
import Wide.FinOn
import KE.KExcIs
import HandS.ForMost
import HandS.Exc
import HandS.ExcInit
import HandS.Defaults
import HandS.IsInst
import HandS.Wide
import HandS.WideBits
import HandS.WideMore
import HandS.ExcOwn
import HandS.ExcValue
import HandS.MakeKw
import HandS.Style
import PySem.Challenge.RW_endswell_k01_errors_made
set_option Elab.async false
set_option linter.all false
set_option maxRecDepth 100000
set_option exponentiation.threshold 4000
section
open PySem PySem.W PyProof.Rows
set_option maxHeartbeats 0
open_top head for PySem.Challenge.rw_endswell_k01_errors_made
end
set_option maxHeartbeats 8100000
/-! making an own exception with keywords, as a value -/
namespace PySem
namespace MkX
open PySem.W PySem.Calls PyProof.Rows PySem.HandSPX
section
variable {prog : Program} {w : World} {A : Around} {E : Value → Shared → Prop} {R : Result → Shared → Prop} {h : Heap} {g : Array GenState} {d : Drawn} {t : Nat} {os : OsState}
variable {nm q : Str} {C N : Addr} {bs bm bmB : List Value} {hdct : Bool} {sn : List Str} {sub : List Value} {ab : Bool} {col : Option Bool} {dd : Option Addr} {k0 k1 k2 k3 k5 : Option Value} {B newId initId : String}
abbrev clsO (C N : Addr) (nm q : Str) (bs bm sub : List Value) (hdct ab : Bool) (sn : List Str) (col : Option Bool) (dd : Option Addr) (k0 k1 k2 k3 k5 : Option Value) (newId : String) : Obj :=
  excClassObj nm q C N bs bm hdct sn sub ab col dd k0 k1 k2 k3 k5 newId

theorem newChk {M : Model} (F : ExcBaseFacts B newId initId bmB) (hT : ∀ Y : String, bm.contains (.type Y) = bmB.contains (.type Y)) {us : List Value} {kw : List (Str × Value)} {Q : Unit → Shared → Prop}
    (hC : h.get? C = some (clsO C N nm q bs bm sub hdct ab sn col dd k0 k1 k2 k3 k5 newId)) (hq : Q () ⟨h, g, d, t, os⟩) : wpAny M A (checkBuiltinCall newId ⟨.ref C :: us, kw⟩) Q E ⟨h, g, d, t, os⟩ := by
  have inB : (Value.ref C :: bm).contains (.type B) = true := by rw [List.contains_cons, hT, F.hasB, Bool.or_true]
  have star := F.noStar
  simp only [checkBuiltinCall, F.newKind, F.newSplit, F.newRow]
  repeat (first
    | refine wpAny_loadPart_at hC ?_
    | (refine wpAny_isSubtype_exc hC ?_; rw [inB])
    | refine wpAny_staticBase_exc hC ?_
    | refine wpAny_madeBy_exc hC ?_
    | simp only [bne_self_eq_false, Bool.false_eq_true, if_false]
    | wp_step)
  exact hq

theorem newMade (F : ExcBaseFacts B newId initId bmB) (hT : ∀ Y : String, bm.contains (.type Y) = bmB.contains (.type Y)) {us : List Value} {kw : List (Str × Value)}
    (hC : h.get? C = some (clsO C N nm q bs bm sub hdct ab sn col dd k0 k1 k2 k3 k5 newId)) (hus : us.length ≤ sizeLine)
    (hq : R (.ok (.ret (.ref (h.objs.size + 1)))) ⟨(h.push (kdv_tup us)).push (excO C h.objs.size), g, d, t, os⟩) : codeAny (model prog w) A (.builtin newId ⟨.ref C :: us, kw⟩) R ⟨h, g, d, t, os⟩ := by
  have ends := F.ends
  have inB : (Value.ref C :: bm).contains (.type B) = true := by rw [List.contains_cons, hT, F.hasB, Bool.or_true]
  have inA : (Value.ref C :: bm).contains (.type "AttributeError") = false := by rw [List.contains_cons, hT, F.noAttr]; rfl
  have inN : (Value.ref C :: bm).contains (.type "NameError") = false := by rw [List.contains_cons, hT, F.noName]; rfl
  refine codeAny_builtinAt F.entry ?_
  unfold Builtin.«BaseException.__new__»
  refine wpAt_bind ?_; show wpAt _ _ _ (stack >>= _) _ _ _
  refine wpAt_bind (wpAt_stack fun p below => wpAt_of_wpAny ?_); wp_walk
  refine wpAt_of_wpAny ?_; rw [F.owner]
  repeat (first
    | with_reducible refine wpAny_madeHere_exc F.canon hC ?_
    | with_reducible refine wpAny_loadPart_at hC ?_
    | (with_reducible refine wpAny_isSubtype_exc hC ?_; first | rw [inB] | rw [inA] | rw [inN])
    | wp_step)
  show R _ _; rw [Heap.size_push]; exact hq

theorem callMade (F : ExcBaseFacts B newId initId bmB) (hT : ∀ Y : String, bm.contains (.type Y) = bmB.contains (.type Y)) {us : List Value} {kw : List (Str × Value)} {fI : Addr} {Q : Fin → Shared → Prop}
    (hC : h.get? C = some (clsO C N nm q bs bm sub hdct ab sn col dd k0 k1 k2 k3 k5 newId))
    (li : W.Looks (model prog w) h (typeLookup (.ref C) "__init__") (some (.ref fI))) (lb : ∀ self, W.Looks (model prog w) h (bindSpecial (.ref fI) self) (.ref fI, [self])) (hus : us.length ≤ sizeLine)
    (hq : codeAny (model prog w) A (.call (.ref fI) ⟨.ref (h.objs.size + 1) :: us, kw⟩)
      (fun r s' => match r with | .ok (.ret v) => v = .none ∧ Q (.done (.ret (.ref (h.objs.size + 1)))) s' | .ok _ => False | .error e => E e s') ⟨(h.push (kdv_tup us)).push (excO C h.objs.size), g, d, t, os⟩) :
    wpAny (model prog w) A (Builtin.«type.__call__» ⟨.ref C :: us, kw⟩) Q E ⟨h, g, d, t, os⟩ := by
  repeat (first
    | with_reducible refine wpAny_loadPart_at hC ?_
    | with_reducible refine wpAny_madeBy_exc hC ?_
    | wp_step)
  refine codeAny_call_builtin_code (Code.quiet_builtin _ F.quiet) (newChk F hT hC ?_)
  refine newMade F hT hC hus ?_; show wpAny _ _ _ _ _ _
  have kp : ∀ b o, h.get? b = some o → ((h.push (kdv_tup us)).push (excO C h.objs.size)).get? b = some o := fun b o e => Heap.get?_push_of_some _ (Heap.get?_push_of_some _ e)
  have hC2 := kp _ _ hC
  have at1 : ((h.push (kdv_tup us)).push (excO C h.objs.size)).get? (h.objs.size + 1) = some (excO C h.objs.size) := by heap_get
  have self1 : (Value.ref C :: bm).contains (.ref C) = true := by simp
  have li2 := li.keeps kp
  have lb2 := (lb (.ref (h.objs.size + 1))).keeps kp
  unfold isInstance
  repeat (first
    | with_reducible refine wpAny_loadPart_at at1 ?_
    | (with_reducible refine wpAny_isSubtype_exc hC2 ?_; rw [self1])
    | wp_step)
  show wpAny _ _ (typeLookup (.ref C) _) _ _ _; refine li2.at ?_
  refine wpAny_holding (wpAny_bind (lb2.at ?_))
  refine wpAny_bind (wpAny_call (codeAny_mono hq fun r s' z => ?_))
  rcases r with e | (v | _ | _ | _) <;> first | exact z | exact z.elim | skip
  obtain ⟨rfl, z⟩ := z
  first
    | exact wpAny_pure (wpAny_pure z)
    | (wp_walk; exact z)

theorem callOwn (F : ExcBaseFacts B newId initId bmB) (hT : ∀ Y : String, bm.contains (.type Y) = bmB.contains (.type Y)) {us : List Value} {kw : List (Str × Value)} {fI : Addr}
    (hC : h.get? C = some (clsO C N nm q bs bm sub hdct ab sn col dd k0 k1 k2 k3 k5 newId))
    (li : W.Looks (model prog w) h (typeLookup (.ref C) "__init__") (some (.ref fI))) (lb : ∀ self, W.Looks (model prog w) h (bindSpecial (.ref fI) self) (.ref fI, [self])) (hus : us.length ≤ sizeLine)
    (hq : codeAny (model prog w) (A.under (.builtin "type.__call__" ⟨.ref C :: us, kw⟩)) (.call (.ref fI) ⟨.ref (h.objs.size + 1) :: us, kw⟩) (InitBack (h.objs.size + 1) R) ⟨(h.push (kdv_tup us)).push (excO C h.objs.size), g, d, t, os⟩) :
    codeAny (model prog w) A (.call (.ref C) ⟨us, kw⟩) R ⟨h, g, d, t, os⟩ := by
  have f1 := tc_lookup
  have f2 := tc_bind (.ref C)
  have ty : (⟨h, g, d, t, os⟩ : Shared).TypeIs (.ref C) "type" := ⟨_, hC, rfl⟩
  refine codeAny_of_tree ?_; show wpAny _ _ (callAny (.ref C) _) _ _ _
  repeat (any_goals (first
    | assumption
    | with_reducible refine wpAny_loadPart_at hC ?_
    | wp_step))
  refine ⟨rfl, ?_⟩
  refine codeAny_call_builtin_at (Code.quiet_builtin _ (by decide +kernel)) entry_typeCall (wpAny_check_type_call_sub hC (callMade F hT hC li lb hus ?_))
  refine codeAny_mono hq fun r s' z => ?_
  rcases r with e | (v | _ | _ | _) <;> exact z
end
end MkX
end PySem
namespace L2
namespace X1
open PySem PySem.Spec PyProof.Rows
/-- an exception that stands: its class, its one field -/
def ExcAt (H : Hp) (a C : Addr) (v : V) : Prop := ∃ d, H a = some (exo a C (some d)) ∧ H d = some (exd d [(("value" : Str), v)])
theorem ExcAt.same {H H' : Hp} {a C : Addr} {v : V} (h : ExcAt H a C v) (s : Same H H') : ExcAt H' a C v := by
  obtain ⟨d, h1, h2⟩ := h; exact ⟨d, s _ _ h1, s _ _ h2⟩
/-- what is asked of such a class for its field, for isinstance -/
structure XF (K : PySem.W.Frag) (C : Addr) : Prop where
  ox : OexC K C
  nV : PySem.W.findIn K (.ref C) "value" = some none
  ga : PySem.W.findIn K (.ref C) "__getattribute__" = some (some (.builtin "BaseException.__getattribute__"))
  gg : PySem.W.findIn K (.ref C) "__getattr__" = some none
  hd : PySem.W.hasDictIn K C = true
  ca : PySem.W.findIn K (.ref C) "__class__" = some (some (.builtin "object.__class__"))
  gs : PySem.W.specialIn K (.builtin "object.__class__") "__get__" = some (some (.builtin "getset_descriptor.__get__"))
  ss : PySem.W.takesIn K (.builtin "object.__class__") = some true
  mo : PySem.W.mroIn K C (.type "object") = some true
theorem XF.some {K : PySem.W.Frag} {C : Addr} (T : XF K C) : (PySem.W.clsIn K C).isSome = true := by
  obtain ⟨cd, hc, _⟩ := PySem.W.any_some T.hd
  rw [hc]; rfl
section
variable {X : Cx} {pins : List (Addr × Obj)} {σ : St} {H : Hp} {s : Shared}
/-- C(..) as a value: the exception stays as it is told -/
theorem mkx_run {CX : CXT} {k : Nat} {C fI : Addr} {fd : FuncData} {ps : List Str} {sp : Sp} {us bs : List Value} {kw : List (Str × Value)} {vs : List V} {Q : VK} (T : OexC X.K C) (iC : PySem.W.findIn X.K (.ref C) "__init__" = some (some (.ref fI)))
    (tI : PySem.W.typeIn X.K (.ref fI) = some (.type "function")) (F1 : FnOk X.prog X.w X.K X.mg X.base CX k fI fd ps sp) (hr : Room (k + 1) X.A) (hx : Passes CX X (fun _ _ _ => False)) (I : Inv X pins σ H s) (hus : us.length ≤ sizeLine) (rb : Vals vs bs)
    (hb : ∀ (s' : Shared) (e : Addr), X.K.In s'.heap → BindsTo s' fd ⟨.ref e :: us, kw⟩ (ps.zip (.ref e :: bs)))
    (q : ∀ a, H a = none → sp (.ref a :: vs) (upd H a (exo a C none)) (fun v H2 => v = .non ∧ Q (.ref a) H2) (fun _ _ _ => False)) :
    wpAny (model X.prog X.w) X.A (call (.ref C) us kw) (EP X pins σ Q) X.xe s := by
  obtain ⟨nm, qn, N, bss, bm, sn, sub, ab, col, dd, k0, k1, k2, k3, k5, hC, hbm⟩ := T.cls
  obtain ⟨hp, g, dr, tk, os⟩ := s
  have hsz : hp.objs.size ≤ hp.objs.size + 1 := Nat.le_succ _
  have hn : H (hp.objs.size + 1) = none := I.hok.fresh hsz
  have hq := q (hp.objs.size + 1) hn
  have kk : ∀ b o, hp.get? b = some o → ((hp.push (PySem.W.kdv_tup us)).push (PySem.HandSPX.excO C hp.objs.size)).get? b = some o := fun b o e => Heap.get?_push_of_some _ (Heap.get?_push_of_some _ e)
  have at1 : ((hp.push (PySem.W.kdv_tup us)).push (PySem.HandSPX.excO C hp.objs.size)).get? (hp.objs.size + 1) = some (PySem.HandSPX.excO C hp.objs.size) := by heap_get
  have I2 : Inv X pins σ (upd H (hp.objs.size + 1) (exo (hp.objs.size + 1) C none)) ⟨(hp.push (PySem.W.kdv_tup us)).push (PySem.HandSPX.excO C hp.objs.size), g, dr, tk, os⟩ :=
    I.laid (t' := tk) (a := hp.objs.size + 1) kk hsz (exo_ok at1)
  refine wpAny_call (PySem.MkX.callOwn F.excBase_ValueError (fun Y => PySem.HandSPX.refsVE_contains Y bm hbm) (I.kIn _ _ hC) (PySem.W.looks_findIn I.kIn iC) (fun self => PySem.W.bind_fn I.kIn self tI) hus
    (codeAny_mono (F1.run _ X.stack _ _ ⟨Value.ref (hp.objs.size + 1) :: us, kw⟩ (Value.ref (hp.objs.size + 1) :: bs) (V.ref (hp.objs.size + 1) :: vs) _ (fun _ _ _ => False) (hr.make C us kw) (I2.env0.make C us kw) (hb _ _ I2.kIn) (.cons rfl rb) hq) fun r s' hq' => ?_))
  cases r with
  | error er => exact hx pins σ _ _ er s' I2 hq'
  | ok fl =>
    cases fl with
    | ret u =>
      obtain ⟨v, H', J, rv, ev, q2⟩ := I2.after hq'
      subst ev
      exact ⟨rv, V.ref (hp.objs.size + 1), H', J, rfl, q2⟩
    | next => exact False.elim hq'
    | brk => exact False.elim hq'
    | cont => exact False.elim hq'
/-- an exception's object, its own dict -/
theorem exc_look {a C : Addr} {v : V} (I : Inv X pins σ H s) (h : ExcAt H a C v) : ∃ (ox od : Obj) (u : Value), PySem.W.InstAt s.heap a ox C (some od) ∧ PySem.W.lookIn "value" od = some (some u) ∧ RelV v u := by
  obtain ⟨d, h1, h2⟩ := h
  obtain ⟨t1, ho⟩ := exo_at I.hok h1
  obtain ⟨mA, hns, rel⟩ := exd_at I.hok h2
  obtain ⟨od, hod, hl⟩ := lookIn_ns hns
  have r := rel "value"
  rw [show List.lookup ("value" : Str) [(("value" : Str), v)] = some v by simp [List.lookup]] at r
  obtain ⟨u, hu, ru⟩ := RelO.some_of r
  exact ⟨_, od, u, ⟨ho, rfl, rfl, hod⟩, by rw [hl, hu], ru⟩
/-- e.value -/
def tVal (K : PySem.W.Frag) (te : TE) : TE := fun σ H Q => te σ H fun x H1 => ∃ (a C : Addr) (v : V), x = .ref a ∧ XF K C ∧ ExcAt H1 a C v ∧ Q v H1
theorem pe_val {e : Expr} {te : TE} {pos : Pos} (he : PE X e te) (hb : attributeBase e "value" X.env (eval e X.env) = eval e X.env := by rfl) : PE X (.Attribute e "value" pos) (tVal X.K te) := by
  refine ⟨fun pins s σ H Q I h => ?_⟩
  refine attr_of hb (thn (he.run pins s σ H _ I h) fun u s1 hh => ?_)
  obtain ⟨x, H1, I1, rx, a, C, v, ex, T, ea, q⟩ := hh
  subst ex
  obtain rfl : u = Value.ref a := rx
  obtain ⟨ox, od, w, J, l, r⟩ := exc_look I1 ea
  exact HandSPX.exc_get I1.kIn J T.ga T.gg T.ox.exC (PySem.W.findObj_own T.hd T.nV rfl l) (handed_of r) ⟨v, H1, I1.tok _, r, q⟩
/-- isinstance(e, c) -/
def rIsX (K : PySem.W.Frag) : List V → Hp → VK → Prop := fun xs H Q => ∃ (a C : Addr) (v c : V) (cv : Value) (b : Bool), xs = [.ref a, c] ∧ ExcAt H a C v ∧ XF K C ∧ ClsV c cv ∧ PySem.W.kitOne K (.ref C) cv = some b ∧ Q (.bl b) H
theorem call_isX : CallR X (.builtin "isinstance") (rIsX X.K) := by
  intro pins s σ H xs us Q I r h
  obtain ⟨a, C, v, c, cv, b, rfl, ea, T, kc, e, q⟩ := h
  cases r with
  | cons rx rr =>
    cases rr with
    | cons rt rr =>
      cases rr
      cases rx
      have ec := kc.eq rt
      subst ec
      obtain ⟨ox, od, w, J, _, _⟩ := exc_look I ea
      exact PySem.W.kia_one (PySem.W.kitx_exc T.some T.ga T.gg T.ox.exC T.ca T.gs T.ss T.mo) I.kIn J e (fun z => nomatch z) fun tk => ⟨.bl b, H, I.kept (t' := tk) fun _ _ z => z, rfl, q⟩
end
end X1
end L2
/-! defs whose promise holds where no guard stands on the stack (what repr asks) -/
namespace L2
namespace X1
open PySem PySem.Spec PyProof.Rows
structure FnG (P : Program) (w : World) (K : PySem.W.Frag) (mg : Str → Option Value) (base : Heap) (CX : CXT) (k : Nat) (f : Addr) (fd : FuncData) (ps : List Str) (sp : Sp) : Prop where
  len : ∀ vs H Q E, sp vs H Q E → vs.length = ps.length
  run : ∀ (A : Around) (outer : List Env) (s : Shared) (H : Hp) (args : Args) (us : List Value) (vs : List V) (Q : VK) (E : XK), Room k A → A.guards = some [] → Env0 P w K mg base A outer s H → BindsTo s fd args (ps.zip us) →
    Vals vs us → sp vs H Q E → codeAny (model P w) A (.call (.ref f) args) (CR CX outer P w H s Q E) s
theorem deeper_guards (A : Around) (env : Env) : (A.deeper env).guards = A.guards := rfl
theorem fnG_of {CX : CXT} {P : Program} {w : World} {K : PySem.W.Frag} {mg : Str → Option Value} {base : Heap} {k : Nat} {f : Addr} {nm qn : Str} {prm : Arguments} {bd : List Stmt} {sc : Scope} {dV kV doc pm cdv ct oc : Value} {an od : Option Addr}
    {osl : Array (Option Value)} {N ps : List Str} {sp : Sp} (lk : K.lookup f = some ⟨oc, od, .func (PySem.W.fnOf nm qn prm bd sc dV kV doc pm an cdv ct), osl⟩) (cd : PySem.W.codeIn K cdv qn = true) (S : FnScope N ps sc) (len : ∀ vs H Q E, sp vs H Q E → vs.length = ps.length)
    (bdy : ∀ (A : Around) (outer : List Env) (s : Shared) (H : Hp) (vs : List V) (Q : VK) (E : XK), Room k (A.deeper (envOfC qn sc s.heap.objs.size f cdv)) → A.guards = some [] → sp vs H Q E →
      ∃ t, PSs (cxOf CX P w K mg base N qn sc f cdv A outer s H E) bd t ∧ t { nx := fun _ H' => Q .non H', rt := Q } (start N vs) H) :
    FnG P w K mg base CX (k + 1) f (PySem.W.fnOf nm qn prm bd sc dV kV doc pm an cdv ct) ps sp := by
  refine ⟨len, fun A outer s H args us vs Q E room gd e0 bt rv hsp => ?_⟩
  have l1 := len _ _ _ _ hsp
  have inK : K.In s.heap := e0.mod.kin.keeps fun b o e => (e0.bs b o e).1
  have nolim : s.heap.NoLimit := e0.mod.nolimit.keeps fun b o e => (e0.bs b o e).1
  refine codeAny_call_function room.depth (inK _ _ lk) rfl S.co S.gen rfl (PySem.W.codeRec_of inK cd) (bt _ _ _ _ ?_)
  refine wpAny_newFunctionEnv_cells S.kind (fun ⟨n, v⟩ hy => ?_) fun env ee s1 x => ?_
  · rcases S.par n (List.of_mem_zip hy).1 with z | z
    · exact .inl z
    · exact .inr ⟨z, PySem.W.cellsFrom_some _ _ _ (.inl z)⟩
  · subst ee
    refine ⟨nolim.keeps x.toInCall.keep, codeAny_func ?_⟩
    obtain ⟨t, ht, hq⟩ := bdy A outer s H vs Q E (room.deeper _) gd hsp
    have J : Inv (cxOf CX P w K mg base N qn sc f cdv A outer s H E) [] (start N vs) H s1 := inv_start S room.hd e0 l1 rv x
    refine wpAny_mono (ht.run [] s1 (start N vs) H _ J hq) (fun fl s' z => ?_) fun _ _ z => z
    cases fl with
    | ret u => obtain ⟨v, _, H', I, rr, q⟩ := z; exact ⟨v, H', I.os, I.bare, I.base, I.hok, rr, q⟩
    | next => obtain ⟨_, H', I, q⟩ := z; exact ⟨V.non, H', I.os, I.bare, I.base, I.hok, rfl, q⟩
    | brk => obtain ⟨_, _, _, q⟩ := z; exact False.elim q
    | cont => obtain ⟨_, _, _, q⟩ := z; exact False.elim q
/-- a def of the text, no exception leaves it -/
theorem Fun.okG {P : Program} {w : World} {K : PySem.W.Frag} {mg : Str → Option Value} {base : Heap} {x qn : Str} {st : Stmt} {f : Addr} {fd : FuncData} {N ps : List Str} {k : Nat} {sp : Sp} (F : Fun K x qn st f fd) (S : FnScope N ps (defScope st)) (len : ∀ vs H Q E, sp vs H Q E → vs.length = ps.length)
    (bdy : ∀ (cdv : Value) (A : Around) (outer : List Env) (s : Shared) (H : Hp) (vs : List V) (Q : VK) (E : XK), Room k (A.deeper (envOfC qn (defScope st) s.heap.objs.size f cdv)) → A.guards = some [] → sp vs H Q E →
      ∃ t, PSs (cxOf CX0 P w K mg base N qn (defScope st) f cdv A outer s H E).nox (defBody st) t ∧ t { nx := fun _ H' => Q .non H', rt := Q } (start N vs) H) : FnG P w K mg base CX0 (k + 1) f fd ps sp := by
  obtain ⟨oc, od, kV, doc, pm, an, cdv, ct, osl, rfl, lk, hcd⟩ := F.ex
  refine fnG_of lk hcd S len fun A outer s H vs Q E hr gd hsp => ?_
  obtain ⟨t, h, q⟩ := bdy cdv A outer s H vs Q E hr gd hsp
  exact ⟨t, h.nox, q⟩
section
variable {X : Cx} {x : Str} {p pos : Pos} {e : Expr} {es : List Expr} {t : TA} {CX : CXT} {k : Nat} {f : Addr} {fd : FuncData} {ps : List Str} {sp : Sp} {ds : List Value} {dvs : List V} {E : XK}
theorem pe_callG (F : FnG X.prog X.w X.K X.mg X.base CX k f fd ps sp) (gd : X.A.guards = some []) (hr : Room k X.A) (hg : Gl X x) (hm : X.mg x = some (.ref f)) (hk : PySem.W.keepIn X.K (.ref f) = true) (hb : Binds X.K fd ps ds) (hd : Vals dvs ds) (hx : Passes CX X E)
    (ha : PA X (e :: es) t) (hdb : (x == ("__debug__" : Str)) = false := by decide) (he : starEach (e :: es) X.env = (false, eval e X.env) :: starEach es X.env := by rfl) (hpl : (backTo pos (starEach es X.env)).any (·.1) = false := by rfl) :
    PE X (.Call (.Name x p) (e :: es) [] pos) (tCall sp dvs E t) := by
  refine ⟨fun pins s σ H Q I h => wpAny_Call_Name_kw (ld_glob I hg hm ?_ hdb)⟩
  refine PySem.W.callWith_K (h₀ := X.base) I.ok.mod.kin hk (thn (ha.run pos pins s σ H _ I h) fun us s1 ⟨vs, H1, J, r, q⟩ => ⟨J.kIn, ?_⟩) he hpl
  have r2 : Vals (vs ++ dvs) (us ++ ds) := r.append hd
  have l1 : (us ++ ds).length = ps.length := by rw [← r2.length]; exact F.len _ _ _ _ q
  refine wpAny_call (codeAny_mono (F.run X.A X.stack s1 H1 ⟨us, []⟩ (us ++ ds) (vs ++ dvs) Q E hr gd J.env0 (hb s1 us J.kIn l1) r2 q) fun r s' z => ?_)
  cases r with
  | error er => exact hx pins σ H1 s1 er s' J z
  | ok fl => cases fl with
    | ret u => exact J.after z
    | next => exact False.elim z
    | brk => exact False.elim z
    | cont => exact False.elim z
end
/-- the head's end: the law's promise is asked at the caller alone -/
theorem law_callG {P : Program} {w : World} {K : PySem.W.Frag} {mg mb : Str → Option Value} {k : Nat} {fa a : Addr} {fd : FuncData} {x : Str} {sp : Sp} {s₁ : Shared} {vs : List Value} {ns : List Int}
    (inK : K.In s₁.heap) (nsg : s₁.heap.Ns mainGlobals mg) (nsb : s₁.heap.Ns builtinsNs mb) (bb : ∀ x : Str, x ≠ "__name__" → mb x = bootBuiltins x) (nolim : s₁.heap.NoLimit) (gens : s₁.gens = #[])
    (ha : s₁.heap.get? a = some { cls := .type "list", data := .seq vs.toArray }) (hi : IntsAre vs ns) (hl : ns.length ≤ sizeLine) (room : Room k callerA)
    (F : ∀ base : Heap, K.In base → base.Ns mainGlobals mg → FnG P w K mg base CX0 k fa fd [x] sp) (bt : ∀ (s : Shared) (u : Value), BindsTo s fd ⟨[u], []⟩ [(x, u)])
    (hsp : ∀ H : Hp, Only H → SqL K H a (ns.map V.int) → sp [.ref a] H (fun v _ => v = .bl true) fun _ _ _ => False) :
    codeAny (model P w) callerA (.call (.ref fa) ⟨[.ref a], []⟩) (fun r s' => r = .ok (.ret (.bool true)) ∧ OldK s₁.heap s'.heap ∧ s'.os = s₁.os ∧ AllBare s'.gens) s₁ := by
  have rv := vals_ints hi
  have go : ∀ H : Hp, Only H → SqL K H a (ns.map V.int) → HOk P w H s₁.heap → (∀ b, H b ≠ none → b = a) → (H a ≠ none → K.lookup a = none) →
      codeAny (model P w) callerA (.call (.ref fa) ⟨[.ref a], []⟩) (fun r s' => r = .ok (.ret (.bool true)) ∧ OldK s₁.heap s'.heap ∧ s'.os = s₁.os ∧ AllBare s'.gens) s₁ := by
    intro H only sq hok alone notK
    have free : ∀ {b : Addr} {o : Obj} {es : Array DictEntry} {ep : Nat}, s₁.heap.get? b = some o → o.data = .dict es ep → H b = none := by
      intro b o es ep e dd
      cases q : H b with
      | none => rfl
      | some u =>
        obtain rfl : b = a := alone b (by rw [q]; simp)
        rw [ha] at e; cases e; cases (show Data.seq vs.toArray _ = Data.dict es ep from dd)
    have nsH : ∀ {b : Addr} {m : Str → Option Value}, s₁.heap.Ns b m → (hidT s₁.heap H).Ns b m := fun {b m} ⟨o, es, ep, e, dd, r⟩ => ⟨o, es, ep, hidT_get e (free e dd), dd, r⟩
    have inB : K.In (hidT s₁.heap H) := by
      intro b o e
      refine hidT_get (inK b o e) ?_
      cases q : H b with
      | none => rfl
      | some u =>
        obtain rfl : b = a := alone b (by rw [q]; simp)
        rw [notK (by rw [q]; simp)] at e; cases e
    obtain ⟨mc, n1, n2⟩ := nolim
    have md : Mod K mg (hidT s₁.heap H) := ⟨inB, nsH nsg, ⟨mb, nsH nsb, bb⟩, ⟨mc, nsH n1, n2⟩⟩
    have e0 : Env0 P w K mg (hidT s₁.heap H) callerA [] s₁ H := ⟨rfl, md, fun b o e => of_hidT e, Nat.le_of_eq (hidT_size _ _), trivial, (fun b hb => by cases (show b ∈ ([] : List Addr) from hb)), hok, AllBare.of_eq gens⟩
    refine codeAny_mono ((F _ inB (nsH nsg)).run callerA [] s₁ H ⟨[.ref a], []⟩ [.ref a] [.ref a] _ _ room rfl e0 (bt s₁ (.ref a)) (.cons rfl .nil) (hsp H only sq)) fun r s' z => ?_
    cases r with
    | error er => exact False.elim z
    | ok fl => cases fl with
      | next => exact False.elim z
      | brk => exact False.elim z
      | cont => exact False.elim z
      | ret u =>
        obtain ⟨v, H', os, bare, un, hok', rr, (rfl : v = .bl true)⟩ := z
        obtain rfl : u = Value.bool true := rr
        refine ⟨rfl, OldK.of_keep fun b o e => ?_, os, bare⟩
        rcases only b with q | ⟨ob, xs, q⟩
        · exact un.keep b o e q (fun z => by cases (show b ∈ ([] : List Addr) from z)) (by simp)
        · obtain ⟨e1, _⟩ := hok b _ q
          obtain ⟨e2, _⟩ := hok' b _ (un.frzs b ob _ q)
          rw [e] at e1; cases e1; exact e2
  cases hk : K.lookup a with
  | some o =>
    have e := inK a o hk
    rw [ha] at e; cases e
    refine go (fun _ => none) (fun _ => .inl rfl) (.inr ⟨_, vs.toArray, _, hk, rfl, rfl, rfl, by rw [List.size_toArray, hi.length]; exact hl, by simpa using rv⟩) (fun b u z => ?_) (fun b z => absurd rfl z) fun z => absurd rfl z
    cases (show (none : Option HO) = some u from z)
  | none =>
    refine go (fun b => if b = a then some (.frz { cls := .type "list", data := .seq vs.toArray } (.lst (ns.map V.int))) else none) (fun b => ?_) (.inl (.inr ⟨_, if_pos rfl⟩)) (fun b u z => ?_) (fun b z => ?_) fun _ => hk
    · by_cases hb : b = a
      · exact .inr ⟨_, _, if_pos hb⟩
      · exact .inl (if_neg hb)
    · by_cases hb : b = a
      · cases (if_pos hb).symm.trans z
        subst hb; exact ⟨ha, by rw [List.length_map]; exact hl, vs, _, rv, ha⟩
      · cases (if_neg hb).symm.trans z
    · by_cases hb : b = a
      · exact hb
      · exact absurd (if_neg hb) z
theorem walkG {l : PySem.W.OpenLaw} {n k : Nat} {q : Program} {loose : List Str} {XP : (Str → Option Value) → Heap → Prop} {YP : World → Heap → Prop} {d : DefRec} {K : Params → PySem.W.Frag} {sp : World → Sp} {x : Str}
    (hn : l.most = some n) (hn2 : n ≤ sizeLine) (hdf : d.params.defaults = []) (hr : Room k callerA) (hY : ∀ (w : World) (h : Heap), YP w h → (K w.params).In h)
    (F : ∀ (w : World) (mg : Str → Option Value) (fa : Addr) (h : Heap), (K w.params).In h → h.Ns mainGlobals mg → mg d.name = some (.ref fa) →
      ∃ fd : FuncData, (∀ (s : Shared) (u : Value), BindsTo s fd ⟨[u], []⟩ [(x, u)]) ∧ ∀ base : Heap, (K w.params).In base → base.Ns mainGlobals mg → FnG l.prog w (K w.params) mg base CX0 k fa fd [x] (sp w))
    (hsp : ∀ (w : World) (H : Hp) (a : Addr) (ns : List Int), ns.length ≤ n → Only H → SqL (K w.params) H a (ns.map V.int) → sp w [.ref a] H (fun v _ => v = .bl true) fun _ _ _ => False) :
    PySem.W.WalkO q loose XP YP l.row.toRowW d [] (fun f vs => PySem.call f vs) := by
  refine Att.attach_call hn hdf fun w s₀ s₁ mg mb fa o pm cd doc a vs ns G Y ho hd hcd hmg hobj hints hlen hg => ?_
  obtain ⟨fd, hb, hF⟩ := F w mg fa _ (hY w _ Y) G.T.g hmg
  exact law_callG (hY w _ Y) G.T.g G.T.b G.T.builtins G.T.nolimit hg hobj hints (Nat.le_trans hlen hn2) hr hF hb fun H hO hS => hsp w H a ns hlen hO hS
end X1
end L2
/-! repr of data of any depth, dicts among it -/
namespace L2
namespace X1
open PySem PySem.Spec PyProof.Rows
def keyD : Key → PyData
  | .inl i => .int i
  | .inr x => .str x
mutual
inductive Dx (H : Hp) : V → PyData → Prop
  | non : Dx H .non .none
  | bl (b : Bool) : Dx H (.bl b) (.bool b)
  | int (i : Int) : Dx H (.int i) (.int i)
  | str (x : Str) : Dx H (.str x) (.str x)
  | lst {a : Addr} {xs : List V} {ds : List PyData} : H a = some (.lst xs) → a ≠ sysModules → DxL H xs ds → Dx H (.ref a) (.list ds)
  | tup {a : Addr} {xs : List V} {ds : List PyData} : H a = some (.tup xs) → DxL H xs ds → Dx H (.ref a) (.tuple ds)
  | dct {a : Addr} {kvs : List (Key × V)} {es : List (PyData × PyData)} : H a = some (.dK kvs) → DxK H kvs es → Dx H (.ref a) (.dict es)
inductive DxL (H : Hp) : List V → List PyData → Prop
  | nil : DxL H [] []
  | cons {v : V} {vs : List V} {d : PyData} {ds : List PyData} : Dx H v d → DxL H vs ds → DxL H (v :: vs) (d :: ds)
inductive DxK (H : Hp) : List (Key × V) → List (PyData × PyData) → Prop
  | nil : DxK H [] []
  | cons {k : Key} {v : V} {vs : List (Key × V)} {d : PyData} {ds : List (PyData × PyData)} : Dx H v d → DxK H vs ds → DxK H ((k, v) :: vs) ((keyD k, d) :: ds)
end
section
variable {H H' : Hp}
mutual
theorem Dx.same (s : Same H H') : ∀ {v : V} {d : PyData}, Dx H v d → Dx H' v d
  | _, _, .non => .non
  | _, _, .bl b => .bl b
  | _, _, .int i => .int i
  | _, _, .str x => .str x
  | _, _, .lst e n h => .lst (s _ _ e) n (DxL.same s h)
  | _, _, .tup e h => .tup (s _ _ e) (DxL.same s h)
  | _, _, .dct e h => .dct (s _ _ e) (DxK.same s h)
theorem DxL.same (s : Same H H') : ∀ {v : List V} {d : List PyData}, DxL H v d → DxL H' v d
  | _, _, .nil => .nil
  | _, _, .cons h t => .cons (Dx.same s h) (DxL.same s t)
theorem DxK.same (s : Same H H') : ∀ {v : List (Key × V)} {d : List (PyData × PyData)}, DxK H v d → DxK H' v d
  | _, _, .nil => .nil
  | _, _, .cons h t => .cons (Dx.same s h) (DxK.same s t)
end
end
section
variable {X : Cx} {pins : List (Addr × Obj)} {σ : List (Option V)} {H : Hp} {s : Shared}
theorem key_reads {P : Program} {w : World} {h : Heap} {k : Key} {u : Value} (r : (mixKind P w).is k u = true) : Reads h u (keyD k) [] := by
  rw [mixKind_is] at r
  rcases keyIs_shape r with ⟨i, t, rfl, rfl⟩ | ⟨x, t, rfl, rfl⟩
  · exact .int i t
  · exact .str x t
mutual
theorem Dx.reads (I : Inv X pins σ H s) : ∀ {v : V} {d : PyData}, Dx H v d → ∀ {u : Value}, RelV v u → ∃ as, Reads s.heap u d as ∧ sysModules ∉ as
  | _, _, .non, _, r => by cases r; exact ⟨[], .none, by simp⟩
  | _, _, .bl b, _, r => by cases r; exact ⟨[], .bool b, by simp⟩
  | _, _, .int i, _, r => by obtain ⟨t, rfl⟩ := r; exact ⟨[], .int i t, by simp⟩
  | _, _, .str x, _, r => by obtain ⟨t, rfl⟩ := r; exact ⟨[], .str x t, by simp⟩
  | _, _, .lst (a := a) e n h, _, r => by
    cases r
    obtain ⟨_, its, m, rv, ho⟩ := (show ObjOk X.prog X.w H s.heap _ _ from I.hok _ _ e)
    obtain ⟨as, q, z⟩ := DxL.reads I h rv
    exact ⟨a :: as, .list ho rfl rfl q, by simp only [List.mem_cons, not_or]; exact ⟨fun y => n y.symm, z⟩⟩
  | _, _, .tup e h, _, r => by
    cases r
    obtain ⟨_, its, rv, o, ho, hc, m, hd⟩ := (show ObjOk X.prog X.w H s.heap _ _ from I.hok _ _ e)
    obtain ⟨as, q, z⟩ := DxL.reads I h rv
    exact ⟨as, .tuple ho hc hd q, z⟩
  | _, _, .dct (a := a) e h, _, r => by
    cases r
    obtain ⟨_, ns, vs, rk, o, es, ep, ho, ex, hd, _, hp, _⟩ := (show ObjOk X.prog X.w H s.heap _ _ from I.hok _ _ e)
    obtain ⟨as, bs, q1, q2, z1, z2⟩ := DxK.reads I h rk hp
    exact ⟨a :: as ++ bs, .dict ho ex.1 hd q1 q2, by
      simp only [List.cons_append, List.mem_cons, List.mem_append, not_or]
      exact ⟨fun y => (beq_eq_false_iff_ne.mp ns) y.symm, z1, z2⟩⟩
theorem DxL.reads (I : Inv X pins σ H s) : ∀ {v : List V} {d : List PyData}, DxL H v d → ∀ {us : List Value}, Vals v us → ∃ as, ReadsAll s.heap us d as ∧ sysModules ∉ as
  | _, _, .nil, _, r => by cases r; exact ⟨[], .nil, by simp⟩
  | _, _, .cons h t, _, r => by
    cases r with
    | cons r1 r2 =>
      obtain ⟨as, q, z⟩ := Dx.reads I h r1
      obtain ⟨bs, q', z'⟩ := DxL.reads I t r2
      exact ⟨as ++ bs, .cons q q', by simp only [List.mem_append, not_or]; exact ⟨z, z'⟩⟩
theorem DxK.reads (I : Inv X pins σ H s) : ∀ {v : List (Key × V)} {d : List (PyData × PyData)}, DxK H v d → ∀ {vs : List (Key × Value)} {es : List DictEntry}, KV v vs → Pairs (mixKind X.prog X.w) es vs →
    ∃ as bs, ReadsAll s.heap (es.map (·.key)) (d.map (·.1)) as ∧ ReadsAll s.heap (es.map (·.val)) (d.map (·.2)) bs ∧ sysModules ∉ as ∧ sysModules ∉ bs
  | _, _, .nil, _, _, r, p => by
    cases r
    cases p
    exact ⟨[], [], .nil, .nil, by simp, by simp⟩
  | _, _, .cons h t, _, _, r, p => by
    cases r with
    | cons r1 r2 =>
      obtain ⟨ek, rv⟩ := r1
      cases p with
      | cons p1 pv p2 =>
        obtain ⟨as, q, z⟩ := Dx.reads I h rv
        obtain ⟨bs, cs, q1, q2, z1, z2⟩ := DxK.reads I t r2 p2
        rw [← ek] at p1
        rw [← pv] at q
        exact ⟨[] ++ bs, as ++ cs, .cons (key_reads p1) q1, .cons q q2, by simpa using z1, by simp only [List.mem_append, not_or]; exact ⟨z, z2⟩⟩
end
end
section
variable {X : Cx}
/-- repr(x), x data -/
def rRepr : List V → Hp → VK → Prop := fun xs H Q => ∃ v d, xs = [v] ∧ Dx H v d ∧ d.showable = true ∧ d.depth ≤ 60 ∧ d.shown.length ≤ sizeLine ∧ Q (.str d.shown) H
theorem call_repr (gd : X.A.guards = some []) (hu : X.A.units + 64 < cLine) : CallR X (.builtin "repr") rRepr := by
  intro pins s σ H xs us Q I r h
  obtain ⟨v, d, rfl, hd, sh, dp, sz, q⟩ := h
  obtain ⟨u, rfl, ru⟩ := vals1 r
  obtain ⟨as, rd, ns⟩ := Dx.reads I hd ru
  have fin : ∀ (t : Tok) (tk : Nat) (h' : Heap), (∀ b o, s.heap.get? b = some o → h'.get? b = some o) → EP X pins σ Q (.str d.shown t) { s with heap := h', toks := tk } := fun t tk h' k => ⟨.str d.shown, H, I.kept k, ⟨t, rfl⟩, q⟩
  cases hd with
  | non => cases ru; exact PySem.P.repr_of_none (fin _ _ s.heap fun _ _ e => e)
  | bl b => cases ru; exact PySem.P.repr_of_bool (fin _ _ s.heap fun _ _ e => e)
  | int i =>
    obtain ⟨t, rfl⟩ := ru
    exact PySem.P.repr_of_int (by simpa [PyData.showable] using sh) (fin _ _ s.heap fun _ _ e => e)
  | str x =>
    obtain ⟨t, rfl⟩ := ru
    exact PySem.P.repr_of_str (fin _ _ s.heap fun _ _ e => e) sz
  | lst => cases ru; exact repr_of_reads' rd sh (fun _ => ns) gd (by omega) (fun _ _ e => e) (fun h' t tk k => fin t tk h' k) sz
  | tup => cases ru; exact repr_of_reads' rd sh (fun _ => ns) gd (by omega) (fun _ _ e => e) (fun h' t tk k => fin t tk h' k) sz
  | dct => cases ru; exact repr_of_reads' rd sh (fun _ => ns) gd (by omega) (fun _ _ e => e) (fun h' t tk k => fin t tk h' k) sz
/-- a display whose address is told not to be that of sys.modules -/
theorem pe_lstN {es : List Expr} {t : TA} {pos : Pos} (h : PA X es t) : PE X (.List es pos) (fun σ H Q => t σ H fun xs H1 => xs.length ≤ sizeLine ∧ ∀ p, H1 p = none → p ≠ sysModules → Q (.ref p) (upd H1 p (.lst xs))) := by
  refine ⟨fun pins s0 σ H Q J hw => ?_⟩
  refine wpAny_List_spliced (thn (h.run pos pins s0 σ H _ J hw) fun us s2 ⟨ys, H2, J2, rv, lz, q2⟩ => ⟨by rw [← rv.length]; exact lz, ?_⟩)
  have nw : H2 s2.heap.objs.size = none := J2.hok.fresh (Nat.le_refl _)
  refine ⟨.ref s2.heap.objs.size, upd H2 s2.heap.objs.size (.lst ys), J2.laid (t' := s2.toks) (fun b u e => Heap.get?_push_of_some _ e) (Nat.le_refl _) ⟨lz, us, 0, rv, Heap.get?_push_size _ rfl⟩, rfl, q2 _ nw ?_⟩
  exact fun z => absurd J2.big (by rw [← z]; exact Nat.lt_irrefl _)
end
end X1
end L2
/-! data of small size: its repr fits -/
namespace L2
namespace X1
open PySem PySem.Spec PyProof.Rows
/-- showable, of depth k at most, its text of m signs at most -/
def Fit (k m : Nat) (d : PyData) : Prop := d.showable = true ∧ d.depth ≤ k ∧ d.shown.length ≤ m
theorem Fit.mono {k m k' m' : Nat} {d : PyData} (h : Fit k m d) (a : k ≤ k') (b : m ≤ m') : Fit k' m' d := ⟨h.1, Nat.le_trans h.2.1 a, Nat.le_trans h.2.2 b⟩
theorem lstText_le : ∀ (ts : List Str) (k : Nat) (acc : Str), (textFrom k acc ts).length ≤ acc.length + (ts.map (·.length)).sum + 2 * ts.length
  | [], _, acc => by show acc.length ≤ _; omega
  | t :: ts, k, acc => by
    have ih := lstText_le ts (k + 1) (acc ++ (if k > 0 then ", " else "" : String) ++ t)
    have e : (acc ++ (if k > 0 then ", " else "" : String) ++ t).length ≤ acc.length + 2 + t.length := by
      rw [strLen_append, strLen_append]
      split
      · exact Nat.le_refl _
      · show acc.length + 0 + t.length ≤ _; omega
    show (textFrom (k + 1) _ ts).length ≤ _
    simp only [List.map_cons, List.sum_cons, List.length_cons]
    omega
theorem listText_le (ts : List Str) : (listText ts).length ≤ (ts.map (·.length)).sum + 2 * ts.length + 2 := by
  have h := lstText_le ts 0 "["
  unfold listText
  rw [strLen_append]
  have e1 : (Str.ofString "[").length = 1 := rfl
  have e2 : (Str.ofString "]").length = 1 := rfl
  omega
theorem tupText_le (ts : List Str) : (tupleText ts).length ≤ (ts.map (·.length)).sum + 2 * ts.length + 3 := by
  have h := StrLaws.join_length_le ", " ts
  unfold tupleText
  rw [strLen_append, strLen_append]
  have e1 : (Str.ofString "(").length = 1 := rfl
  have e3 : (Str.ofString ", ").length = 2 := rfl
  rw [e3] at h
  have e2 : (Str.ofString (if ts.length == 1 then ",)" else ")")).length ≤ 2 := by split <;> decide
  omega
theorem dctText_le (ts : List Str) : (dictText ts).length ≤ (ts.map (·.length)).sum + 2 * ts.length + 2 := by
  have h := StrLaws.join_length_le ", " ts
  unfold dictText
  rw [strLen_append, strLen_append]
  have e1 : (Str.ofString "{").length = 1 := rfl
  have e3 : (Str.ofString ", ").length = 2 := rfl
  have e2 : (Str.ofString "}").length = 1 := rfl
  rw [e3] at h
  omega
theorem fit_non : Fit 0 10 .none := ⟨rfl, Nat.le_refl _, by decide⟩
theorem fit_bl (b : Bool) : Fit 0 10 (.bool b) := by cases b <;> exact ⟨rfl, Nat.le_refl _, by decide⟩
theorem fit_int {i : Int} (h : i.natAbs < 10 ^ 12) : Fit 0 20 (.int i) := by
  refine ⟨?_, Nat.le_refl _, ?_⟩
  · have q : i.natAbs.log2 < 1920 := Nat.lt_of_lt_of_le (PySem.Flt.log2_lt_of (k := 40) (by decide) (Nat.lt_of_lt_of_le h (by decide))) (by decide)
    simpa [PyData.showable] using q
  · show (Str.ofString (toString i)).length ≤ 20
    rw [PySem.ofString_length]
    have e := int_text_length_le10 (k := 12) (by decide) h
    omega
theorem fit_str {x : Str} {n : Nat} (hl : x.length ≤ n) (h : ∀ c ∈ x.cps.toList, 97 ≤ c ∧ c ≤ 122) : Fit 0 (10 * n + 2) (.str x) := by
  refine ⟨rfl, Nat.le_refl _, ?_⟩
  have e := StrLaws.reprText_len x fun c hc => Nat.lt_of_le_of_lt (h c hc).2 (by decide)
  show (reprText x).length ≤ _
  omega
theorem fit_lit {x : Str} {n : Nat} (h : (x.cps.toList.all fun c => decide (c < 16 ^ 8)) = true) (hl : x.length ≤ n) : Fit 0 (10 * n + 2) (.str x) := by
  refine ⟨rfl, Nat.le_refl _, ?_⟩
  have e := StrLaws.reprText_len x fun c hc => of_decide_eq_true (List.all_eq_true.mp h c hc)
  show (reprText x).length ≤ _
  omega
theorem fit_lst1 {k m : Nat} {a : PyData} (h : Fit k m a) : Fit (k + 1) (m + 4) (.list [a]) := by
  obtain ⟨h1, h2, h3⟩ := h
  refine ⟨by simp [PyData.showable, PyData.showableAll, h1], by simp [PyData.depth, PyData.depthAll, h2], ?_⟩
  have e := listText_le [a.shown]
  show (listText [a.shown]).length ≤ _
  simp only [List.map_cons, List.map_nil, List.sum_cons, List.sum_nil, List.length_cons, List.length_nil] at e
  omega
theorem fit_lst2 {k m n : Nat} {a b : PyData} (h : Fit k m a) (g : Fit k n b) : Fit (k + 1) (m + n + 6) (.list [a, b]) := by
  obtain ⟨h1, h2, h3⟩ := h
  obtain ⟨g1, g2, g3⟩ := g
  refine ⟨by simp [PyData.showable, PyData.showableAll, h1, g1], by simp only [PyData.depth, PyData.depthAll]; omega, ?_⟩
  have e := listText_le [a.shown, b.shown]
  show (listText [a.shown, b.shown]).length ≤ _
  simp only [List.map_cons, List.map_nil, List.sum_cons, List.sum_nil, List.length_cons, List.length_nil] at e
  omega
theorem fit_lst3 {k m n l : Nat} {a b c : PyData} (h : Fit k m a) (g : Fit k n b) (f : Fit k l c) : Fit (k + 1) (m + n + l + 8) (.list [a, b, c]) := by
  obtain ⟨h1, h2, h3⟩ := h
  obtain ⟨g1, g2, g3⟩ := g
  obtain ⟨f1, f2, f3⟩ := f
  refine ⟨by simp [PyData.showable, PyData.showableAll, h1, g1, f1], by simp only [PyData.depth, PyData.depthAll]; omega, ?_⟩
  have e := listText_le [a.shown, b.shown, c.shown]
  show (listText [a.shown, b.shown, c.shown]).length ≤ _
  simp only [List.map_cons, List.map_nil, List.sum_cons, List.sum_nil, List.length_cons, List.length_nil] at e
  omega
theorem fit_tup2 {k m n : Nat} {a b : PyData} (h : Fit k m a) (g : Fit k n b) : Fit (k + 1) (m + n + 7) (.tuple [a, b]) := by
  obtain ⟨h1, h2, h3⟩ := h
  obtain ⟨g1, g2, g3⟩ := g
  refine ⟨by simp [PyData.showable, PyData.showableAll, h1, g1], by simp only [PyData.depth, PyData.depthAll]; omega, ?_⟩
  have e := tupText_le [a.shown, b.shown]
  show (tupleText [a.shown, b.shown]).length ≤ _
  simp only [List.map_cons, List.map_nil, List.sum_cons, List.sum_nil, List.length_cons, List.length_nil] at e
  omega
theorem fit_dct1 {k m n : Nat} {a b : PyData} (h : Fit k m a) (g : Fit k n b) : Fit (k + 1) (m + n + 6) (.dict [(a, b)]) := by
  obtain ⟨h1, h2, h3⟩ := h
  obtain ⟨g1, g2, g3⟩ := g
  refine ⟨by simp [PyData.showable, PyData.showableKv, h1, g1], by simp only [PyData.depth, PyData.depthKv]; omega, ?_⟩
  have e := dctText_le [a.shown ++ ": " ++ b.shown]
  show (dictText [a.shown ++ ": " ++ b.shown]).length ≤ _
  simp only [List.map_cons, List.map_nil, List.sum_cons, List.sum_nil, List.length_cons, List.length_nil, strLen_append] at e
  have e2 : (Str.ofString ": ").length = 2 := rfl
  rw [e2] at e
  omega
theorem fit_dct2 {k m n m' n' : Nat} {a b a' b' : PyData} (h : Fit k m a) (g : Fit k n b) (h' : Fit k m' a') (g' : Fit k n' b') : Fit (k + 1) (m + n + m' + n' + 10) (.dict [(a, b), (a', b')]) := by
  obtain ⟨h1, h2, h3⟩ := h
  obtain ⟨g1, g2, g3⟩ := g
  obtain ⟨h1', h2', h3'⟩ := h'
  obtain ⟨g1', g2', g3'⟩ := g'
  refine ⟨by simp [PyData.showable, PyData.showableKv, h1, g1, h1', g1'], by simp only [PyData.depth, PyData.depthKv]; omega, ?_⟩
  have e := dctText_le [a.shown ++ ": " ++ b.shown, a'.shown ++ ": " ++ b'.shown]
  show (dictText [a.shown ++ ": " ++ b.shown, a'.shown ++ ": " ++ b'.shown]).length ≤ _
  simp only [List.map_cons, List.map_nil, List.sum_cons, List.sum_nil, List.length_cons, List.length_nil, strLen_append] at e
  have e2 : (Str.ofString ": ").length = 2 := rfl
  rw [e2] at e
  omega
end X1
end L2
/-! the law's draws: a purse, mixed, draw -/
namespace L2
namespace D1
open PySem PySem.Spec PyProof.Rows
def top (i : Nat) : Stmt := PySem.Challenge.pw_endswell_k01_errors_made.main.body.getD i (.Pass ⟨0, 0, 0, 0⟩)
abbrev sPurse : Stmt := top 31
abbrev sMixed : Stmt := top 32
abbrev sDraw : Stmt := top 33
abbrev sPurses : Stmt := top 34
abbrev sOneOf : Stmt := top 35
abbrev sWord : Stmt := top 36
/-- the built-ins' names are free -/
structure Free (mg : Str → Option Value) : Prop where
  sum : mg "sum" = none
  int : mg "int" = none
  max : mg "max" = none
  min : mg "min" = none
  len : mg "len" = none
  range : mg "range" = none
  repr : mg "repr" = none
  isi : mg "isinstance" = none
  all : mg "all" = none
/-- a purse: what is left of a great number, a seed, turns taken, its place -/
def Purse (H : Hp) (p : Addr) (t : Int) : Prop := ∃ g b z : Int, H p = some (.lst [.int g, .int b, .int t, .int z]) ∧ 0 ≤ g ∧ g < 10 ^ 480 ∧ 0 ≤ b ∧ b < 2147483629 ∧ 0 ≤ z ∧ z < 64 ∧ 0 ≤ t
theorem Purse.same {H H' : Hp} {p : Addr} {t : Int} (h : Purse H p t) (s : Same H H') : Purse H' p t := by
  obtain ⟨g, b, z, e, r⟩ := h; exact ⟨g, b, z, s _ _ e, r⟩
def spPurse (K : PySem.W.Frag) : Sp := fun vs H Q _ => ∃ (a : Addr) (ns : List Int) (z : Int), vs = [.ref a, .int z] ∧ SqL K H a (ns.map V.int) ∧ 0 ≤ z ∧ z < 64 ∧ ∀ H' p, Same H H' → H p = none → Purse H' p 0 → Q (.ref p) H'
def spMixed : Sp := fun vs H Q _ => ∃ (s t z : Int), vs = [.int s, .int t, .int z] ∧ 0 ≤ t ∧ t < 2 ^ 40 ∧ ∀ r : Int, 0 ≤ r → r < 2 ^ 31 → Q (.int r) H
def spDraw : Sp := fun vs H Q _ => ∃ (p : Addr) (m t : Int), vs = [.ref p, .int m] ∧ Purse H p t ∧ 1 ≤ m ∧ m < 2 ^ 27 ∧ t < 2 ^ 30 ∧ ∀ (r t' : Int) (o : HO), 0 ≤ r → r < m → t' ≤ t + 1 → Purse (upd H p o) p t' → Q (.int r) (upd H p o)
theorem op_powW {X : Cx} : OpR X (binaryOp .Pow) (rI (fun i j => 0 ≤ j ∧ (Builtin.Int.intBits i : Int) * j ≤ 2 ^ 27) fun i j => .int (i ^ j.toNat)) := opI fun _ _ _ _ _ _ _ hc q => pow_int hc.1 hc.2 q
theorem cut_ints (ns : List Int) (lo hi : Option Int) : ∃ ms : List Int, cutV (ns.map V.int) lo hi = ms.map V.int :=
  ⟨(ns.drop (HT.sIx ns.length 0 lo)).take (HT.sIx ns.length ns.length hi - HT.sIx ns.length 0 lo), by simp [cutV, List.map_drop, List.map_take]⟩
section
variable {P : Program} {w : World} {K : PySem.W.Frag} {mg : Str → Option Value} {base : Heap}
theorem scP : FnScope ["_law_script", "_law_at", "_law_seed"] ["_law_script", "_law_at"] (defScope sPurse) := ⟨rfl, rfl, rfl, by decide +kernel, rfl, by decide +kernel, by decide +kernel⟩
theorem ok_purse {f : Addr} {fd : FuncData} (F : Fun K "_law_purse" "_law_purse" sPurse f fd) (T : Free mg) : FnOk P w K mg base CX0 1 f fd ["_law_script", "_law_at"] (spPurse K) := by
  refine F.ok scP (fun vs H Q E h => ?_) (fun cdv A outer s H vs Q E hr h => ?_)
  · obtain ⟨a, ns, z, rfl, _⟩ := h; rfl
  · obtain ⟨a, ns, z, rfl, hS, z0, z1, k⟩ := h
    refine ⟨_, pss_cons (ps_set (i := 2) scP.nd rfl (Or.inl rfl) (pe_callB (cr_sum rfl) (by rfl) T.sum (by decide +kernel) (pa_cons (pe_slice sl_list (pv 0) (po_some (pv 1)) (po_some (pe_op op_add (pv 1) pe_int))) pa_nil)))
      (pss_one (ps_ret (pe_lst (pa_cons (pe_op op_mod (pe_callTy call_int1 (by rfl) T.int (by decide +kernel) (pa_cons (pe_callB (call_max2 rfl) (by rfl) T.max (by decide +kernel) (pa_cons (pe_op op_sub (pv 2) (pe_op op_pow pe_int pe_int)) (pa_cons pe_int pa_nil))) pa_nil)) (pe_op op_powW (pe_op op_pow pe_int pe_int) pe_int))
        (pa_cons (pe_op op_mod (pe_callTy call_int1 (by rfl) T.int (by decide +kernel) (pa_cons (pv 2) pa_nil)) pe_int) (pa_cons pe_int (pa_cons (pv 1) pa_nil))))))), ?_⟩
    obtain ⟨ms, em⟩ := cut_ints ns (some z) (some (z + 1))
    refine ⟨_, rfl, _, rfl, _, rfl, _, rfl, _, _, rfl, rfl, _, rfl, a, _, rfl, hS, fun q hq => ?_⟩
    refine ⟨q, ms, rfl, SqL.of (by rw [upd_same, em]), ?_⟩
    refine ⟨_, rfl, _, _, rfl, rfl, ⟨by decide, by decide, by decide⟩, _, _, rfl, rfl, _, _, rfl, .inl ⟨_, rfl, ?_⟩⟩
    refine ⟨_, _, rfl, rfl, ⟨by decide, by decide, by decide⟩, _, _, rfl, rfl, ⟨by decide, by decide +kernel⟩, _, _, rfl, rfl, (by show (0 : Int) < (10 ^ Int.toNat 60) ^ Int.toNat 8; decide +kernel), ?_⟩
    refine ⟨_, rfl, .inl ⟨_, rfl, _, _, rfl, rfl, (by show (0 : Int) < 2147483629; decide), _, rfl, by show 4 ≤ sizeLine; decide, fun p hp => ?_⟩⟩
    have hpq : p ≠ q := fun e => by rw [e, upd_same] at hp; cases hp
    have hp0 : H p = none := by rw [upd_ne hpq] at hp; exact hp
    refine k _ p (fun b o e => ?_) hp0 ⟨_, _, _, upd_same, ?_⟩
    · rw [upd_ne (ne_of_none e hp0), upd_ne (ne_of_none e hq)]; exact e
    · exact ⟨Int.emod_nonneg _ (by decide +kernel), Int.emod_lt_of_pos _ (by decide +kernel), Int.emod_nonneg _ (by decide), Int.emod_lt_of_pos _ (by decide), z0, z1, Int.le_refl _⟩
theorem scM : FnScope ["_law_seed", "_law_turn", "_law_at", "_law_mixed_here"] ["_law_seed", "_law_turn", "_law_at"] (defScope sMixed) := ⟨rfl, rfl, rfl, by decide +kernel, rfl, by decide +kernel, by decide +kernel⟩
theorem ok_mixed {f : Addr} {fd : FuncData} (F : Fun K "_law_mixed" "_law_mixed" sMixed f fd) (T : Free mg) : FnOk P w K mg base CX0 1 f fd ["_law_seed", "_law_turn", "_law_at"] spMixed := by
  refine F.ok scM (fun vs H Q E h => ?_) (fun cdv A outer s H vs Q E hr h => ?_)
  · obtain ⟨a, t, z, rfl, _⟩ := h; rfl
  · obtain ⟨a, t, z, rfl, t0, t1, k⟩ := h
    refine ⟨_, pss_cons (ps_set (i := 3) scM.nd rfl (Or.inl rfl) (pe_op op_add (pe_op op_mul (pv 0) pe_int) (pe_op op_mul (pe_op op_mul pe_int (pv 1)) (pv 1))))
      (pss_cons (ps_set (i := 3) scM.nd rfl (Or.inl rfl) (pe_op op_mod (pe_callTy call_int1 (by rfl) T.int (by decide +kernel) (pa_cons (pe_op op_add (pe_op op_add (pv 3) (pe_op op_mul pe_int (pv 2))) (pv 1)) pa_nil)) pe_int))
      (pss_cons (ps_set (i := 3) scM.nd rfl (Or.inl rfl) (pe_op op_mod (pe_callTy call_int1 (by rfl) T.int (by decide +kernel) (pa_cons (pe_op op_add (pe_op op_mul (pv 3) (pv 3)) pe_int) pa_nil)) pe_int))
      (pss_one (ps_ret (pe_op op_mod (pe_callTy call_int1 (by rfl) T.int (by decide +kernel) (pa_cons (pe_op op_mul (pv 3) pe_int) pa_nil)) pe_int))))), ?_⟩
    refine ⟨_, rfl, _, _, rfl, rfl, .inr ⟨by decide, by decide⟩, _, rfl, _, _, rfl, rfl, .inl ⟨by decide, by decide⟩, _, rfl, _, _, rfl, rfl, .inr ⟨by omega, by omega⟩, _, _, rfl, rfl, ?_⟩
    refine ⟨_, rfl, _, rfl, _, _, rfl, rfl, .inl ⟨by decide, by decide⟩, _, _, rfl, rfl, _, rfl, _, _, rfl, rfl, .inl ⟨_, rfl, _, _, rfl, rfl, (by show (0 : Int) < 2147483647; decide), ?_⟩⟩
    generalize hm : (a * 69069 + 104729 * t * t + 7919 * z + t) % 2147483647 = m
    have m0 : 0 ≤ m := by rw [← hm]; exact Int.emod_nonneg _ (by decide)
    have m1 : m < 2147483647 := by rw [← hm]; exact Int.emod_lt_of_pos _ (by decide)
    refine ⟨_, rfl, _, rfl, _, _, rfl, rfl, .inl ⟨by omega, by omega⟩, _, _, rfl, rfl, .inl ⟨_, rfl, _, _, rfl, rfl, (by show (0 : Int) < 2147483629; decide), ?_⟩⟩
    refine ⟨_, rfl, _, _, rfl, rfl, .inr ⟨by decide, by decide⟩, .inl ⟨_, rfl, _, _, rfl, rfl, (by show (0 : Int) < 2147483587; decide), ?_⟩⟩
    exact k _ (Int.emod_nonneg _ (by decide)) (Int.lt_trans (Int.emod_lt_of_pos _ (by decide)) (by decide))
theorem scD : FnScope ["_law_purse_here", "_law_many", "_law_drawn", "_law_found", "_law_piece"] ["_law_purse_here", "_law_many"] (defScope sDraw) := ⟨rfl, rfl, rfl, by decide +kernel, rfl, by decide +kernel, by decide +kernel⟩
theorem bits27 {m : Int} (h1 : 1 ≤ m) (h2 : m < 2 ^ 27) : ((Builtin.Int.intBits m : Nat) : Int) / 28 = 0 := by
  have h : Builtin.Int.intBits m ≤ 27 := PyProof.Rows.intBits_le (by omega)
  omega
theorem ok_draw {f fM : Addr} {fd fdM : FuncData} (F : Fun K "_law_draw" "_law_draw" sDraw f fd) (T : Free mg) (FM : Fun K "_law_mixed" "_law_mixed" sMixed fM fdM) (bM : Binds K fdM ["_law_seed", "_law_turn", "_law_at"] []) (gM : mg "_law_mixed" = some (.ref fM)) :
    FnOk P w K mg base CX0 2 f fd ["_law_purse_here", "_law_many"] spDraw := by
  have GM : FnOk P w K mg base CX0 1 fM fdM ["_law_seed", "_law_turn", "_law_at"] spMixed := ok_mixed FM T
  refine F.ok scD (fun vs H Q E h => ?_) (fun cdv A outer s H vs Q E hr h => ?_)
  · obtain ⟨p, m, t, rfl, _⟩ := h; rfl
  · obtain ⟨p, m, t, rfl, hp, m1, m2, t1, k⟩ := h
    refine ⟨_, pss_cons (ps_if (pt_cmpR op_gt (pe_ix ix_list (pv 0) pe_int (fun _ _ => rfl)) pe_int (nomark _))
        (pss_cons (ps_set (i := 2) scD.nd rfl (Or.inl rfl) (pe_op op_mod (pe_callTy call_int1 (by rfl) T.int (by decide +kernel) (pa_cons (pe_ix ix_list (pv 0) pe_int (fun _ _ => rfl)) pa_nil)) (pv 1)))
          (pss_cons (ps_asg (pe_op op_fdivW (pe_ix ix_list (pv 0) pe_int (fun _ _ => rfl)) (pv 1)) (pg_sub (pv 0) pe_int set_list)) (pss_one (ps_ret (pv 2))))) pss_nil)
      (pss_cons (ps_set (i := 3) scD.nd rfl (Or.inl rfl) pe_int)
      (pss_cons (ps_for PassesOwn.never rfl (pi_range1 rfl T.range (pa_cons (pe_op op_add pe_int (pe_op op_fdiv (pe_bits (pv 1)) pe_int)) pa_nil)) (pg_name (i := 4) scD.nd rfl (Or.inl rfl))
        (pss_cons (ps_asg (pe_op op_add (pe_ix ix_list (pv 0) pe_int (fun _ _ => rfl)) pe_int) (pg_sub (pv 0) pe_int set_list))
          (pss_one (ps_set (i := 3) scD.nd rfl (Or.inl rfl) (pe_op op_add (pe_op op_mul (pv 3) pe_int) (pe_call GM (hr.mono (by decide)) rfl gM FM.kp bM .nil pass0 (pa_cons (pe_ix ix_list (pv 0) pe_int (fun _ _ => rfl)) (pa_cons (pe_ix ix_list (pv 0) pe_int (fun _ _ => rfl)) (pa_cons (pe_ix ix_list (pv 0) pe_int (fun _ _ => rfl)) pa_nil)))))))))
      (pss_one (ps_ret (pe_op op_mod (pe_callTy call_int1 (by rfl) T.int (by decide +kernel) (pa_cons (pv 3) pa_nil)) (pv 1)))))), ?_⟩
    obtain ⟨g, b, z, hl, g0, g1, b0, b1, z0, z1, t0⟩ := hp
    refine ⟨_, rfl, p, _, 0, _, rfl, rfl, SqL.of hl, rfl, _, _, rfl, rfl, _, rfl, ?_⟩
    refine ite2 (fun c => ?_) (fun _ => ?_)
    · refine ⟨_, rfl, p, _, 0, _, rfl, rfl, SqL.of hl, rfl, .inl ⟨_, rfl, _, rfl, _, _, rfl, rfl, (by show (0 : Int) < m; omega), ?_⟩⟩
      refine ⟨_, rfl, p, _, 0, _, rfl, rfl, SqL.of hl, rfl, _, rfl, _, _, rfl, rfl, wide_div (b := 27) (by omega) (by omega) (by decide) (by decide), ?_⟩
      · refine ⟨_, rfl, p, _, 0, 0, rfl, rfl, hl, rfl, _, rfl, ?_⟩
        exact k _ t _ (Int.emod_nonneg _ (by omega)) (Int.emod_lt_of_pos _ (by omega)) (by omega) ⟨_, _, _, upd_same, Int.ediv_nonneg g0 (by omega), Int.lt_of_le_of_lt (Int.ediv_le_self _ g0) g1, b0, b1, z0, z1, t0⟩
    · have e1 := bits27 m1 m2
      refine ⟨_, rfl, m, rfl, _, _, rfl, rfl, ⟨by decide, by decide⟩, _, _, rfl, rfl, _, rfl, by rw [e1]; decide, by rw [e1]; decide, ?_⟩
      rw [e1]
      refine for_range (n := 1) (fun i σ H' => ∃ (fnd : Int) (v : Option V), σ = [some (.ref p), some (.int m), none, some (.int fnd), v] ∧ (i = 0 → H' = H) ∧ (0 < i → H' = upd H p (.lst [.int g, .int b, .int (t + 1), .int z]))) ⟨0, none, rfl, fun _ => rfl, fun c => absurd c (by decide)⟩ ?_ ?_
      · rintro i σ H' hi ⟨fnd, v, rfl, e0, _⟩
        obtain rfl : i = 0 := by omega
        obtain rfl := e0 rfl
        refine ⟨_, rfl, p, _, 2, _, rfl, rfl, SqL.of hl, rfl, _, _, rfl, rfl, _, rfl, p, _, 2, 2, rfl, rfl, hl, rfl, ?_⟩
        refine ⟨_, rfl, _, _, rfl, rfl, .inr ⟨by decide, by decide⟩, _, rfl, p, _, 1, _, rfl, rfl, SqL.of upd_same, rfl, _, rfl, p, _, 2, _, rfl, rfl, SqL.of upd_same, rfl, _, rfl, p, _, 3, _, rfl, rfl, SqL.of upd_same, rfl, ?_⟩
        refine ⟨_, _, _, rfl, by omega, by omega, fun r r0 r1 => ⟨_, _, rfl, rfl, _, _, rfl, fun c => absurd c (by decide), fun _ => rfl⟩⟩
      · rintro σ H' ⟨fnd, v, rfl, _, e2⟩
        obtain rfl := e2 (by decide)
        refine ⟨_, rfl, .inl ⟨_, rfl, _, rfl, _, _, rfl, rfl, (by show (0 : Int) < m; omega), ?_⟩⟩
        exact k _ (t + 1) _ (Int.emod_nonneg _ (by omega)) (Int.emod_lt_of_pos _ (by omega)) (Int.le_refl _) ⟨_, _, _, upd_same, g0, g1, b0, b1, z0, z1, by omega⟩
end
end D1
end L2
namespace L2
namespace D1
open PySem PySem.Spec PyProof.Rows
theorem Purse.upd {H : Hp} {p q : Addr} {t : Int} {o : HO} (h : Purse H p t) (n : p ≠ q) : Purse (upd H q o) p t := by
  obtain ⟨g, b, z, e, r⟩ := h; exact ⟨g, b, z, by rw [upd_ne n]; exact e, r⟩
theorem Purse.some {H : Hp} {p : Addr} {t : Int} (h : Purse H p t) : ∃ o, H p = some o := by
  obtain ⟨g, b, z, e, _⟩ := h; exact ⟨_, e⟩
/-- all that was tracked is as it was, but at p -/
def But (p : Addr) (H H' : Hp) : Prop := ∀ b o, b ≠ p → H b = some o → H' b = some o
theorem But.refl (p : Addr) (H : Hp) : But p H H := fun _ _ _ h => h
theorem But.upd (p : Addr) (H : Hp) (o : HO) : But p H (upd H p o) := fun b u n h => by rw [upd_ne n]; exact h
theorem But.trans {p : Addr} {H H1 H2 : Hp} (a : But p H H1) (b : But p H1 H2) : But p H H2 := fun c o n h => b c o n (a c o n h)
theorem But.of {p : Addr} {H H' : Hp} (s : Same H H') : But p H H' := fun b o _ h => s b o h
theorem Same.new {H : Hp} {a : Addr} {o : HO} (n : H a = none) : Same H (L2.upd H a o) := fun b u e => by rw [upd_ne (ne_of_none e n)]; exact e
def spPurses (K : PySem.W.Frag) : Sp := fun vs H Q _ => ∃ (a : Addr) (ns : List Int) (few : Int), vs = [.ref a, .int few] ∧ SqL K H a (ns.map V.int) ∧ ns.length ≤ 63 ∧ 1 ≤ few ∧ few ≤ 60 ∧
  ∀ (H' : Hp) (L : Addr) (ps : List Addr), Same H H' → H L = none → H' L = some (.lst (ps.map V.ref)) → (∀ p ∈ ps, H p = none ∧ Purse H' p 0) → ps.Nodup → L ∉ ps → ps.length ≤ 63 → Q (.ref L) H'
def spOneOf : Sp := fun vs H Q _ => ∃ (p L : Addr) (xs : List V) (t : Int), vs = [.ref p, .ref L] ∧ Purse H p t ∧ H L = some (.lst xs) ∧ L ≠ p ∧ 1 ≤ xs.length ∧ xs.length < 2 ^ 20 ∧ t < 2 ^ 30 ∧
  ∀ (i : Nat) (v : V) (t' : Int) (o : HO), xs[i]? = some v → t' ≤ t + 1 → Purse (L2.upd H p o) p t' → Q v (L2.upd H p o)
def spWord : Sp := fun vs H Q _ => ∃ (p : Addr) (t : Int), vs = [.ref p] ∧ Purse H p t ∧ t < 2 ^ 29 ∧
  ∀ (x : Str) (H' : Hp) (t' : Int), 1 ≤ x.length → x.length ≤ 8 → (∀ c ∈ x.cps.toList, 97 ≤ c ∧ c ≤ 122) → But p H H' → Purse H' p t' → t' ≤ t + 10 → Q (.str x) H'
section
variable {P : Program} {w : World} {K : PySem.W.Frag} {mg : Str → Option Value} {base : Heap}
theorem scPs : FnScope ["_law_script", "_law_few", "_law_at"] ["_law_script", "_law_few"] (defScope sPurses) := ⟨rfl, rfl, rfl, by decide +kernel, rfl, by decide +kernel, by decide +kernel⟩
theorem ok_purses {f fP : Addr} {fd fdP : FuncData} (F : Fun K "_law_purses" "_law_purses" sPurses f fd) (T : Free mg) (FP : Fun K "_law_purse" "_law_purse" sPurse fP fdP) (bP : Binds K fdP ["_law_script", "_law_at"] []) (gP : mg "_law_purse" = some (.ref fP)) :
    FnOk P w K mg base CX0 2 f fd ["_law_script", "_law_few"] (spPurses K) := by
  have GP : FnOk P w K mg base CX0 1 fP fdP ["_law_script", "_law_at"] (spPurse K) := ok_purse FP T
  refine F.ok scPs (fun vs H Q E h => ?_) (fun cdv A outer s H vs Q E hr h => ?_)
  · obtain ⟨a, ns, few, rfl, _⟩ := h; rfl
  · obtain ⟨a, ns, few, rfl, hS, l63, f1, f2, k⟩ := h
    refine ⟨_, pss_one (ps_ret (pe_lc (own := [("_law_at", 2)]) (g := gName 2) (tt := tYes) rfl scPs.nd
      (pi_range1 rfl T.range (pa_cons (pe_callB (call_max2 rfl) (by rfl) T.max (by decide +kernel) (pa_cons pe_int (pa_cons (pe_callB (call_min2 rfl) (by rfl) T.min (by decide +kernel) (pa_cons (pv 1) (pa_cons (pe_callB call_len_seq (by rfl) T.len PySem.boot_len (pa_cons (pv 0) pa_nil)) pa_nil))) pa_nil))) pa_nil))
      (blkOk_by (N := ["_law_script", "_law_few", "_law_at"]) (sc := defScope sPurses) (by decide +kernel)) (fun _ _ _ _ _ => pg_name (i := 2) scPs.nd rfl (Or.inl rfl)) (fun _ _ _ _ _ => pts_nil)
      (fun _ _ _ _ _ => pe_call GP (hr.mono (by decide)) rfl gP FP.kp bP .nil pass0 (pa_cons (pv 0) (pa_cons (pv 2) pa_nil))))), ?_⟩
    refine ⟨_, rfl, _, rfl, a, _, rfl, .inl hS, few, _, rfl, ?_⟩
    rw [List.length_map]
    generalize hm : (if (ns.length : Int) < few then (ns.length : Int) else few) = m
    have m0 : 0 ≤ m ∧ m ≤ 60 := by rw [← hm]; split <;> omega
    refine ⟨1, m, rfl, ?_⟩
    generalize hj : (if m > 1 then m else (1 : Int)) = j
    have j0 : 1 ≤ j ∧ j ≤ 60 := by rw [← hj]; split <;> omega
    refine ⟨j, rfl, by omega, by omega, fun D hD => ?_⟩
    refine lc_range (n := j.toNat) (fun i H' => ∃ ps : List Addr, ps.length = i ∧ Same H H' ∧ H' D = some (.lst (ps.map V.ref)) ∧ (∀ p ∈ ps, H p = none ∧ Purse H' p 0) ∧ ps.Nodup ∧ D ∉ ps)
      ⟨[], rfl, Same.new hD, upd_same, (fun p hp => by cases hp), List.nodup_nil, by simp⟩ ?_ ?_
    · rintro i H1 hi ⟨ps, lp, sm, hL, al, nd, nD⟩
      refine ⟨rfl, ?_⟩
      dsimp only [tYes]
      rw [if_pos rfl]
      refine ⟨_, rfl, _, rfl, a, ns, _, rfl, sm.seq hS, by omega, by omega, fun H2 p s2 np hp => ?_⟩
      have hD2 := s2 _ _ hL
      have npD : p ≠ D := fun e => by rw [e, hL] at np; cases np
      refine ⟨_, hD2, by rw [List.length_map, lp, sizeLine_eq]; omega, ps ++ [p], by rw [List.length_append, lp]; rfl, fun b o e => ?_, ?_, fun q hq => ?_, ?_, ?_⟩
      · rw [upd_ne (ne_of_none e hD)]; exact s2 _ _ (sm _ _ e)
      · rw [upd_same, List.map_append]; rfl
      · rcases List.mem_append.mp hq with hq | hq
        · obtain ⟨q0, qp⟩ := al q hq
          exact ⟨q0, (qp.same s2).upd fun e => nD (e ▸ hq)⟩
        · obtain rfl : q = p := by simpa using hq
          exact ⟨sm.free np, hp.upd npD⟩
      · refine List.nodup_append.mpr ⟨nd, by simp, fun x hx y hy e => ?_⟩
        obtain rfl : y = p := by simpa using hy
        obtain ⟨_, qp⟩ := al x hx
        obtain ⟨o, ho⟩ := qp.some
        rw [e, np] at ho; cases ho
      · intro z
        rcases List.mem_append.mp z with z | z
        · exact nD z
        · exact npD (by simpa using z : D = p).symm
    · rintro H1 ⟨ps, lp, sm, hL, al, nd, nD⟩
      exact k H1 D ps sm hD hL al nd nD (by omega)
theorem scO : FnScope ["_law_purse_here", "_law_some"] ["_law_purse_here", "_law_some"] (defScope sOneOf) := ⟨rfl, rfl, rfl, by decide +kernel, rfl, by decide +kernel, by decide +kernel⟩
theorem ok_oneof {f fD : Addr} {fd fdD : FuncData} (F : Fun K "_law_one_of" "_law_one_of" sOneOf f fd) (T : Free mg) (kD : PySem.W.keepIn K (.ref fD) = true) (GD : FnOk P w K mg base CX0 2 fD fdD ["_law_purse_here", "_law_many"] spDraw) (bD : Binds K fdD ["_law_purse_here", "_law_many"] []) (gD : mg "_law_draw" = some (.ref fD)) :
    FnOk P w K mg base CX0 3 f fd ["_law_purse_here", "_law_some"] spOneOf := by
  refine F.ok scO (fun vs H Q E h => ?_) (fun cdv A outer s H vs Q E hr h => ?_)
  · obtain ⟨p, L, xs, t, rfl, _⟩ := h; rfl
  · obtain ⟨p, L, xs, t, rfl, hp, hL, ne, l1, l2, t1, k⟩ := h
    refine ⟨_, pss_one (ps_ret (pe_ix ix_list (pv 1) (pe_call GD (hr.mono (by decide)) rfl gD kD bD .nil pass0 (pa_cons (pv 0) (pa_cons (pe_callB call_len_seq (by rfl) T.len PySem.boot_len (pa_cons (pv 1) pa_nil)) pa_nil))) (fun _ _ => rfl))), ?_⟩
    refine ⟨_, rfl, _, rfl, _, rfl, L, _, rfl, .inl (SqL.of hL), p, _, t, rfl, hp, by omega, by omega, t1, fun r t' o r0 r1 tt hp' => ?_⟩
    have hr2 : r.toNat < xs.length := by omega
    refine ⟨L, xs, r, xs[r.toNat], rfl, rfl, SqL.of (by rw [upd_ne ne]; exact hL), at_of (j := r.toNat) (by omega) (List.getElem?_eq_getElem hr2), ?_⟩
    exact k r.toNat _ t' o (List.getElem?_eq_getElem hr2) tt hp'
/-- single letters -/
def Let (y : Str) : Prop := ∃ c, 97 ≤ c ∧ c ≤ 122 ∧ y = ⟨#[c]⟩
theorem joinL_nil : ∀ ys : List (List Nat), (∀ y ∈ ys, ∃ c, 97 ≤ c ∧ c ≤ 122 ∧ y = [c]) → (TL.joinL [] ys).length = ys.length ∧ ∀ c ∈ TL.joinL [] ys, 97 ≤ c ∧ c ≤ 122
  | [], _ => ⟨rfl, fun c h => by cases h⟩
  | [p], h => by
    obtain ⟨c, c1, c2, rfl⟩ := h p (List.mem_singleton.mpr rfl)
    exact ⟨rfl, fun d hd => by obtain rfl : d = c := List.mem_singleton.mp hd; exact ⟨c1, c2⟩⟩
  | p :: q :: r, h => by
    obtain ⟨c, c1, c2, rfl⟩ := h p List.mem_cons_self
    obtain ⟨l, m⟩ := joinL_nil (q :: r) fun y hy => h y (List.mem_cons_of_mem _ hy)
    show ([c] ++ ([] ++ TL.joinL [] (q :: r))).length = _ ∧ ∀ d ∈ ([c] ++ ([] ++ TL.joinL [] (q :: r))), _
    refine ⟨by rw [List.length_append, List.nil_append, l]; simp; omega, fun d hd => ?_⟩
    rcases List.mem_append.mp hd with hd | hd
    · obtain rfl : d = c := List.mem_singleton.mp hd; exact ⟨c1, c2⟩
    · exact m d (by simpa using hd)
theorem word_of {ys : List Str} (h : ∀ y ∈ ys, Let y) : (Txt.join "" ys).length = ys.length ∧ ∀ c ∈ (Txt.join "" ys).cps.toList, 97 ≤ c ∧ c ≤ 122 := by
  have e : (Txt.join "" ys).cps.toList = TL.joinL [] (ys.map TL.tl) := by rw [TL.join_eq]; exact TL.tl_join "" ys
  obtain ⟨a, b⟩ := joinL_nil (ys.map TL.tl) fun y hy => by
    obtain ⟨z, hz, rfl⟩ := List.mem_map.mp hy
    obtain ⟨c, c1, c2, rfl⟩ := h z hz
    exact ⟨c, c1, c2, rfl⟩
  rw [List.length_map] at a
  refine ⟨?_, fun c hc => b c (e ▸ hc)⟩
  show (Txt.join "" ys).cps.size = _
  rw [← Array.length_toList, e, a]
theorem abc_at (r : Int) (r0 : 0 ≤ r) (r1 : r < 26) : ∃ c, atI (Str.ofString "abcdefghijklmnopqrstuvwxyz").cps.toList r = some c ∧ 97 ≤ c ∧ c ≤ 122 := by
  have h : ∀ j : Fin 26, ∃ c, (Str.ofString "abcdefghijklmnopqrstuvwxyz").cps.toList[j.val]? = some c ∧ 97 ≤ c ∧ c ≤ 122 := by
    intro j
    refine ⟨97 + j.val, ?_, by omega, by omega⟩
    revert j
    decide +kernel
  obtain ⟨c, e, q⟩ := h ⟨r.toNat, by omega⟩
  refine ⟨c, ?_, q⟩
  rw [show r = ((r.toNat : Nat) : Int) by omega]
  exact atI_nat e
theorem scW : FnScope ["_law_purse_here", "_law_size", "_law_turn"] ["_law_purse_here"] (defScope sWord) := ⟨rfl, rfl, rfl, by decide +kernel, rfl, by decide +kernel, by decide +kernel⟩
theorem ok_word {f fD : Addr} {fd fdD : FuncData} (F : Fun K "_law_word" "_law_word" sWord f fd) (T : Free mg) (kD : PySem.W.keepIn K (.ref fD) = true) (GD : FnOk P w K mg base CX0 2 fD fdD ["_law_purse_here", "_law_many"] spDraw) (bD : Binds K fdD ["_law_purse_here", "_law_many"] []) (gD : mg "_law_draw" = some (.ref fD)) :
    FnOk P w K mg base CX0 3 f fd ["_law_purse_here"] spWord := by
  refine F.ok scW (fun vs H Q E h => ?_) (fun cdv A outer s H vs Q E hr h => ?_)
  · obtain ⟨p, t, rfl, _⟩ := h; rfl
  · obtain ⟨p, t, rfl, hp, t1, k⟩ := h
    refine ⟨_, pss_cons (ps_set (i := 1) scW.nd rfl (Or.inl rfl) (pe_op op_add pe_int (pe_call GD (hr.mono (by decide)) rfl gD kD bD .nil pass0 (pa_cons (pv 0) (pa_cons (pe_ifExp (pt_cmpR op_eq (pe_call GD (hr.mono (by decide)) rfl gD kD bD .nil pass0 (pa_cons (pv 0) (pa_cons pe_int pa_nil))) pe_int (nomark _)) pe_int pe_int) pa_nil)))))
      (pss_one (ps_ret (pe_join pe_str (pe_lc (own := [("_law_turn", 2)]) (g := gName 2) (tt := tYes) rfl scW.nd (pi_range1 rfl T.range (pa_cons (pv 1) pa_nil))
        (blkOk_by (N := ["_law_purse_here", "_law_size", "_law_turn"]) (sc := defScope sWord) (by decide +kernel)) (fun _ _ _ _ _ => pg_name (i := 2) scW.nd rfl (Or.inl rfl)) (fun _ _ _ _ _ => pts_nil)
        (fun _ _ _ _ _ => pe_ix ix_str pe_str (pe_call GD (hr.mono (by decide)) rfl gD kD bD .nil pass0 (pa_cons (pv 0) (pa_cons pe_int pa_nil))) (fun _ _ => rfl)))))), ?_⟩
    refine ⟨_, rfl, _, rfl, p, 3, t, rfl, hp, by decide, by decide, by omega, fun r1 t2 o1 r10 r11 tt1 hp1 => ?_⟩
    refine ⟨rfl, _, rfl, ?_⟩
    refine ite2 (fun _ => ?_) (fun _ => ?_) <;> refine ⟨p, _, t2, rfl, hp1, by decide, by decide, by omega, fun r2 t3 o2 r20 r21 tt2 hp2 => ⟨_, _, rfl, rfl, ?_⟩⟩
    all_goals
      have rb : r2 < 8 := by omega
      clear r21
      have bt : But p H (L2.upd (L2.upd H p o1) p o2) := (But.upd p H o1).trans (But.upd p _ o2)
      generalize L2.upd (L2.upd H p o1) p o2 = H0 at hp2 bt
      refine ⟨⟨_, rfl⟩, _, rfl, _, rfl, by omega, by omega, fun D hD => ?_⟩
      have nD : p ≠ D := by obtain ⟨o, ho⟩ := hp2.some; exact ne_of_none ho hD
      refine lc_range (n := (1 + r2).toNat) (fun i H' => ∃ ys : List Str, ys.length = i ∧ (∀ y ∈ ys, Let y) ∧ H' D = some (.lst (ys.map V.str)) ∧ But p H0 H' ∧ ∃ t', Purse H' p t' ∧ t' ≤ t + 2 + i) ⟨[], rfl, (fun y hy => by cases hy), upd_same, But.of (Same.new hD), t3, hp2.upd nD, by omega⟩ ?_ ?_
      · rintro i H1 hi ⟨ys, ly, al, hL, b1, t', hp', tl'⟩
        refine ⟨rfl, ?_⟩
        dsimp only [tYes]
        rw [if_pos rfl]
        refine ⟨_, rfl, p, 26, t', rfl, hp', by decide, by decide, by omega, fun r t4 o r0 r1 tt hp4 => ?_⟩
        obtain ⟨c, ec, c1, c2⟩ := abc_at r r0 r1
        refine ⟨_, r, c, rfl, rfl, by decide +kernel, ec, _, by rw [upd_ne nD.symm]; exact hL, by rw [List.length_map, ly, sizeLine_eq]; omega, ys ++ [⟨#[c]⟩], by rw [List.length_append, ly]; rfl, fun y hy => ?_, ?_, ?_, t4, hp4.upd nD, by omega⟩
        · rcases List.mem_append.mp hy with hy | hy
          · exact al y hy
          · exact ⟨c, c1, c2, by simpa using hy⟩
        · rw [upd_same, List.map_append]; rfl
        · intro b u nb e
          have nbD : b ≠ D := ne_of_none e hD
          rw [upd_ne nbD, upd_ne nb]; exact b1 b u nb e
      · rintro H1 ⟨ys, ly, al, hL, b1, t', hp', tl'⟩
        obtain ⟨lw, cw⟩ := word_of al
        refine ⟨_, D, ys, rfl, rfl, .inl (SqL.of hL), ?_, ?_⟩
        · have one : (ys.map (·.length)).sum ≤ ys.length := by
            clear lw cw hL ly
            induction ys with
            | nil => exact Nat.le_refl _
            | cons y r ih =>
              obtain ⟨c, _, _, rfl⟩ := al y List.mem_cons_self
              have := ih fun z hz => al z (List.mem_cons_of_mem _ hz)
              simp only [List.map_cons, List.sum_cons, List.length_cons]
              show 1 + _ ≤ _
              omega
          have z0 : (Str.ofString "").length = 0 := rfl
          rw [z0]; omega
        · exact k _ H1 t' (by rw [lw]; omega) (by rw [lw]; omega) cw (bt.trans b1) hp' (by omega)
end
end D1
end L2
namespace L2
namespace X1
open PySem PySem.Spec PyProof.Rows
/-- __init__(self, value): what stands on the new exception -/
def spInit (C : Addr) : Sp := fun vs H Q _ => ∃ (a : Addr) (v : V), vs = [.ref a, v] ∧ H a = some (exo a C none) ∧ ∀ d, H d = none → d ≠ a → Q .non (upd (upd H d (exd d [(("value" : Str), v)])) a (exo a C (some d)))
/-- a class of the program with that __init__ -/
structure Ini (P : Program) (w : World) (K : PySem.W.Frag) (mg : Str → Option Value) (base : Heap) (x : Str) (C : Addr) : Prop where
  gC : mg x = some (.ref C)
  xf : XF K C
  made : ∃ (fI : Addr) (fd : FuncData) (ds : List Value), PySem.W.findIn K (.ref C) "__init__" = some (some (.ref fI)) ∧ PySem.W.typeIn K (.ref fI) = some (.type "function") ∧
    FnOk P w K mg base CX0 1 fI fd ["self", "value"] (spInit C) ∧ Binds K fd ["self", "value"] [] ∧ Vals [.non] ds ∧ Binds K fd ["self", "value"] ds ∧
    ∀ (s : Shared) (e u : Value), K.In s.heap → BindsTo s fd ⟨[e], [(("value" : Str), u)]⟩ ((["self", "value"] : List Str).zip [e, u])
section
variable {X : Cx} {pins : List (Addr × Obj)} {σ : St} {H : Hp} {s : Shared}
/-- what is known behind C(..): a new exception that holds v -/
theorem made_ends {C a : Addr} {v : V} {H1 : Hp} {Q : VK} (n1 : H1 a = none) (q : ∀ a H', Same H1 H' → ExcAt H' a C v → Q (.ref a) H') :
    spInit C [.ref a, v] (upd H1 a (exo a C none)) (fun u H2 => u = .non ∧ Q (.ref a) H2) (fun _ _ _ => False) := by
  refine ⟨a, v, rfl, upd_same, fun d nd da => ⟨rfl, q a _ (fun b o e => ?_) ⟨d, upd_same, by rw [upd_ne da]; exact upd_same⟩⟩⟩
  have nd1 : H1 d = none := by rw [upd_ne da] at nd; exact nd
  rw [upd_ne (ne_of_none e n1), upd_ne (ne_of_none e nd1), upd_ne (ne_of_none e n1)]; exact e
/-- C(e) -/
def tMk (C : Addr) (te : TE) : TE := fun σ H Q => te σ H fun v H1 => ∀ a H', Same H1 H' → ExcAt H' a C v → Q (.ref a) H'
theorem pe_mk1 {x : Str} {C : Addr} {e : Expr} {te : TE} {p pos : Pos} (I : Ini X.prog X.w X.K X.mg X.base x C) (hr : Room 2 X.A) (he : PE X e te) (hg : Gl X x := by rfl) (hdb : (x == ("__debug__" : Str)) = false := by decide)
    (h1 : starEach [e] X.env = (false, eval e X.env) :: starEach [] X.env := by rfl) (h2 : (backTo pos (starEach [] X.env)).any (·.1) = false := by rfl) : PE X (.Call (.Name x p) [e] [] pos) (tMk C te) := by
  obtain ⟨fI, fd, ds, iC, tI, F1, b1, rd, b0, bk⟩ := I.made
  refine ⟨fun pins s σ H Q J h => wpAny_Call_Name_kw (ld_glob J hg I.gC ?_ hdb)⟩
  refine PySem.W.callWith_K (h₀ := X.base) J.ok.mod.kin I.xf.ox.kC ?_ h1 h2
  rw [h1]; show wpAny _ _ (spliced ((false, eval e X.env) :: backTo pos (starEach [] X.env))) _ _ s
  refine Calls.spliced_cons (thn (he.run pins s σ H _ J h) fun u s1 ⟨v, H1, J1, r, hh⟩ => Calls.spliced_nil ⟨J1.kIn, ?_⟩)
  exact mkx_run (kw := []) (us := [u]) (bs := [u]) (vs := [v]) I.xf.ox iC tI F1 hr pass0 J1 (by show 1 ≤ sizeLine; rw [sizeLine_eq]; omega) (.cons r .nil) (fun s' e' K' => b1 s' [.ref e', u] K' rfl) fun a n1 => made_ends n1 hh
/-- C() -/
def tMk0 (C : Addr) : TE := fun _ H Q => ∀ a H', Same H H' → ExcAt H' a C .non → Q (.ref a) H'
theorem pe_mk0 {x : Str} {C : Addr} {p pos : Pos} (I : Ini X.prog X.w X.K X.mg X.base x C) (hr : Room 2 X.A) (hg : Gl X x := by rfl) (hdb : (x == ("__debug__" : Str)) = false := by decide) : PE X (.Call (.Name x p) [] [] pos) (tMk0 C) := by
  obtain ⟨fI, fd, ds, iC, tI, F1, b1, rd, b0, bk⟩ := I.made
  refine ⟨fun pins s σ H Q J h => wpAny_Call_Name_kw (ld_glob J hg I.gC ?_ hdb)⟩
  refine PySem.W.callWith_K0 J.kIn I.xf.ox.kC ?_
  exact mkx_run (kw := []) (us := []) (bs := ds) (vs := [.non]) I.xf.ox iC tI F1 hr pass0 J (by show 0 ≤ sizeLine; omega) rd (fun s' e' K' => b0 s' [.ref e'] K' (by rw [List.length_append, ← rd.length]; rfl)) fun a n1 => made_ends n1 h
/-- C(value=e) -/
theorem pe_mkK {x : Str} {C : Addr} {e : Expr} {te : TE} {p pos kp : Pos} (I : Ini X.prog X.w X.K X.mg X.base x C) (hr : Room 2 X.A) (he : PE X e te) (hg : Gl X x := by rfl) (hdb : (x == ("__debug__" : Str)) = false := by decide)
    (h1 : (backToKw pos (keywordEach [⟨some "value", e, kp⟩] X.env)).all (·.1.isSome) = true := by rfl) (h2 : (backToKw pos (keywordEach [⟨some "value", e, kp⟩] X.env)).filterMap (·.1) = [("value" : Str)] := by rfl)
    (h3 : ((backTo pos (starEach [] X.env)).any (·.1) || (backToKw pos (keywordEach [⟨some "value", e, kp⟩] X.env)).any (·.1.isNone)) = false := by rfl) : PE X (.Call (.Name x p) [] [⟨some "value", e, kp⟩] pos) (tMk C te) := by
  obtain ⟨fI, fd, ds, iC, tI, F1, b1, rd, b0, bk⟩ := I.made
  refine ⟨fun pins s σ H Q J h => wpAny_Call_Name_kw (ld_glob J hg I.gC ?_ hdb)⟩
  refine PySem.W.callWith_KW0 (h₀ := X.base) J.ok.mod.kin I.xf.ox.kC h1 ?_ h3
  rw [h2]; show wpAny _ _ (evalAll [(do let v ← eval e X.env; standAt pos; pure v)]) _ _ s
  refine wpAny_evalAll_cons (wpAny_bind (thn (he.run pins s σ H _ J h) fun u s1 ⟨v, H1, J1, r, hh⟩ => wpAny_bind (wpAny_standAt (wpAny_pure (wpAny_evalAll_nil ⟨J1.kIn, ?_⟩)))))
  exact mkx_run (kw := [(("value" : Str), u)]) (us := []) (bs := [u]) (vs := [v]) I.xf.ox iC tI F1 hr pass0 J1 (by show 0 ≤ sizeLine; omega) (.cons r .nil) (fun s' e' K' => bk s' _ u K') fun a n1 => made_ends n1 hh
/-- lists of such -/
def tMks (te : TE) (Cs : List Addr) : TA := fun σ H Q => te σ H fun v H0 => ∀ as H', Same H0 H' → Paired (fun C a => ExcAt H' a C v) Cs as → Q (as.map V.ref) H'
/-- what reads a slot alone -/
theorem pa_mknil {i : Nat} : PA X [] (tMks (tVar i) []) := ⟨fun pos pins s σ H Q J h => by
  obtain ⟨v, e, q⟩ := h
  exact pa_nil.run pos pins s σ H Q J (q [] H (Same.refl H) .nil)⟩
theorem pa_mkcons {i : Nat} {C : Addr} {Cs : List Addr} {e : Expr} {es : List Expr} (he : PE X e (tMk C (tVar i))) (hr : PA X es (tMks (tVar i) Cs)) (hs : starEach (e :: es) X.env = (false, eval e X.env) :: starEach es X.env := by rfl) :
    PA X (e :: es) (tMks (tVar i) (C :: Cs)) := ⟨fun pos pins s σ H Q J h => by
  obtain ⟨v, ev, q⟩ := h
  refine (pa_cons he hr hs).run pos pins s σ H Q J ⟨v, ev, fun a H1 s1 e1 => ⟨v, ev, fun as H2 s2 e2 => ?_⟩⟩
  exact q (a :: as) H2 (s1.trans s2) (.cons (e1.same s2) e2)⟩
def tMks0 (Cs : List Addr) : TA := fun σ H Q => ∀ as H', Same H H' → Paired (fun C a => ExcAt H' a C .non) Cs as → Q (as.map V.ref) H'
theorem pa_mk0nil : PA X [] (tMks0 []) := ⟨fun pos pins s σ H Q J h => pa_nil.run pos pins s σ H Q J (h [] H (Same.refl H) .nil)⟩
theorem pa_mk0cons {C : Addr} {Cs : List Addr} {e : Expr} {es : List Expr} (he : PE X e (tMk0 C)) (hr : PA X es (tMks0 Cs)) (hs : starEach (e :: es) X.env = (false, eval e X.env) :: starEach es X.env := by rfl) :
    PA X (e :: es) (tMks0 (C :: Cs)) := ⟨fun pos pins s σ H Q J h => by
  refine (pa_cons he hr hs).run pos pins s σ H Q J (fun a H1 s1 e1 => fun as H2 s2 e2 => ?_)
  exact h (a :: as) H2 (s1.trans s2) (.cons (e1.same s2) e2)⟩
/-- X() of a class without __init__: an exception without a dict -/
theorem pe_exc0 {C : Addr} {bmB : List Value} {B newId initId : String} {x : Str} {p pos : Pos} (F : ExcBaseFacts B newId initId bmB) (q : PySem.W.excIn X.K C bmB newId = true) (gC : X.mg x = some (.ref C)) (kC : PySem.W.keepIn X.K (.ref C) = true) (hg : Gl X x := by rfl)
    (hdb : (x == ("__debug__" : Str)) = false := by decide) : PE X (.Call (.Name x p) [] [] pos) (fun σ H Q => ∀ a, H a = none → Q (.ref a) (upd H a (ExO (.ref C) a))) := by
  refine ⟨fun pins s σ H Q J h => wpAny_Call_Name_kw (ld_glob J hg gC ?_ hdb)⟩
  refine PySem.W.callWith_K0 J.kIn kC ?_
  obtain ⟨bm, N, nm, qn, bs, hdct, sn, sub, ab, col, dd, k0, k1, k2, k3, k5, mN, hC, hN, hni, T⟩ := exc_obj J.kIn q
  refine wpAny_call_exc_subT F T hC hN hni (fun h' a hm => ?_) (by show 0 ≤ sizeLine; omega)
  have nw : H a = none := J.hok.gone hm.new
  obtain ⟨t, ht, _, _⟩ := hm.there
  exact ⟨.ref a, upd H a (ExO (.ref C) a), J.laidN hm.keeps hm.new nw (exO_ok ht ⟨rfl, rfl⟩ rfl rfl rfl (show 4 < 6 by decide)), rfl, h a nw⟩
/-- an exception of the class at C, with a field or without -/
def IsE (H : Hp) (a C : Addr) : Prop := (∃ v, ExcAt H a C v) ∨ H a = some (ExO (.ref C) a)
theorem IsE.same {H H' : Hp} {a C : Addr} (h : IsE H a C) (s : Same H H') : IsE H' a C := by
  rcases h with ⟨v, h⟩ | h
  · exact .inl ⟨v, h.same s⟩
  · exact .inr (s _ _ h)
theorem isE_look {a C : Addr} (I : Inv X pins σ H s) (h : IsE H a C) : ∃ (ox : Obj) (od : Option Obj), PySem.W.InstAt s.heap a ox C od := by
  rcases h with ⟨v, h⟩ | h
  · obtain ⟨ox, od, _, J, _⟩ := exc_look I h
    exact ⟨ox, some od, J⟩
  · have z : ObjOk X.prog X.w H s.heap a (ExO (.ref C) a) := I.hok a _ h
    obtain ⟨⟨oe, vs, e, ⟨c1, c2⟩, d, _⟩, _⟩ := z
    obtain ⟨oc, od, oda, osl⟩ := oe
    dsimp only at c1 c2 d
    subst c1 c2 d
    exact ⟨_, none, ⟨e, rfl, rfl, trivial⟩⟩
/-- isinstance(e, c) -/
def rIsE2 (K : PySem.W.Frag) : List V → Hp → VK → Prop := fun xs H Q => ∃ (a C : Addr) (c : V) (cv : Value) (b : Bool), xs = [.ref a, c] ∧ IsE H a C ∧ XF K C ∧ ClsV c cv ∧ PySem.W.kitOne K (.ref C) cv = some b ∧ Q (.bl b) H
theorem call_isE2 : CallR X (.builtin "isinstance") (rIsE2 X.K) := by
  intro pins s σ H xs us Q I r h
  obtain ⟨a, C, c, cv, b, rfl, ea, T, kc, e, q⟩ := h
  cases r with
  | cons rx rr =>
    cases rr with
    | cons rt rr =>
      cases rr
      cases rx
      have ec := kc.eq rt
      subst ec
      obtain ⟨ox, od, J⟩ := isE_look I ea
      exact PySem.W.kia_one (PySem.W.kitx_exc T.some T.ga T.gg T.ox.exC T.ca T.gs T.ss T.mo) I.kIn J e (fun z => nomatch z) fun tk => ⟨.bl b, H, I.kept (t' := tk) fun _ _ z => z, rfl, q⟩
end
end X1
end L2
namespace L2
namespace X1
open PySem PySem.Spec PyProof.Rows D1
def iArgs (p1 p2 p3 : Pos) : Arguments := { posonlyargs := [], args := [{ arg := "self", annotation := none, pos := p1 }, { arg := "value", annotation := none, pos := p2 }], vararg := none, kwonlyargs := [], kw_defaults := [], kwarg := none, defaults := [.Constant .none 0 p3] }
def iBody (q1 q2 q3 q4 : Pos) : List Stmt := [.Assign [.Attribute (.Name "self" q1) "value" q2] (.Name "value" q3) q4]
def iSc : Scope := { kind := .function, names := [(PySem.Str.ofString "self", .local), (PySem.Str.ofString "value", .local)], isGenerator := false, isCoroutine := false, more := [] }
/-- what the top has written of such a class -/
structure CF (K : PySem.W.Frag) (mg : Str → Option Value) (x : Str) (C : Addr) : Prop where
  gC : mg x = some (.ref C)
  xf : XF K C
  fn : ∃ (fI : Addr) (fd : FuncData) (p1 p2 p3 q1 q2 q3 q4 : Pos) (qn : Str), PySem.W.findIn K (.ref C) "__init__" = some (some (.ref fI)) ∧ PySem.W.typeIn K (.ref fI) = some (.type "function") ∧ FunD K "__init__" qn (iArgs p1 p2 p3) (iBody q1 q2 q3 q4) iSc [.non] [] fI fd
section
variable {P : Program} {w : World} {K : PySem.W.Frag} {mg : Str → Option Value} {base : Heap}
theorem scI : FnScope ["self", "value"] ["self", "value"] iSc := ⟨rfl, rfl, rfl, by decide +kernel, rfl, by decide +kernel, by decide +kernel⟩
theorem ok_init {C fI : Addr} {fd : FuncData} {p1 p2 p3 q1 q2 q3 q4 : Pos} {qn : Str} (xf : XF K C) (F : FunD K "__init__" qn (iArgs p1 p2 p3) (iBody q1 q2 q3 q4) iSc [.non] [] fI fd) : FnOk P w K mg base CX0 1 fI fd ["self", "value"] (spInit C) := by
  refine F.ok scI (fun vs H Q E h => ?_) (fun cdv A outer s H vs Q E hr h => ?_)
  · obtain ⟨a, v, rfl, _⟩ := h; rfl
  · obtain ⟨a, v, rfl, ha, k⟩ := h
    exact ⟨_, pss_one (ps_ost (pv 0) (pv 1)), _, rfl, _, rfl, a, C, rfl, xf.ox, xf.nV, .inl ⟨ha, fun d nd da => k d nd da⟩⟩
theorem CF.ini {x : Str} {C : Addr} (c : CF K mg x C) : Ini P w K mg base x C := by
  obtain ⟨fI, fd, p1, p2, p3, q1, q2, q3, q4, qn, iC, tI, F⟩ := c.fn
  obtain ⟨d1, r1, b1⟩ := F.binds1 (ps := ["self", "value"]) 2 1 (by simp) rfl fun T kV doc pm an cdv ct us its h1 h2 => match us, its, h1, h2 with | [_, _], [_], _, _ => ⟨_, rfl, rfl⟩
  obtain ⟨d0, r0, b0⟩ := F.binds1 (ps := ["self", "value"]) 1 0 (by simp) rfl fun T kV doc pm an cdv ct us its h1 h2 => match us, its, h1, h2 with | [_], [_], _, _ => ⟨_, rfl, rfl⟩
  obtain ⟨dk, bk⟩ := F.kbindsD (ps := ["self", "value"]) 1 ["value"] (fun us _ ws => us ++ ws) (by simp) (fun a _ c => a.append c) fun T kV doc pm an cdv ct us its ws h1 h2 h3 => match us, its, ws, h1, h2, h3 with | [_], [_], [_], _, _, _ => ⟨_, rfl, rfl⟩
  have e1 : d1 = [] := Vals.zero r1
  subst e1
  exact ⟨c.gC, c.xf, fI, fd, d0, iC, tI, ok_init c.xf F, b1, r0, b0, fun s e u hK => bk.to s [e] [u] hK rfl rfl⟩
end
theorem same_new {H : Hp} {a : Addr} {o : HO} (n : H a = none) : Same H (upd H a o) := fun b u e => by rw [upd_ne (ne_of_none e n)]; exact e
theorem pair_app {α β : Type} {F : α → β → Prop} : ∀ {a c : List α} {b d : List β}, Paired F a b → Paired F c d → Paired F (a ++ c) (b ++ d)
  | _, _, _, _, .nil, h => h
  | _, _, _, _, .cons x t, h => .cons x (pair_app t h)
theorem pair_at {α β : Type} {F : α → β → Prop} : ∀ {a : List α} {b : List β}, Paired F a b → ∀ (j : Nat) (x : α) (y : β), a[j]? = some x → b[j]? = some y → F x y
  | _, _, .nil, j, x, y, h, _ => by simp at h
  | _, _, .cons q t, 0, x, y, h, h' => by simp at h h'; subst h h'; exact q
  | _, _, .cons q t, j + 1, x, y, h, h' => pair_at t j x y (by simpa using h) (by simpa using h')
/-- found = [C(..), ..] -/
theorem lst_step {H0 H : Hp} {σ : St} {v : V} {i : Nat} {Ds : List Addr} {t : TA} {D : Ends} (ht : ∀ H Q, (∀ as H', Same H H' → Paired (fun C a => ExcAt H' a C v) Ds as → Q (as.map V.ref) H') → t σ H Q) (s0 : Same H0 H) (hl : Ds.length ≤ 1000)
    (k : ∀ (p : Addr) (as : List Addr) (H' : Hp), Same H0 H' → H0 p = none → H' p = some (.lst (as.map V.ref)) → Paired (fun C a => ExcAt H' a C v) Ds as → D.nx (σ.set i (some (.ref p))) H') : tAsg (tLst t) (gName i) D σ H := by
  refine ht H _ fun as H1 s1 e1 => ⟨?_, fun p np => ?_⟩
  · rw [List.length_map, ← Paired.length e1, sizeLine_eq]; omega
  · have sn : Same H1 (upd H1 p (.lst (as.map V.ref))) := same_new np
    exact k p as _ ((s0.trans s1).trans sn) ((s0.trans s1).free np) upd_same (Paired.mono (fun _ _ z => z.same sn) e1)
/-- found = found + [C(..), ..] -/
theorem cat_step {H0 H : Hp} {σ : St} {v : V} {i : Nat} {p : Addr} {as : List Addr} {Cs Ds : List Addr} {t : TA} {D : Ends} (h1 : σ[i]? = some (some (.ref p))) (ht : ∀ H Q, (∀ as H', Same H H' → Paired (fun C a => ExcAt H' a C v) Ds as → Q (as.map V.ref) H') → t σ H Q)
    (s0 : Same H0 H) (hp : H p = some (.lst (as.map V.ref))) (hE : Paired (fun C a => ExcAt H a C v) Cs as) (hl : Cs.length + Ds.length ≤ 1000)
    (k : ∀ (p' : Addr) (bs : List Addr) (H' : Hp), Same H0 H' → H0 p' = none → H' p' = some (.lst (bs.map V.ref)) → Paired (fun C a => ExcAt H' a C v) (Cs ++ Ds) bs → D.nx (σ.set i (some (.ref p'))) H') : tAsg (tOp rCat (tVar i) (tLst t)) (gName i) D σ H := by
  have la : as.length = Cs.length := (Paired.length hE).symm
  refine ⟨_, h1, ht H _ fun bs H1 s1 e1 => ⟨?_, fun q nq => ?_⟩⟩
  · rw [List.length_map, ← Paired.length e1, sizeLine_eq]; omega
  · have lb : bs.length = Ds.length := (Paired.length e1).symm
    have sq : Same H1 (upd H1 q (.lst (bs.map V.ref))) := same_new nq
    refine ⟨p, q, _, _, rfl, rfl, sq _ _ (s1 _ _ hp), upd_same, by rw [List.length_map, List.length_map, sizeLine_eq]; omega, fun r nr => ?_⟩
    have sr : Same (upd H1 q (.lst (bs.map V.ref))) (upd (upd H1 q (.lst (bs.map V.ref))) r (.lst (as.map V.ref ++ bs.map V.ref))) := same_new nr
    have s2 := ((s0.trans s1).trans sq).trans sr
    refine k r (as ++ bs) _ s2 (((s0.trans s1).trans sq).free nr) (by rw [upd_same, List.map_append]) (pair_app (Paired.mono (fun _ _ z => ((z.same s1).same sq).same sr) hE) (Paired.mono (fun _ _ z => (z.same sq).same sr) e1))
end X1
end L2
namespace L2
namespace X1
open PySem PySem.Spec PyProof.Rows D1
def nmL : List Str := ["InvalidWord", "InvalidBook", "InvalidState", "InvalidDesk", "InvalidDesks", "InvalidNames", "InvalidChange", "InvalidChanges", "InvalidTalk", "InvalidPair", "InvalidLot", "InvalidWords", "InvalidCount", "InvalidLevels", "InvalidPartner", "InvalidScene", "InvalidDeeds", "InvalidArms", "InvalidFrame", "InvalidHall", "InvalidSpot", "InvalidScript", "InvalidText", "InvalidLog", "Hopeless", "Refused", "NothingToUndo", "NothingToRedo", "DeskError"]
def nm (j : Nat) : Str := nmL.getD j ""
def clsL (C : Nat → Addr) : List Addr := [C 0, C 1, C 2, C 3, C 4, C 5, C 6, C 7, C 8, C 9, C 10, C 11, C 12, C 13, C 14, C 15, C 16, C 17, C 18, C 19, C 20, C 21, C 22, C 23, C 24, C 25]
def Errs (C : Nat → Addr) (H : Hp) (as : List Addr) (v : V) : Prop := Paired (fun c a => ExcAt H a c v) (clsL C) as
def spMks (C : Nat → Addr) : Sp := fun vs H Q _ => ∃ v, vs = [v] ∧ ∀ (L : Addr) (as : List Addr) (H' : Hp), Same H H' → H L = none → H' L = some (.lst (as.map V.ref)) → Errs C H' as v → Q (.ref L) H'
def spMks0 (C : Nat → Addr) : Sp := fun vs H Q _ => vs = [] ∧ ∀ (L : Addr) (as : List Addr) (H' : Hp), Same H H' → H L = none → H' L = some (.lst (as.map V.ref)) → Errs C H' as .non → Q (.ref L) H'
section
variable {P : Program} {w : World} {K : PySem.W.Frag} {mg : Str → Option Value} {base : Heap} {C : Nat → Addr}
abbrev s_first : Stmt := top 37
theorem sc_first : FnScope ["_law_thing", "_law_found"] ["_law_thing"] (defScope s_first) := ⟨rfl, rfl, rfl, by decide +kernel, rfl, by decide +kernel, by decide +kernel⟩
theorem ok_first {f : Addr} {fd : FuncData} (F : Fun K "_law_first" "_law_first" s_first f fd) (I : ∀ j, j < 26 → Ini P w K mg base (nm j) (C j)) : FnOk P w K mg base CX0 3 f fd ["_law_thing"] (spMks C) := by
  refine F.ok sc_first (fun vs H Q E h => ?_) (fun cdv A outer s H vs Q E hr h => ?_)
  · obtain ⟨v, rfl, _⟩ := h; rfl
  · obtain ⟨v, rfl, k⟩ := h
    refine ⟨_, (pss_cons (ps_set (i := 1) sc_first.nd rfl (Or.inl rfl) (pe_lst (pa_mkcons (pe_mk1 (I 0 (by decide)) hr (pv 0)) (pa_mkcons (pe_mk1 (I 1 (by decide)) hr (pv 0)) (pa_mkcons (pe_mk1 (I 2 (by decide)) hr (pv 0)) (pa_mkcons (pe_mk1 (I 3 (by decide)) hr (pv 0)) (pa_mkcons (pe_mk1 (I 4 (by decide)) hr (pv 0)) pa_mknil)))))))
        (pss_cons (ps_set (i := 1) sc_first.nd rfl (Or.inl rfl) (pe_op op_cat (pv 1) (pe_lst (pa_mkcons (pe_mk1 (I 5 (by decide)) hr (pv 0)) (pa_mkcons (pe_mk1 (I 6 (by decide)) hr (pv 0)) (pa_mkcons (pe_mk1 (I 7 (by decide)) hr (pv 0)) (pa_mkcons (pe_mk1 (I 8 (by decide)) hr (pv 0)) pa_mknil)))))))
        (pss_cons (ps_set (i := 1) sc_first.nd rfl (Or.inl rfl) (pe_op op_cat (pv 1) (pe_lst (pa_mkcons (pe_mk1 (I 9 (by decide)) hr (pv 0)) (pa_mkcons (pe_mk1 (I 10 (by decide)) hr (pv 0)) (pa_mkcons (pe_mk1 (I 11 (by decide)) hr (pv 0)) (pa_mkcons (pe_mk1 (I 12 (by decide)) hr (pv 0)) pa_mknil)))))))
        (pss_cons (ps_set (i := 1) sc_first.nd rfl (Or.inl rfl) (pe_op op_cat (pv 1) (pe_lst (pa_mkcons (pe_mk1 (I 13 (by decide)) hr (pv 0)) (pa_mkcons (pe_mk1 (I 14 (by decide)) hr (pv 0)) (pa_mkcons (pe_mk1 (I 15 (by decide)) hr (pv 0)) (pa_mkcons (pe_mk1 (I 16 (by decide)) hr (pv 0)) pa_mknil)))))))
        (pss_cons (ps_set (i := 1) sc_first.nd rfl (Or.inl rfl) (pe_op op_cat (pv 1) (pe_lst (pa_mkcons (pe_mk1 (I 17 (by decide)) hr (pv 0)) (pa_mkcons (pe_mk1 (I 18 (by decide)) hr (pv 0)) (pa_mkcons (pe_mk1 (I 19 (by decide)) hr (pv 0)) (pa_mkcons (pe_mk1 (I 20 (by decide)) hr (pv 0)) pa_mknil)))))))
        (pss_cons (ps_set (i := 1) sc_first.nd rfl (Or.inl rfl) (pe_op op_cat (pv 1) (pe_lst (pa_mkcons (pe_mk1 (I 21 (by decide)) hr (pv 0)) (pa_mkcons (pe_mk1 (I 22 (by decide)) hr (pv 0)) (pa_mkcons (pe_mk1 (I 23 (by decide)) hr (pv 0)) (pa_mkcons (pe_mk1 (I 24 (by decide)) hr (pv 0)) (pa_mkcons (pe_mk1 (I 25 (by decide)) hr (pv 0)) pa_mknil))))))))
        (pss_one (ps_ret (pv 1))))))))), ?_⟩
    refine lst_step (v := v) (fun H Q q => ⟨v, rfl, q⟩) (Same.refl H) (Nat.le_of_ble_eq_true rfl) fun p0 as0 H0 s0 n0 h0 e0 => ?_
    refine cat_step (v := v) rfl (fun H Q q => ⟨v, rfl, q⟩) s0 h0 e0 (Nat.le_of_ble_eq_true rfl) fun p1 as1 H1 s1 n1 h1 e1 => ?_
    refine cat_step (v := v) rfl (fun H Q q => ⟨v, rfl, q⟩) s1 h1 e1 (Nat.le_of_ble_eq_true rfl) fun p2 as2 H2 s2 n2 h2 e2 => ?_
    refine cat_step (v := v) rfl (fun H Q q => ⟨v, rfl, q⟩) s2 h2 e2 (Nat.le_of_ble_eq_true rfl) fun p3 as3 H3 s3 n3 h3 e3 => ?_
    refine cat_step (v := v) rfl (fun H Q q => ⟨v, rfl, q⟩) s3 h3 e3 (Nat.le_of_ble_eq_true rfl) fun p4 as4 H4 s4 n4 h4 e4 => ?_
    refine cat_step (v := v) rfl (fun H Q q => ⟨v, rfl, q⟩) s4 h4 e4 (Nat.le_of_ble_eq_true rfl) fun p5 as5 H5 s5 n5 h5 e5 => ?_
    exact ⟨_, rfl, k p5 as5 H5 s5 n5 h5 e5⟩
abbrev s_called : Stmt := top 38
theorem sc_called : FnScope ["_law_thing", "_law_found"] ["_law_thing"] (defScope s_called) := ⟨rfl, rfl, rfl, by decide +kernel, rfl, by decide +kernel, by decide +kernel⟩
theorem ok_called {f : Addr} {fd : FuncData} (F : Fun K "_law_called" "_law_called" s_called f fd) (I : ∀ j, j < 26 → Ini P w K mg base (nm j) (C j)) : FnOk P w K mg base CX0 3 f fd ["_law_thing"] (spMks C) := by
  refine F.ok sc_called (fun vs H Q E h => ?_) (fun cdv A outer s H vs Q E hr h => ?_)
  · obtain ⟨v, rfl, _⟩ := h; rfl
  · obtain ⟨v, rfl, k⟩ := h
    refine ⟨_, (pss_cons (ps_set (i := 1) sc_called.nd rfl (Or.inl rfl) (pe_lst (pa_mkcons (pe_mkK (I 0 (by decide)) hr (pv 0)) (pa_mkcons (pe_mkK (I 1 (by decide)) hr (pv 0)) (pa_mkcons (pe_mkK (I 2 (by decide)) hr (pv 0)) pa_mknil)))))
        (pss_cons (ps_set (i := 1) sc_called.nd rfl (Or.inl rfl) (pe_op op_cat (pv 1) (pe_lst (pa_mkcons (pe_mkK (I 3 (by decide)) hr (pv 0)) (pa_mkcons (pe_mkK (I 4 (by decide)) hr (pv 0)) (pa_mkcons (pe_mkK (I 5 (by decide)) hr (pv 0)) pa_mknil))))))
        (pss_cons (ps_set (i := 1) sc_called.nd rfl (Or.inl rfl) (pe_op op_cat (pv 1) (pe_lst (pa_mkcons (pe_mkK (I 6 (by decide)) hr (pv 0)) (pa_mkcons (pe_mkK (I 7 (by decide)) hr (pv 0)) (pa_mkcons (pe_mkK (I 8 (by decide)) hr (pv 0)) pa_mknil))))))
        (pss_cons (ps_set (i := 1) sc_called.nd rfl (Or.inl rfl) (pe_op op_cat (pv 1) (pe_lst (pa_mkcons (pe_mkK (I 9 (by decide)) hr (pv 0)) (pa_mkcons (pe_mkK (I 10 (by decide)) hr (pv 0)) (pa_mkcons (pe_mkK (I 11 (by decide)) hr (pv 0)) pa_mknil))))))
        (pss_cons (ps_set (i := 1) sc_called.nd rfl (Or.inl rfl) (pe_op op_cat (pv 1) (pe_lst (pa_mkcons (pe_mkK (I 12 (by decide)) hr (pv 0)) (pa_mkcons (pe_mkK (I 13 (by decide)) hr (pv 0)) (pa_mkcons (pe_mkK (I 14 (by decide)) hr (pv 0)) pa_mknil))))))
        (pss_cons (ps_set (i := 1) sc_called.nd rfl (Or.inl rfl) (pe_op op_cat (pv 1) (pe_lst (pa_mkcons (pe_mkK (I 15 (by decide)) hr (pv 0)) (pa_mkcons (pe_mkK (I 16 (by decide)) hr (pv 0)) (pa_mkcons (pe_mkK (I 17 (by decide)) hr (pv 0)) pa_mknil))))))
        (pss_cons (ps_set (i := 1) sc_called.nd rfl (Or.inl rfl) (pe_op op_cat (pv 1) (pe_lst (pa_mkcons (pe_mkK (I 18 (by decide)) hr (pv 0)) (pa_mkcons (pe_mkK (I 19 (by decide)) hr (pv 0)) (pa_mkcons (pe_mkK (I 20 (by decide)) hr (pv 0)) pa_mknil))))))
        (pss_cons (ps_set (i := 1) sc_called.nd rfl (Or.inl rfl) (pe_op op_cat (pv 1) (pe_lst (pa_mkcons (pe_mkK (I 21 (by decide)) hr (pv 0)) (pa_mkcons (pe_mkK (I 22 (by decide)) hr (pv 0)) (pa_mkcons (pe_mkK (I 23 (by decide)) hr (pv 0)) pa_mknil))))))
        (pss_cons (ps_set (i := 1) sc_called.nd rfl (Or.inl rfl) (pe_op op_cat (pv 1) (pe_lst (pa_mkcons (pe_mkK (I 24 (by decide)) hr (pv 0)) (pa_mkcons (pe_mkK (I 25 (by decide)) hr (pv 0)) pa_mknil)))))
        (pss_one (ps_ret (pv 1)))))))))))), ?_⟩
    refine lst_step (v := v) (fun H Q q => ⟨v, rfl, q⟩) (Same.refl H) (Nat.le_of_ble_eq_true rfl) fun p0 as0 H0 s0 n0 h0 e0 => ?_
    refine cat_step (v := v) rfl (fun H Q q => ⟨v, rfl, q⟩) s0 h0 e0 (Nat.le_of_ble_eq_true rfl) fun p1 as1 H1 s1 n1 h1 e1 => ?_
    refine cat_step (v := v) rfl (fun H Q q => ⟨v, rfl, q⟩) s1 h1 e1 (Nat.le_of_ble_eq_true rfl) fun p2 as2 H2 s2 n2 h2 e2 => ?_
    refine cat_step (v := v) rfl (fun H Q q => ⟨v, rfl, q⟩) s2 h2 e2 (Nat.le_of_ble_eq_true rfl) fun p3 as3 H3 s3 n3 h3 e3 => ?_
    refine cat_step (v := v) rfl (fun H Q q => ⟨v, rfl, q⟩) s3 h3 e3 (Nat.le_of_ble_eq_true rfl) fun p4 as4 H4 s4 n4 h4 e4 => ?_
    refine cat_step (v := v) rfl (fun H Q q => ⟨v, rfl, q⟩) s4 h4 e4 (Nat.le_of_ble_eq_true rfl) fun p5 as5 H5 s5 n5 h5 e5 => ?_
    refine cat_step (v := v) rfl (fun H Q q => ⟨v, rfl, q⟩) s5 h5 e5 (Nat.le_of_ble_eq_true rfl) fun p6 as6 H6 s6 n6 h6 e6 => ?_
    refine cat_step (v := v) rfl (fun H Q q => ⟨v, rfl, q⟩) s6 h6 e6 (Nat.le_of_ble_eq_true rfl) fun p7 as7 H7 s7 n7 h7 e7 => ?_
    refine cat_step (v := v) rfl (fun H Q q => ⟨v, rfl, q⟩) s7 h7 e7 (Nat.le_of_ble_eq_true rfl) fun p8 as8 H8 s8 n8 h8 e8 => ?_
    exact ⟨_, rfl, k p8 as8 H8 s8 n8 h8 e8⟩
abbrev s_bare : Stmt := top 39
theorem sc_bare : FnScope ["_law_found"] [] (defScope s_bare) := ⟨rfl, rfl, rfl, by decide +kernel, rfl, by decide +kernel, by decide +kernel⟩
theorem ok_bare {f : Addr} {fd : FuncData} (F : Fun K "_law_bare" "_law_bare" s_bare f fd) (I : ∀ j, j < 26 → Ini P w K mg base (nm j) (C j)) : FnOk P w K mg base CX0 3 f fd [] (spMks0 C) := by
  refine F.ok sc_bare (fun vs H Q E h => ?_) (fun cdv A outer s H vs Q E hr h => ?_)
  · obtain ⟨rfl, _⟩ := h; rfl
  · obtain ⟨rfl, k⟩ := h
    refine ⟨_, (pss_cons (ps_set (i := 0) sc_bare.nd rfl (Or.inl rfl) (pe_lst (pa_mk0cons (pe_mk0 (I 0 (by decide)) hr) (pa_mk0cons (pe_mk0 (I 1 (by decide)) hr) (pa_mk0cons (pe_mk0 (I 2 (by decide)) hr) (pa_mk0cons (pe_mk0 (I 3 (by decide)) hr) (pa_mk0cons (pe_mk0 (I 4 (by decide)) hr) (pa_mk0cons (pe_mk0 (I 5 (by decide)) hr) pa_mk0nil))))))))
        (pss_cons (ps_set (i := 0) sc_bare.nd rfl (Or.inl rfl) (pe_op op_cat (pv 0) (pe_lst (pa_mk0cons (pe_mk0 (I 6 (by decide)) hr) (pa_mk0cons (pe_mk0 (I 7 (by decide)) hr) (pa_mk0cons (pe_mk0 (I 8 (by decide)) hr) (pa_mk0cons (pe_mk0 (I 9 (by decide)) hr) (pa_mk0cons (pe_mk0 (I 10 (by decide)) hr) pa_mk0nil))))))))
        (pss_cons (ps_set (i := 0) sc_bare.nd rfl (Or.inl rfl) (pe_op op_cat (pv 0) (pe_lst (pa_mk0cons (pe_mk0 (I 11 (by decide)) hr) (pa_mk0cons (pe_mk0 (I 12 (by decide)) hr) (pa_mk0cons (pe_mk0 (I 13 (by decide)) hr) (pa_mk0cons (pe_mk0 (I 14 (by decide)) hr) (pa_mk0cons (pe_mk0 (I 15 (by decide)) hr) pa_mk0nil))))))))
        (pss_cons (ps_set (i := 0) sc_bare.nd rfl (Or.inl rfl) (pe_op op_cat (pv 0) (pe_lst (pa_mk0cons (pe_mk0 (I 16 (by decide)) hr) (pa_mk0cons (pe_mk0 (I 17 (by decide)) hr) (pa_mk0cons (pe_mk0 (I 18 (by decide)) hr) (pa_mk0cons (pe_mk0 (I 19 (by decide)) hr) (pa_mk0cons (pe_mk0 (I 20 (by decide)) hr) (pa_mk0cons (pe_mk0 (I 21 (by decide)) hr) pa_mk0nil)))))))))
        (pss_cons (ps_set (i := 0) sc_bare.nd rfl (Or.inl rfl) (pe_op op_cat (pv 0) (pe_lst (pa_mk0cons (pe_mk0 (I 22 (by decide)) hr) (pa_mk0cons (pe_mk0 (I 23 (by decide)) hr) (pa_mk0cons (pe_mk0 (I 24 (by decide)) hr) (pa_mk0cons (pe_mk0 (I 25 (by decide)) hr) pa_mk0nil)))))))
        (pss_one (ps_ret (pv 0)))))))), ?_⟩
    refine lst_step (v := .non) (fun H Q q => q) (Same.refl H) (Nat.le_of_ble_eq_true rfl) fun p0 as0 H0 s0 n0 h0 e0 => ?_
    refine cat_step (v := .non) rfl (fun H Q q => q) s0 h0 e0 (Nat.le_of_ble_eq_true rfl) fun p1 as1 H1 s1 n1 h1 e1 => ?_
    refine cat_step (v := .non) rfl (fun H Q q => q) s1 h1 e1 (Nat.le_of_ble_eq_true rfl) fun p2 as2 H2 s2 n2 h2 e2 => ?_
    refine cat_step (v := .non) rfl (fun H Q q => q) s2 h2 e2 (Nat.le_of_ble_eq_true rfl) fun p3 as3 H3 s3 n3 h3 e3 => ?_
    refine cat_step (v := .non) rfl (fun H Q q => q) s3 h3 e3 (Nat.le_of_ble_eq_true rfl) fun p4 as4 H4 s4 n4 h4 e4 => ?_
    exact ⟨_, rfl, k p4 as4 H4 s4 n4 h4 e4⟩
end
end X1
end L2
namespace L2
namespace X1
open PySem PySem.Spec PyProof.Rows D1
/-- ValueError's own chain -/
abbrev veB : List Value := [.type "ValueError", .type "Exception", .type "BaseException", .type "object"]
/-- what the top has written of all the classes: 26 with a field, two without, the base -/
structure All (K : PySem.W.Frag) (mg : Str → Option Value) (C : Nat → Addr) : Prop where
  cf : ∀ j, j < 26 → CF K mg (nm j) (C j)
  g : ∀ j, j < 29 → mg (nm j) = some (.ref (C j))
  xf : ∀ j, j < 29 → XF K (C j)
  ex : ∀ j, 26 ≤ j → j < 29 → PySem.W.excIn K (C j) veB "ValueError.__new__" = true
  kit : ∀ i j, i < 29 → j < 28 → PySem.W.kitOne K (.ref (C i)) (.ref (C j)) = some (decide (i = j))
  kitD : ∀ i, i < 29 → PySem.W.kitOne K (.ref (C i)) (.ref (C 28)) = some true
  kitV : ∀ i, i < 29 → PySem.W.kitOne K (.ref (C i)) (.type "ValueError") = some true
theorem PE.imp {X : Cx} {e : Expr} {t t' : TE} (h : PE X e t) (k : ∀ σ H Q, t' σ H Q → t σ H Q) : PE X e t' := ⟨fun pins s σ H Q I q => h.run pins s σ H Q I (k σ H Q q)⟩
def spCode (C : Nat → Addr) : Sp := fun vs H Q _ => ∃ (a : Addr) (i : Nat), vs = [.ref a] ∧ i < 29 ∧ IsE H a (C i) ∧ ∀ (L : Addr) (H' : Hp), Same H H' → H L = none → H' L = some (.lst (if i < 28 then [.int i] else [])) → Q (.ref L) H'
def spIsErr (C : Nat → Addr) : Sp := fun vs H Q _ => ∃ (a : Addr) (i : Nat), vs = [.ref a] ∧ i < 29 ∧ IsE H a (C i) ∧ Q (.bl true) H
section
variable {X : Cx} {C : Nat → Addr}
/-- isinstance(error, C j), the error in the slot 0 -/
def tIs (C : Nat → Addr) (j : Nat) : TE := fun σ H Q => ∃ (a : Addr) (i : Nat), σ[0]? = some (some (.ref a)) ∧ i < 29 ∧ IsE H a (C i) ∧ Q (.bl (decide (i = j))) H
theorem pe_is {j : Nat} {x y : Str} {p p1 p2 pos : Pos} (T : Free X.mg) (gj : X.mg y = some (.ref (C j))) (G : All X.K X.mg C) (hj : j < 28) (hN : X.N[0]? = some x := by rfl) (hv : Vis X.env.scope x := by first | exact Or.inl rfl | exact Or.inr (Or.inl rfl))
    (hd : (x == ("__debug__" : Str)) = false := by decide) (hcd : (x == ("__classdict__" : Str)) = false := by decide) (hi : Gl X "isinstance" := by rfl) (hy : Gl X y := by rfl) (hdy : (y == ("__debug__" : Str)) = false := by decide) :
    PE X (.Call (.Name "isinstance" p) [.Name x p1, .Name y p2] [] pos) (tIs C j) := by
  refine PE.imp (pe_callB call_isE2 hi T.isi (by decide +kernel) (pa_cons (pe_var hN hv hd hcd) (pa_cons (pe_glob hy gj (v := .ref (C j)) rfl hdy) pa_nil))) fun σ H Q h => ?_
  obtain ⟨a, i, e, hi, he, q⟩ := h
  exact ⟨_, e, a, C i, .ref (C j), .ref (C j), _, rfl, he, G.xf i hi, .own _, G.kit i j hi hj, q⟩
def tIss (C : Nat → Addr) (js : List Nat) : TA := fun σ H Q => ∃ (a : Addr) (i : Nat), σ[0]? = some (some (.ref a)) ∧ i < 29 ∧ IsE H a (C i) ∧ Q (js.map fun j => .bl (decide (i = j))) H
theorem pa_isnil : PA X [] (tIss C []) := ⟨fun pos pins s σ H Q J h => by
  obtain ⟨a, i, e, hi, he, q⟩ := h
  exact pa_nil.run pos pins s σ H Q J q⟩
theorem pa_iscons {j : Nat} {js : List Nat} {e : Expr} {es : List Expr} (h1 : PE X e (tIs C j)) (h2 : PA X es (tIss C js)) (hs : starEach (e :: es) X.env = (false, eval e X.env) :: starEach es X.env := by rfl) : PA X (e :: es) (tIss C (j :: js)) := ⟨fun pos pins s σ H Q J h => by
  obtain ⟨a, i, ev, hi, he, q⟩ := h
  exact (pa_cons h1 h2 hs).run pos pins s σ H Q J ⟨a, i, ev, hi, he, a, i, ev, hi, he, q⟩⟩
end
def bls (i : Nat) (js : List Nat) : List V := js.map fun j => .bl (decide (i = j))
theorem lstB_step {C : Nat → Addr} {H0 H : Hp} {σ : St} {i : Nat} {a : Addr} {js : List Nat} {D : Ends} (e0 : σ[0]? = some (some (.ref a))) (he : i < 29 ∧ IsE H0 a (C i)) (s0 : Same H0 H) (hl : js.length ≤ 1000)
    (k : ∀ (p : Addr) (H' : Hp), Same H0 H' → H0 p = none → H' p = some (.lst (bls i js)) → ∀ σ', σ' = σ.set 1 (some (.ref p)) → D.nx σ' H') : tAsg (tLst (tIss C js)) (gName 1) D σ H := by
  refine ⟨a, i, e0, he.1, he.2.same s0, ?_, fun p np => ?_⟩
  · rw [List.length_map, sizeLine_eq]; omega
  · exact k p _ (s0.trans (same_new np)) (s0.free np) upd_same _ rfl
theorem catB_step {C : Nat → Addr} {H0 H : Hp} {σ : St} {i : Nat} {a p : Addr} {js ks : List Nat} {D : Ends} (e0 : σ[0]? = some (some (.ref a))) (e1 : σ[1]? = some (some (.ref p))) (he : i < 29 ∧ IsE H0 a (C i)) (s0 : Same H0 H) (hp : H p = some (.lst (bls i js))) (hl : js.length + ks.length ≤ 1000)
    (k : ∀ (p' : Addr) (H' : Hp), Same H0 H' → H0 p' = none → H' p' = some (.lst (bls i (js ++ ks))) → ∀ σ', σ' = σ.set 1 (some (.ref p')) → D.nx σ' H') : tAsg (tOp rCat (tVar 1) (tLst (tIss C ks))) (gName 1) D σ H := by
  refine ⟨_, e1, a, i, e0, he.1, he.2.same s0, ?_, fun q nq => ?_⟩
  · rw [List.length_map, sizeLine_eq]; omega
  · have sq : Same H (upd H q (.lst (bls i ks))) := same_new nq
    refine ⟨p, q, _, _, rfl, rfl, sq _ _ hp, upd_same, by unfold bls; rw [List.length_map, List.length_map, sizeLine_eq]; omega, fun r nr => ?_⟩
    exact k r _ ((s0.trans sq).trans (same_new nr)) ((s0.trans sq).free nr) (by rw [upd_same]; unfold bls; rw [List.map_append]) _ rfl
section
variable {P : Program} {w : World} {K : PySem.W.Frag} {mg : Str → Option Value} {base : Heap} {C : Nat → Addr}
abbrev s_code : Stmt := top 40
abbrev s_iserr : Stmt := top 41
theorem sc_code : FnScope ["_law_error", "_law_found", "_law_at"] ["_law_error"] (defScope s_code) := ⟨rfl, rfl, rfl, by decide +kernel, rfl, by decide +kernel, by decide +kernel⟩
theorem found_of {i : Nat} (hi : i < 29) : ((List.range 28).filter fun j => decide (i = j)).map (fun j : Nat => V.int j) = if i < 28 then [.int i] else [] := by
  have h : ∀ i : Fin 29, (List.range 28).filter (fun j => decide (i.val = j)) = if i.val < 28 then [i.val] else [] := by decide +kernel
  rw [h ⟨i, hi⟩]
  by_cases c : i < 28
  · rw [if_pos c, if_pos c]; rfl
  · rw [if_neg c, if_neg c]; rfl
theorem ok_code {f : Addr} {fd : FuncData} (F : Fun K "_law_code" "_law_code" s_code f fd) (T : Free mg) (G : All K mg C) : FnOk P w K mg base CX0 1 f fd ["_law_error"] (spCode C) := by
  refine F.ok sc_code (fun vs H Q E h => ?_) (fun cdv A outer s H vs Q E hr h => ?_)
  · obtain ⟨a, i, rfl, _⟩ := h; rfl
  · obtain ⟨a, i, rfl, hi, he0, k⟩ := h
    have he := And.intro hi he0
    refine ⟨_, (pss_cons (ps_set (i := 1) sc_code.nd rfl (Or.inr rfl) (pe_lst (pa_iscons (pe_is T (G.g 0 (by decide)) G (by decide)) (pa_iscons (pe_is T (G.g 1 (by decide)) G (by decide)) (pa_iscons (pe_is T (G.g 2 (by decide)) G (by decide)) pa_isnil)))))
        (pss_cons (ps_set (i := 1) sc_code.nd rfl (Or.inr rfl) (pe_op op_cat (pv 1) (pe_lst (pa_iscons (pe_is T (G.g 3 (by decide)) G (by decide)) (pa_iscons (pe_is T (G.g 4 (by decide)) G (by decide)) pa_isnil)))))
        (pss_cons (ps_set (i := 1) sc_code.nd rfl (Or.inr rfl) (pe_op op_cat (pv 1) (pe_lst (pa_iscons (pe_is T (G.g 5 (by decide)) G (by decide)) (pa_iscons (pe_is T (G.g 6 (by decide)) G (by decide)) pa_isnil)))))
        (pss_cons (ps_set (i := 1) sc_code.nd rfl (Or.inr rfl) (pe_op op_cat (pv 1) (pe_lst (pa_iscons (pe_is T (G.g 7 (by decide)) G (by decide)) (pa_iscons (pe_is T (G.g 8 (by decide)) G (by decide)) pa_isnil)))))
        (pss_cons (ps_set (i := 1) sc_code.nd rfl (Or.inr rfl) (pe_op op_cat (pv 1) (pe_lst (pa_iscons (pe_is T (G.g 9 (by decide)) G (by decide)) (pa_iscons (pe_is T (G.g 10 (by decide)) G (by decide)) pa_isnil)))))
        (pss_cons (ps_set (i := 1) sc_code.nd rfl (Or.inr rfl) (pe_op op_cat (pv 1) (pe_lst (pa_iscons (pe_is T (G.g 11 (by decide)) G (by decide)) (pa_iscons (pe_is T (G.g 12 (by decide)) G (by decide)) pa_isnil)))))
        (pss_cons (ps_set (i := 1) sc_code.nd rfl (Or.inr rfl) (pe_op op_cat (pv 1) (pe_lst (pa_iscons (pe_is T (G.g 13 (by decide)) G (by decide)) (pa_iscons (pe_is T (G.g 14 (by decide)) G (by decide)) pa_isnil)))))
        (pss_cons (ps_set (i := 1) sc_code.nd rfl (Or.inr rfl) (pe_op op_cat (pv 1) (pe_lst (pa_iscons (pe_is T (G.g 15 (by decide)) G (by decide)) (pa_iscons (pe_is T (G.g 16 (by decide)) G (by decide)) pa_isnil)))))
        (pss_cons (ps_set (i := 1) sc_code.nd rfl (Or.inr rfl) (pe_op op_cat (pv 1) (pe_lst (pa_iscons (pe_is T (G.g 17 (by decide)) G (by decide)) (pa_iscons (pe_is T (G.g 18 (by decide)) G (by decide)) pa_isnil)))))
        (pss_cons (ps_set (i := 1) sc_code.nd rfl (Or.inr rfl) (pe_op op_cat (pv 1) (pe_lst (pa_iscons (pe_is T (G.g 19 (by decide)) G (by decide)) (pa_iscons (pe_is T (G.g 20 (by decide)) G (by decide)) pa_isnil)))))
        (pss_cons (ps_set (i := 1) sc_code.nd rfl (Or.inr rfl) (pe_op op_cat (pv 1) (pe_lst (pa_iscons (pe_is T (G.g 21 (by decide)) G (by decide)) (pa_iscons (pe_is T (G.g 22 (by decide)) G (by decide)) pa_isnil)))))
        (pss_cons (ps_set (i := 1) sc_code.nd rfl (Or.inr rfl) (pe_op op_cat (pv 1) (pe_lst (pa_iscons (pe_is T (G.g 23 (by decide)) G (by decide)) (pa_iscons (pe_is T (G.g 24 (by decide)) G (by decide)) (pa_iscons (pe_is T (G.g 25 (by decide)) G (by decide)) pa_isnil))))))
        (pss_cons (ps_set (i := 1) sc_code.nd rfl (Or.inr rfl) (pe_op op_cat (pv 1) (pe_lst (pa_iscons (pe_is T (G.g 26 (by decide)) G (by decide)) (pa_iscons (pe_is T (G.g 27 (by decide)) G (by decide)) pa_isnil)))))
        (pss_one (ps_ret (pe_lc (own := [("_law_at", 2)]) (g := gName 2) (tt := tB (tOp (rIxL K) (tVar 1) (tVar 2))) rfl sc_code.nd (pi_range1 rfl T.range (pa_cons (pe_callB call_len_seq (by rfl) T.len PySem.boot_len (pa_cons (pv 1) pa_nil)) pa_nil)) (blkOk_by (N := ["_law_error", "_law_found", "_law_at"]) (sc := defScope s_code) (by decide +kernel)) (fun _ _ _ _ _ => pg_name (i := 2) sc_code.nd rfl (Or.inl rfl)) (fun _ _ _ _ _ => pts_one (pt_val (pe_ix ix_list (pv 1) (pv 2) (fun _ _ => rfl)))) (fun _ _ _ _ _ => pv 2))))))))))))))))), ?_⟩
    refine lstB_step (i := i) (a := a) rfl he (Same.refl H) (by decide) fun p0 H0 s0 n0 h0 σ0 e0 => ?_
    replace e0 : σ0 = [some (V.ref a), some (V.ref p0), none] := e0
    subst e0
    refine catB_step (i := i) (a := a) rfl rfl he s0 h0 (by decide) fun p1 H1 s1 n1 h1 σ1 e1 => ?_
    replace e1 : σ1 = [some (V.ref a), some (V.ref p1), none] := e1
    subst e1
    refine catB_step (i := i) (a := a) rfl rfl he s1 h1 (by decide) fun p2 H2 s2 n2 h2 σ2 e2 => ?_
    replace e2 : σ2 = [some (V.ref a), some (V.ref p2), none] := e2
    subst e2
    refine catB_step (i := i) (a := a) rfl rfl he s2 h2 (by decide) fun p3 H3 s3 n3 h3 σ3 e3 => ?_
    replace e3 : σ3 = [some (V.ref a), some (V.ref p3), none] := e3
    subst e3
    refine catB_step (i := i) (a := a) rfl rfl he s3 h3 (by decide) fun p4 H4 s4 n4 h4 σ4 e4 => ?_
    replace e4 : σ4 = [some (V.ref a), some (V.ref p4), none] := e4
    subst e4
    refine catB_step (i := i) (a := a) rfl rfl he s4 h4 (by decide) fun p5 H5 s5 n5 h5 σ5 e5 => ?_
    replace e5 : σ5 = [some (V.ref a), some (V.ref p5), none] := e5
    subst e5
    refine catB_step (i := i) (a := a) rfl rfl he s5 h5 (by decide) fun p6 H6 s6 n6 h6 σ6 e6 => ?_
    replace e6 : σ6 = [some (V.ref a), some (V.ref p6), none] := e6
    subst e6
    refine catB_step (i := i) (a := a) rfl rfl he s6 h6 (by decide) fun p7 H7 s7 n7 h7 σ7 e7 => ?_
    replace e7 : σ7 = [some (V.ref a), some (V.ref p7), none] := e7
    subst e7
    refine catB_step (i := i) (a := a) rfl rfl he s7 h7 (by decide) fun p8 H8 s8 n8 h8 σ8 e8 => ?_
    replace e8 : σ8 = [some (V.ref a), some (V.ref p8), none] := e8
    subst e8
    refine catB_step (i := i) (a := a) rfl rfl he s8 h8 (by decide) fun p9 H9 s9 n9 h9 σ9 e9 => ?_
    replace e9 : σ9 = [some (V.ref a), some (V.ref p9), none] := e9
    subst e9
    refine catB_step (i := i) (a := a) rfl rfl he s9 h9 (by decide) fun p10 H10 s10 n10 h10 σ10 e10 => ?_
    replace e10 : σ10 = [some (V.ref a), some (V.ref p10), none] := e10
    subst e10
    refine catB_step (i := i) (a := a) rfl rfl he s10 h10 (by decide) fun p11 H11 s11 n11 h11 σ11 e11 => ?_
    replace e11 : σ11 = [some (V.ref a), some (V.ref p11), none] := e11
    subst e11
    refine catB_step (i := i) (a := a) rfl rfl he s11 h11 (by decide) fun p12 H12 s12 n12 h12 σ12 e12 => ?_
    replace e12 : σ12 = [some (V.ref a), some (V.ref p12), none] := e12
    subst e12
    replace h12 : H12 p12 = some (.lst (bls i (List.range 28))) := h12
    refine ⟨_, rfl, p12, _, rfl, .inl (SqL.of h12), _, rfl, by unfold bls; rw [List.length_map]; decide, by unfold bls; rw [List.length_map]; decide, fun D hD => ?_⟩
    rw [show ((bls i (List.range 28)).length : Int).toNat = 28 by unfold bls; rw [List.length_map]; rfl]
    have nD : p12 ≠ D := ne_of_none h12 hD
    refine lc_range (n := 28) (fun m H' => Same H12 H' ∧ H' D = some (.lst (((List.range m).filter fun j => decide (i = j)).map fun j : Nat => V.int j))) ⟨same_new hD, upd_same⟩ ?_ ?_
    · rintro m H1 hm ⟨sm, hL⟩
      have hb : (bls i (List.range 28))[m]? = some (.bl (decide (i = m))) := by
        unfold bls; rw [List.getElem?_map, List.getElem?_range hm]; rfl
      refine ⟨rfl, _, rfl, _, rfl, p12, _, ((m : Nat) : Int), _, rfl, (by rw [Int.zero_add]), SqL.of (sm _ _ h12), atI_nat hb, _, rfl, ?_⟩
      refine ite2 (fun c0 => ?_) (fun c0 => ?_)
      · have c : i = m := of_decide_eq_true c0
        refine ⟨_, rfl, _, hL, ?_, fun b o e => ?_, ?_⟩
        · rw [List.length_map, sizeLine_eq]
          exact Nat.lt_of_le_of_lt (List.length_filter_le _ _) (by rw [List.length_range]; omega)
        · rw [upd_ne (ne_of_none e hD)]; exact sm _ _ e
        · rw [upd_same, List.range_succ, List.filter_append, List.map_append, Int.zero_add]
          simp [c]
      · have c : ¬ i = m := fun z => c0 (decide_eq_true z)
        refine ⟨sm, ?_⟩
        rw [hL, List.range_succ, List.filter_append, List.map_append]
        simp [c]
    · rintro H1 ⟨sm, hL⟩
      rw [found_of hi] at hL
      exact k D H1 (s12.trans sm) (s12.free hD) hL
theorem sc_iserr : FnScope ["_law_error"] ["_law_error"] (defScope s_iserr) := ⟨rfl, rfl, rfl, by decide +kernel, rfl, by decide +kernel, by decide +kernel⟩
theorem ok_iserr {f : Addr} {fd : FuncData} (F : Fun K "_law_is_error" "_law_is_error" s_iserr f fd) (T : Free mg) (vE : mg "ValueError" = none) (G : All K mg C) : FnOk P w K mg base CX0 1 f fd ["_law_error"] (spIsErr C) := by
  refine F.ok sc_iserr (fun vs H Q E h => ?_) (fun cdv A outer s H vs Q E hr h => ?_)
  · obtain ⟨a, i, rfl, _⟩ := h; rfl
  · obtain ⟨a, i, rfl, hi, he, k⟩ := h
    refine ⟨_, pss_one (ps_ret (pe_and (pe_callB call_isE2 (by rfl) T.isi (by decide +kernel) (pa_cons (pv 0) (pa_cons (pe_glob rfl (G.g 28 (by decide)) (v := .ref (C 28)) rfl) pa_nil)))
      (pe_one (pe_callB call_isE2 (by rfl) T.isi (by decide +kernel) (pa_cons (pv 0) (pa_cons (pe_bltn (v := .ty "ValueError") rfl vE (by decide +kernel) rfl) pa_nil)))))), ?_⟩
    refine ⟨_, rfl, a, C i, _, _, true, rfl, he, G.xf i hi, .own _, G.kitD i hi, _, rfl, ?_⟩
    rw [if_pos rfl]
    exact ⟨_, rfl, a, C i, _, _, true, rfl, he, G.xf i hi, .ty _, G.kitV i hi, k⟩
end
end X1
end L2
namespace L2
namespace X1
open PySem PySem.Spec PyProof.Rows D1
/-- data whose repr is known and fits -/
def Good (d : PyData) : Prop := d.showable = true ∧ d.depth ≤ 60 ∧ d.shown.length ≤ sizeLine
def spRight (C : Nat → Addr) : Sp := fun vs H Q _ => ∃ (L : Addr) (as : List Addr) (v : V) (d : PyData), vs = [.ref L, .str d.shown] ∧ H L = some (.lst (as.map V.ref)) ∧ Errs C H as v ∧ Dx H v d ∧ Good d ∧ ∀ H', Same H H' → Q (.bl true) H'
theorem dpall_of {K : PySem.W.Frag} {H : Hp} : ∀ {js : List Nat} {ls : List Addr}, Paired (fun (j : Nat) l => H l = some (.lst [.int j])) js ls → DpAll K H (ls.map V.ref) (js.map fun j : Nat => PyData.list [.int j])
  | _, _, .nil => .nil
  | _, _, .cons h t => .cons (.lst (SqL.of h) (.cons (.int _) .nil)) (dpall_of t)
def numsD : PyData := .list ((List.range 26).map fun j : Nat => PyData.list [.int j])
theorem nums_ok : SeqAt.shaped numsD = true ∧ PyData.eqv numsD numsD = true := by decide +kernel
theorem errs_at {C : Nat → Addr} {H : Hp} {as : List Addr} {v : V} (h : Errs C H as v) {j : Nat} {a : Addr} (e : as[j]? = some a) : j < 26 ∧ ExcAt H a (C j) v := by
  have l : as.length = 26 := (Paired.length h).symm
  have hj : j < 26 := by
    have q := (List.getElem?_eq_some_iff.mp e).1
    omega
  refine ⟨hj, pair_at h j (C j) a ?_ e⟩
  have q : ∀ j, j < 26 → (clsL C)[j]? = some (C j) := by
    intro j hj
    match j, hj with
    | 0, _ => rfl
    | 1, _ => rfl
    | 2, _ => rfl
    | 3, _ => rfl
    | 4, _ => rfl
    | 5, _ => rfl
    | 6, _ => rfl
    | 7, _ => rfl
    | 8, _ => rfl
    | 9, _ => rfl
    | 10, _ => rfl
    | 11, _ => rfl
    | 12, _ => rfl
    | 13, _ => rfl
    | 14, _ => rfl
    | 15, _ => rfl
    | 16, _ => rfl
    | 17, _ => rfl
    | 18, _ => rfl
    | 19, _ => rfl
    | 20, _ => rfl
    | 21, _ => rfl
    | 22, _ => rfl
    | 23, _ => rfl
    | 24, _ => rfl
    | 25, _ => rfl
    | n + 26, h => exact absurd h (by omega)
  exact q j hj
section
variable {P : Program} {w : World} {K : PySem.W.Frag} {mg : Str → Option Value} {base : Heap} {C : Nat → Addr}
abbrev s_right : Stmt := top 42
theorem sc_right : FnScope ["_law_some", "_law_noted", "_law_error", "_law_at"] ["_law_some", "_law_noted"] (defScope s_right) := ⟨rfl, rfl, rfl, by decide +kernel, rfl, by decide +kernel, by decide +kernel⟩
theorem ok_right {f fC fE : Addr} {fd fdC fdE : FuncData} (F : Fun K "_law_right" "_law_right" s_right f fd) (T : Free mg) (G : All K mg C)
    (GC : FnOk P w K mg base CX0 1 fC fdC ["_law_error"] (spCode C)) (kC : PySem.W.keepIn K (.ref fC) = true) (bC : Binds K fdC ["_law_error"] []) (gC : mg "_law_code" = some (.ref fC))
    (GE : FnOk P w K mg base CX0 1 fE fdE ["_law_error"] (spIsErr C)) (kE : PySem.W.keepIn K (.ref fE) = true) (bE : Binds K fdE ["_law_error"] []) (gE : mg "_law_is_error" = some (.ref fE)) : FnG P w K mg base CX0 2 f fd ["_law_some", "_law_noted"] (spRight C) := by
  refine Fun.okG F sc_right (fun vs H Q E h => ?_) (fun cdv A outer s H vs Q E hr gd h => ?_)
  · obtain ⟨L, as, v, d, rfl, _⟩ := h; rfl
  · obtain ⟨L, as, v, d, rfl, hL, hE, hD, ⟨g1, g2, g3⟩, k⟩ := h
    refine ⟨_, pss_cons (ps_if (pt_cmpR (op_neD hr.units)
        (pe_lc (own := [("_law_error", 2)]) (g := gName 2) (tt := tYes) rfl sc_right.nd (pi_list (pv 0)) (blkOk_by (N := ["_law_some", "_law_noted", "_law_error", "_law_at"]) (sc := defScope s_right) (by decide +kernel)) (fun _ _ _ _ _ => pg_name (i := 2) sc_right.nd rfl (Or.inl rfl)) (fun _ _ _ _ _ => pts_nil)
          (fun _ _ _ _ _ => pe_call GC hr rfl gC kC bC .nil pass0 (pa_cons (pv 2) pa_nil)))
        (pe_lc (own := [("_law_at", 3)]) (g := gName 3) (tt := tYes) rfl sc_right.nd (pi_range1 rfl T.range (pa_cons pe_int pa_nil)) (blkOk_by (N := ["_law_some", "_law_noted", "_law_error", "_law_at"]) (sc := defScope s_right) (by decide +kernel)) (fun _ _ _ _ _ => pg_name (i := 3) sc_right.nd rfl (Or.inl rfl)) (fun _ _ _ _ _ => pts_nil)
          (fun _ _ _ _ _ => pe_lst (pa_cons (pv 3) pa_nil))) (nomark _)) (pss_one (ps_ret pe_bl)) pss_nil)
      (pss_one (ps_ret (pe_cmpR (op_eqD hr.units)
        (pe_lc (own := [("_law_error", 2)]) (g := gName 2) (tt := tOr (tNot (tB (tCall (spIsErr C) [] E0 (tCons (tVar 2) tNil)))) (tTest (tOp rNe (tCB rRepr (tCons (tVal K (tVar 2)) tNil)) (tVar 1)))) rfl sc_right.nd (pi_list (pv 0)) (blkOk_by (N := ["_law_some", "_law_noted", "_law_error", "_law_at"]) (sc := defScope s_right) (by decide +kernel)) (fun _ _ _ _ _ => pg_name (i := 2) sc_right.nd rfl (Or.inl rfl))
          (fun _ _ _ _ _ => pts_one (PW.pt (pw_or (pt_not (pt_val (pe_call GE hr rfl gE kE bE .nil pass0 (pa_cons (pv 2) pa_nil)))) (pw_or1 (pt_cmpR op_ne (pe_callB (call_repr gd hr.units) (by rfl) T.repr (by decide +kernel) (pa_cons (pe_val (pv 2)) pa_nil)) (pv 1) (nomark _))))))
          (fun _ _ _ _ _ => pv 2)) (pe_lst pa_nil) (nomark _)))), ?_⟩
    have l26 : as.length = 26 := (Paired.length hE).symm
    -- [code(error) for error in some]
    refine ⟨_, rfl, L, rfl, ⟨_, SqL.of hL⟩, fun D hDn => ?_⟩
    have nLD : L ≠ D := ne_of_none hL hDn
    refine lc_list (K := K) (a := L) (xs := as.map V.ref) (fun m H1 => Same H H1 ∧ ∃ ls : List Addr, H1 D = some (.lst (ls.map V.ref)) ∧ Paired (fun (j : Nat) l => H1 l = some (.lst [.int j]) ∧ l ≠ D) (List.range m) ls) ⟨same_new hDn, [], upd_same, .nil⟩ (fun m H1 _ ⟨sm, _⟩ => sm.seq (SqL.of hL)) ?_ ?_
    · rintro m y H1 hy ⟨sm, ls, hls, pr⟩
      obtain ⟨a, ha, rfl⟩ : ∃ a, as[m]? = some a ∧ y = V.ref a := by
        rw [List.getElem?_map] at hy
        cases e : as[m]? with
        | none => rw [e] at hy; cases hy
        | some a => rw [e] at hy; exact ⟨a, rfl, (Option.some.inj hy).symm⟩
      obtain ⟨hm, ea⟩ := errs_at hE ha
      refine ⟨rfl, ?_⟩
      dsimp only [tYes]
      rw [if_pos rfl]
      refine ⟨_, rfl, a, m, rfl, by omega, .inl ⟨v, ea.same sm⟩, fun l H2 s2 nl hl => ?_⟩
      rw [if_pos (by omega)] at hl
      have nlD : l ≠ D := fun e => by rw [e, hls] at nl; cases nl
      have lm : ls.length = m := by rw [← Paired.length pr, List.length_range]
      refine ⟨_, s2 _ _ hls, by rw [List.length_map, lm, sizeLine_eq]; omega, fun b o e => ?_, ls ++ [l], by rw [upd_same, List.map_append]; rfl, ?_⟩
      · rw [upd_ne (ne_of_none e hDn)]; exact s2 _ _ (sm _ _ e)
      · rw [List.range_succ]
        exact Paired.snoc (Paired.mono (fun j x ⟨e, n⟩ => ⟨by rw [upd_ne n]; exact s2 _ _ e, n⟩) pr) ⟨by rw [upd_ne nlD]; exact hl, nlD⟩
    · rintro H1 ⟨sm, ls, hls, pr⟩
      rw [List.length_map, l26] at pr
      -- [[at] for at in range(26)]
      refine ⟨26, rfl, by decide, by decide, fun D2 hD2 => ?_⟩
      have nDD : D ≠ D2 := ne_of_none hls hD2
      refine lc_range (n := 26) (fun m H2 => Same H1 H2 ∧ ∃ ks : List Addr, H2 D2 = some (.lst (ks.map V.ref)) ∧ Paired (fun (j : Nat) l => H2 l = some (.lst [.int j]) ∧ l ≠ D2) (List.range m) ks) ⟨same_new hD2, [], upd_same, .nil⟩ ?_ ?_
      · rintro m H2 hm ⟨s2, ks, hks, pk⟩
        refine ⟨rfl, ?_⟩
        dsimp only [tYes]
        rw [if_pos rfl]
        refine ⟨_, rfl, by show 1 ≤ sizeLine; decide, fun l nl => ?_⟩
        have nlD : l ≠ D2 := fun e => by rw [e, hks] at nl; cases nl
        have sl : Same H2 (upd H2 l (.lst [.int (0 + (m : Int))])) := same_new nl
        have lm : ks.length = m := by rw [← Paired.length pk, List.length_range]
        refine ⟨_, sl _ _ hks, by rw [List.length_map, lm, sizeLine_eq]; omega, fun b o e => ?_, ks ++ [l], by rw [upd_same, List.map_append]; rfl, ?_⟩
        · rw [upd_ne (ne_of_none e hD2)]; exact sl _ _ (s2 _ _ e)
        · rw [List.range_succ]
          exact Paired.snoc (Paired.mono (fun j x ⟨e, n⟩ => ⟨by rw [upd_ne n]; exact sl _ _ e, n⟩) pk) ⟨by rw [upd_ne nlD, upd_same, Int.zero_add], nlD⟩
      · rintro H2 ⟨s2, ks, hks, pk⟩
        have dx : Dp K H2 (.ref D) numsD := .lst (SqL.of (s2 _ _ hls)) (dpall_of (Paired.mono (fun j x ⟨e, _⟩ => s2 _ _ e) pr))
        have dy : Dp K H2 (.ref D2) numsD := .lst (SqL.of hks) (dpall_of (Paired.mono (fun j x ⟨e, _⟩ => e) pk))
        refine ⟨numsD, numsD, dx, dy, nums_ok.1, nums_ok.1, _, rfl, ?_⟩
        rw [nums_ok.2]
        have s12 : Same H H2 := sm.trans s2
        -- [error for error in some if ..] == []
        refine ⟨_, rfl, L, rfl, ⟨_, SqL.of (s12 _ _ hL)⟩, fun D3 hD3 => ?_⟩
        refine lc_list (K := K) (a := L) (xs := as.map V.ref) (fun m H3 => Same H2 H3 ∧ H3 D3 = some (.lst [])) ⟨same_new hD3, upd_same⟩ (fun m H3 _ ⟨s3, _⟩ => s3.seq (SqL.of (s12 _ _ hL))) ?_ ?_
        · rintro m y H3 hy ⟨s3, hD3'⟩
          obtain ⟨a, ha, rfl⟩ : ∃ a, as[m]? = some a ∧ y = V.ref a := by
            rw [List.getElem?_map] at hy
            cases e : as[m]? with
            | none => rw [e] at hy; cases hy
            | some a => rw [e] at hy; exact ⟨a, rfl, (Option.some.inj hy).symm⟩
          obtain ⟨hm, ea⟩ := errs_at hE ha
          have ea3 := ea.same (s12.trans s3)
          refine ⟨rfl, _, rfl, a, m, rfl, by omega, .inl ⟨v, ea3⟩, true, rfl, ?_⟩
          refine ⟨_, rfl, a, C m, v, rfl, G.xf m (by omega), ea3, v, d, rfl, hD.same (s12.trans s3), g1, g2, g3, _, rfl, rfl, _, rfl, ?_⟩
          refine ite2 (fun c => ?_) (fun _ => ⟨s3, hD3'⟩)
          simp at c
        · rintro H3 ⟨s3, hD3'⟩
          refine ⟨by show 0 ≤ sizeLine; omega, fun D4 hD4 => ?_⟩
          refine ⟨.list [], .list [], .lst (SqL.of ((same_new hD4) _ _ hD3')) .nil, .lst (SqL.of upd_same) .nil, rfl, rfl, ?_⟩
          exact k _ ((s12.trans s3).trans (same_new hD4))
end
end X1
end L2
namespace L2
namespace X1
open PySem PySem.Spec PyProof.Rows D1
/-- a word of the law: one to eight letters -/
def Word (z : Str) : Prop := 1 ≤ z.length ∧ z.length ≤ 8 ∧ ∀ c ∈ z.cps.toList, 97 ≤ c ∧ c ≤ 122
/-- the things that are drawn; what they hold is new since HS -/
inductive Thing (HS H : Hp) (z : Str) : V → Prop
  | non : Thing HS H z .non
  | bl (b : Bool) : Thing HS H z (.bl b)
  | int (i : Int) : i.natAbs < 10 ^ 12 → Thing HS H z (.int i)
  | str : Thing HS H z (.str z)
  | t1 {t p : Addr} : HS t = none → HS p = none → H t = some (.tup [.str "says", .ref p]) → H p = some (.dK [(.inr z, .str z)]) → Thing HS H z (.ref t)
  | t2 {t b : Addr} : HS t = none → HS b = none → b ≠ sysModules → H t = some (.tup [.str z, .ref b]) → H b = some (.lst [.str z]) → Thing HS H z (.ref t)
  | d3 {p b : Addr} : HS p = none → HS b = none → b ≠ sysModules → H p = some (.dK [(.inr z, .ref b)]) → H b = some (.lst [.str z]) → Thing HS H z (.ref p)
  | l4 {b : Addr} : HS b = none → b ≠ sysModules → H b = some (.lst [.str z]) → Thing HS H z (.ref b)
  | l5 {l b c : Addr} : HS l = none → HS b = none → HS c = none → l ≠ sysModules → b ≠ sysModules → H l = some (.lst [.ref b, .ref c]) → H b = some (.lst [.str z]) → H c = some (.dK [(.inr "done", .str z)]) → Thing HS H z (.ref l)
theorem Thing.move {HS H H' : Hp} {z : Str} {v : V} (t : Thing HS H z v) (k : ∀ x o, HS x = none → H x = some o → H' x = some o) : Thing HS H' z v := by
  cases t with
  | non => exact .non
  | bl b => exact .bl b
  | int i h => exact .int i h
  | str => exact .str
  | t1 a b c d => exact .t1 a b (k _ _ a c) (k _ _ b d)
  | t2 a b n c d => exact .t2 a b n (k _ _ a c) (k _ _ b d)
  | d3 a b n c d => exact .d3 a b n (k _ _ a c) (k _ _ b d)
  | l4 a n c => exact .l4 a n (k _ _ a c)
  | l5 a b c n m d e f => exact .l5 a b c n m (k _ _ a d) (k _ _ b e) (k _ _ c f)
theorem Thing.same {HS H H' : Hp} {z : Str} {v : V} (t : Thing HS H z v) (s : Same H H') : Thing HS H' z v := t.move fun x o _ e => s x o e
section
variable {HS H : Hp} {z : Str}
theorem word_fit (hz : Word z) : Fit 0 82 (.str z) := fit_str hz.2.1 hz.2.2
theorem lit_fit {x : Str} (h : ((x.cps.toList.all fun c => decide (c < 16 ^ 8)) && decide (x.length ≤ 8)) = true) : Fit 0 82 (.str x) := by
  rw [Bool.and_eq_true, decide_eq_true_eq] at h
  exact fit_lit h.1 h.2
theorem Thing.data (hz : Word z) {v : V} (t : Thing HS H z v) : ∃ d, Dx H v d ∧ Fit 5 2000 d := by
  have fw := word_fit hz
  cases t with
  | non => exact ⟨_, .non, fit_non.mono (by decide) (by decide)⟩
  | bl b => exact ⟨_, .bl b, (fit_bl b).mono (by decide) (by decide)⟩
  | int i h => exact ⟨_, .int i, (fit_int h).mono (by decide) (by decide)⟩
  | str => exact ⟨_, .str z, fw.mono (by decide) (by decide)⟩
  | t1 a b c d => exact ⟨_, .tup c (.cons (.str _) (.cons (.dct d (.cons (.str _) .nil)) .nil)), (fit_tup2 ((lit_fit (by decide)).mono (by decide : 0 ≤ 1) (Nat.le_refl _)) (fit_dct1 fw fw)).mono (by decide) (by decide)⟩
  | t2 a b n c d => exact ⟨_, .tup c (.cons (.str _) (.cons (.lst d n (.cons (.str _) .nil)) .nil)), (fit_tup2 (fw.mono (by decide : 0 ≤ 1) (Nat.le_refl _)) (fit_lst1 fw)).mono (by decide) (by decide)⟩
  | d3 a b n c d => exact ⟨_, .dct c (.cons (.lst d n (.cons (.str _) .nil)) .nil), (fit_dct1 (fw.mono (by decide : 0 ≤ 1) (Nat.le_refl _)) (fit_lst1 fw)).mono (by decide) (by decide)⟩
  | l4 a n c => exact ⟨_, .lst c n (.cons (.str _) .nil), (fit_lst1 fw).mono (by decide) (by decide)⟩
  | l5 a b c n m d e f => exact ⟨_, .lst d n (.cons (.lst e m (.cons (.str _) .nil)) (.cons (.dct f (.cons (.str _) .nil)) .nil)), (fit_lst2 (fit_lst1 fw) ((fit_dct1 (lit_fit (x := "done") (by decide)) fw).mono (Nat.le_refl _) (by decide : 82 + 82 + 6 ≤ 200))).mono (by decide) (by decide)⟩
theorem Fit.good {d : PyData} (h : Fit 5 2000 d) : Good d := ⟨h.1, Nat.le_trans h.2.1 (by decide), Nat.le_trans h.2.2 (by rw [sizeLine_eq]; omega)⟩
end
/-- what the changes of a thing leave: what stood at HS, what is no list and no dict, what is new since HT -/
def Mu (HS HT H H' : Hp) : Prop := ∀ x o, H x = some o → ((∃ u, HS x = some u) ∨ (∃ φ, o = .ext φ) ∨ HT x = none) → H' x = some o
theorem Mu.one {HS HT H : Hp} {m : Addr} {o u : HO} (h0 : HS m = none) (h1 : HT m = some u) (h2 : H m = some u) (nu : ∀ φ, u ≠ .ext φ) : Mu HS HT H (upd H m o) := fun x p e c => by
  have n : x ≠ m := by
    rintro rfl
    rcases c with ⟨y, c⟩ | ⟨φ, c⟩ | c
    · rw [h0] at c; cases c
    · rw [h2] at e; cases e; exact nu φ c
    · rw [h1] at c; cases c
  rw [upd_ne n]; exact e
theorem Mu.refl (HS HT H : Hp) : Mu HS HT H H := fun _ _ e _ => e
theorem Mu.trans {HS HT H H1 H2 : Hp} (a : Mu HS HT H H1) (b : Mu HS HT H1 H2) : Mu HS HT H H2 := fun x o e c => b x o (a x o e c) c
theorem Mu.exc {HS HT H H' : Hp} {a C : Addr} {v : V} (m : Mu HS HT H H') (h : ExcAt H a C v) : ExcAt H' a C v := by
  obtain ⟨d, h1, h2⟩ := h
  exact ⟨d, m _ _ h1 (.inr (.inl ⟨_, rfl⟩)), m _ _ h2 (.inr (.inl ⟨_, rfl⟩))⟩
/-- isinstance(thing, T); isinstance(thing[1], T) -/
def tI (K : PySem.W.Frag) (T : String) : TT := tB (tCB (rIsi K) (tCons (tVar 4) (tCons (tC (.ty T)) tNil)))
def tI1 (K : PySem.W.Frag) (T : String) : TT := tB (tCB (rIsi K) (tCons (tOp (rIxT K) (tVar 4) (tC (.int 1))) (tCons (tC (.ty T)) tNil)))
section
variable {K : PySem.W.Frag} {σ : St} {H : Hp} {D : Ends} {v : V} {T S t : String} {B : TS}
theorem if_is {b : Bool} (h4 : σ[4]? = some (some v)) (ty : TyX K H v (.type t)) (e : kitB t T = some b) (yes : b = true → B D σ H) (no : b = false → D.nx σ H) : tIfS (tI K T) B tNext D σ H := by
  refine ⟨_, h4, v, .ty T, _, _, b, rfl, .ty T, ty, kit_ty e, b, rfl, ?_⟩
  cases b with
  | true => exact yes rfl
  | false => exact no rfl
theorem if_and {b : Bool} (h4 : σ[4]? = some (some v)) (ty : TyX K H v (.type t)) (e : kitB t T = some b) (yes : b = true → ∃ a xs x s c, v = .ref a ∧ H a = some (.tup xs) ∧ xs[1]? = some x ∧ TyX K H x (.type s) ∧ kitB s S = some c ∧ (c = true → B D σ H) ∧ (c = false → D.nx σ H)) (no : b = false → D.nx σ H) :
    tIfS (tAnd (tI K T) (tI1 K S)) B tNext D σ H := by
  refine ⟨_, h4, v, .ty T, _, _, b, rfl, .ty T, ty, kit_ty e, b, rfl, ?_⟩
  cases b with
  | false => exact no rfl
  | true =>
    obtain ⟨a, xs, x, s, c, rfl, ha, hx, ty2, e2, y2, n2⟩ := yes rfl
    refine ⟨_, h4, a, xs, 1, x, rfl, rfl, SqT.of ha, atI_nat (j := 1) hx, x, .ty S, _, _, c, rfl, .ty S, ty2, kit_ty e2, c, rfl, ?_⟩
    cases c with
    | true => exact y2 rfl
    | false => exact n2 rfl
end
end X1
end L2
namespace L2
namespace X1
open PySem PySem.Spec PyProof.Rows D1
def aL : TA := tCons (tC (.str "later")) tNil
def b1 (K : PySem.W.Frag) : TS := tDrop (tBM K "list" rAppend (tVar 4) aL)
def b2 (K : PySem.W.Frag) : TS := tSeq (tDrop (tBM K "list" rAppend (tDGet (tVar 4) (tVar 2)) aL)) (sDPut (tVar 4) (tC (.str "LATER")) (tC (.int 1)))
def b3 (K : PySem.W.Frag) : TS := tDrop (tBM K "list" rAppend (tOp (rIxT K) (tVar 4) (tC (.int 1))) aL)
def b4 (K : PySem.W.Frag) : TS := sDPut (tOp (rIxT K) (tVar 4) (tC (.int 1))) (tC (.str "LATER")) (tC (.int 1))
/-- the four changes of a thing, then what follows -/
def four (K : PySem.W.Frag) (u : TS) : TS := tSeq (tIfS (tI K "list") (b1 K) tNext) (tSeq (tIfS (tI K "dict") (b2 K) tNext) (tSeq (tIfS (tAnd (tI K "tuple") (tI1 K "list")) (b3 K) tNext) (tSeq (tIfS (tAnd (tI K "tuple") (tI1 K "dict")) (b4 K) tNext) u)))
section
variable {K : PySem.W.Frag} {σ : St} {H : Hp} {D : Ends} {v : V} {t : String} {u : TS}
theorem no4 (h4 : σ[4]? = some (some v)) (ty : TyX K H v (.type t)) (e1 : kitB t "list" = some false) (e2 : kitB t "dict" = some false) (e3 : kitB t "tuple" = some false) (k : u D σ H) : four K u D σ H :=
  if_is (b := false) h4 ty e1 (fun z => nomatch z) fun _ => if_is (b := false) h4 ty e2 (fun z => nomatch z) fun _ => if_and (b := false) h4 ty e3 (fun z => nomatch z) fun _ => if_and (b := false) h4 ty e3 (fun z => nomatch z) fun _ => k
theorem no4' (h4 : σ[4]? = some (some v)) (ty : TyX K H v (.type t)) (e2 : kitB t "dict" = some false) (e3 : kitB t "tuple" = some false) (k : u D σ H) :
    (tSeq (tIfS (tI K "dict") (b2 K) tNext) (tSeq (tIfS (tAnd (tI K "tuple") (tI1 K "list")) (b3 K) tNext) (tSeq (tIfS (tAnd (tI K "tuple") (tI1 K "dict")) (b4 K) tNext) u))) D σ H :=
  if_is (b := false) h4 ty e2 (fun z => nomatch z) fun _ => if_and (b := false) h4 ty e3 (fun z => nomatch z) fun _ => if_and (b := false) h4 ty e3 (fun z => nomatch z) fun _ => k
theorem later_fit : Fit 0 82 (.str "later") := lit_fit (by decide)
theorem LATER_fit : Fit 0 82 (.str "LATER") := lit_fit (by decide)
theorem one_fit : Fit 0 20 (.int 1) := fit_int (by decide)
/-- what stands behind d["LATER"] = 1 in a dict of one entry -/
theorem put_data {H' : Hp} {a : Addr} {z : Str} {x : V} {e : PyData} (hz : Word z) (h : H' a = some (.dK (putK [((.inr z : Key), x)] (.inr "LATER") (.int 1)))) (hx : Dx H' x e) (fe : Fit 1 200 e) : ∃ d, Dx H' (.ref a) d ∧ Fit 2 400 d := by
  have q : putK [((.inr z : Key), x)] (.inr "LATER") (.int 1) = if z = "LATER" then [(.inr z, .int 1)] else [(.inr z, x), (.inr "LATER", .int 1)] := by
    unfold putK
    by_cases c : z = "LATER"
    · subst c; simp
    · have c2 : ¬ (Sum.inr z : Key) = Sum.inr ("LATER" : Str) := fun y => c (Sum.inr.inj y)
      simp [c2, c]
  rw [q] at h
  have fw := (word_fit hz).mono (by decide : 0 ≤ 1) (Nat.le_refl _)
  by_cases c : z = "LATER"
  · rw [if_pos c] at h
    exact ⟨_, .dct h (.cons (.int 1) .nil), (fit_dct1 fw (one_fit.mono (by decide) (Nat.le_refl _))).mono (by decide) (by decide)⟩
  · rw [if_neg c] at h
    exact ⟨_, .dct h (.cons hx (.cons (.int 1) .nil)), (fit_dct2 fw fe (LATER_fit.mono (by decide) (Nat.le_refl _)) (one_fit.mono (by decide) (Nat.le_refl _))).mono (by decide) (by decide)⟩
theorem one_lt : ([V.non] : List V).length < sizeLine := by rw [sizeLine_eq]; decide
theorem mutate {HS HT : Hp} {z : Str} (hz : Word z) (T0 : Thing HS HT z v) (s : Same HT H) (h2 : σ[2]? = some (some (.str z))) (h4 : σ[4]? = some (some v))
    (k : ∀ H' d, Dx H' v d → Good d → Mu HS HT H H' → u D σ H') : four K u D σ H := by
  have fw := word_fit hz
  have flat : (∃ d, Dx H v d ∧ Fit 5 2000 d) → u D σ H := fun ⟨d, a, b⟩ => k H d a b.good (Mu.refl _ _ _)
  have dat := (T0.same s).data hz
  cases T0 with
  | non => exact no4 h4 (.base .non) (by decide +kernel) (by decide +kernel) (by decide +kernel) (flat dat)
  | bl b => exact no4 h4 (.base (.bl b)) (by decide +kernel) (by decide +kernel) (by decide +kernel) (flat dat)
  | int i hi => exact no4 h4 (.base (.int i)) (by decide +kernel) (by decide +kernel) (by decide +kernel) (flat dat)
  | str => exact no4 h4 (.base (.str z)) (by decide +kernel) (by decide +kernel) (by decide +kernel) (flat dat)
  | @t1 t p nt np ht hp =>
    have ht1 := s _ _ ht
    have hp1 := s _ _ hp
    refine if_is (b := false) h4 (.base (.tup ht1)) (by decide +kernel) (fun z => nomatch z) fun _ => if_is (b := false) h4 (.base (.tup ht1)) (by decide +kernel) (fun z => nomatch z) fun _ =>
      if_and (b := true) h4 (.base (.tup ht1)) (by decide +kernel) (fun _ => ⟨t, _, _, "dict", false, rfl, ht1, rfl, .base (.dK hp1), by decide +kernel, (fun z => nomatch z), fun _ => ?_⟩) fun z => nomatch z
    refine if_and (b := true) h4 (.base (.tup ht1)) (by decide +kernel) (fun _ => ⟨t, _, _, "dict", true, rfl, ht1, rfl, .base (.dK hp1), by decide +kernel, fun _ => ?_, fun z => nomatch z⟩) fun z => nomatch z
    refine ⟨_, h4, t, _, 1, _, rfl, rfl, SqT.of ht1, rfl, p, _, rfl, DPut.k (k := .inr "LATER") hp1 one_lt, ?_⟩
    obtain ⟨d, dx, fd⟩ := put_data (H' := upd H p _) hz upd_same (.str z) (fw.mono (by decide : 0 ≤ 1) (by decide : 82 ≤ 200))
    have ntp : t ≠ p := ne_of ht1 hp1 (by intro q; cases q)
    exact k _ _ (.tup (by rw [upd_ne ntp]; exact ht1) (.cons (.str _) (.cons dx .nil))) (((fit_tup2 ((lit_fit (x := "says") (by decide)).mono (by decide : 0 ≤ 2) (Nat.le_refl _)) fd).mono (by decide) (by decide)).good) (Mu.one np hp hp1 fun φ q => by cases q)
  | @t2 t b nt nb ns ht hb =>
    have ht1 := s _ _ ht
    have hb1 := s _ _ hb
    refine if_is (b := false) h4 (.base (.tup ht1)) (by decide +kernel) (fun z => nomatch z) fun _ => if_is (b := false) h4 (.base (.tup ht1)) (by decide +kernel) (fun z => nomatch z) fun _ =>
      if_and (b := true) h4 (.base (.tup ht1)) (by decide +kernel) (fun _ => ⟨t, _, _, "list", true, rfl, ht1, rfl, .base (.lst hb1), by decide +kernel, fun _ => ?_, fun z => nomatch z⟩) fun z => nomatch z
    refine ⟨_, h4, t, _, 1, _, rfl, rfl, SqT.of ht1, rfl, .inl ⟨rfl, _, SqL.of hb1⟩, b, _, _, rfl, rfl, hb1, one_lt, ?_⟩
    have ntb : t ≠ b := ne_of ht1 hb1 (by intro q; cases q)
    have ht2 : upd H b (.lst ([.str z] ++ [.str "later"])) t = some (.tup [.str z, .ref b]) := by rw [upd_ne ntb]; exact ht1
    refine if_and (b := true) h4 (.base (.tup ht2)) (by decide +kernel) (fun _ => ⟨t, _, _, "list", false, rfl, ht2, rfl, .base (.lst upd_same), by decide +kernel, (fun z => nomatch z), fun _ => ?_⟩) fun z => nomatch z
    exact k _ _ (.tup ht2 (.cons (.str _) (.cons (.lst upd_same ns (.cons (.str _) (.cons (.str _) .nil))) .nil))) (((fit_tup2 (fw.mono (by decide : 0 ≤ 1) (Nat.le_refl _)) (fit_lst2 fw later_fit)).mono (by decide) (by decide)).good) (Mu.one nb hb hb1 fun φ q => by cases q)
  | @d3 p b np nb ns hp hb =>
    have hp1 := s _ _ hp
    have hb1 := s _ _ hb
    have npb : p ≠ b := ne_of hp1 hb1 (by intro q; cases q)
    refine if_is (b := false) h4 (.base (.dK hp1)) (by decide +kernel) (fun z => nomatch z) fun _ => if_is (b := true) h4 (.base (.dK hp1)) (by decide +kernel) (fun _ => ?_) fun z => nomatch z
    have g0 : DGet H p (.str z) (some (.ref b)) := by
      have q := DGet.k (k := .inr z) hp1
      rw [valV_pos rfl] at q; exact q
    refine ⟨_, h4, _, h2, p, _, rfl, g0, .inl ⟨rfl, _, SqL.of hb1⟩, b, _, _, rfl, rfl, hb1, one_lt, ?_⟩
    have hp2 : upd H b (.lst ([.str z] ++ [.str "later"])) p = some (.dK [(.inr z, .ref b)]) := by rw [upd_ne npb]; exact hp1
    refine ⟨_, h4, p, _, rfl, DPut.k (k := .inr "LATER") hp2 one_lt, ?_⟩
    have hb3 : upd (upd H b (.lst ([.str z] ++ [.str "later"]))) p (.dK (putK [((.inr z : Key), V.ref b)] (.inr "LATER") (.int 1))) b = some (.lst [.str z, .str "later"]) := by rw [upd_ne npb.symm]; exact upd_same
    obtain ⟨d, dx, fd⟩ := put_data (H' := upd (upd H b (.lst ([.str z] ++ [.str "later"]))) p _) hz upd_same (.lst hb3 ns (.cons (.str _) (.cons (.str _) .nil))) ((fit_lst2 fw later_fit).mono (Nat.le_refl _) (by decide))
    refine if_and (b := false) h4 (.base (.dK upd_same)) (by decide +kernel) (fun z => nomatch z) fun _ => if_and (b := false) h4 (.base (.dK upd_same)) (by decide +kernel) (fun z => nomatch z) fun _ => ?_
    exact k _ d dx (fd.mono (by decide) (by decide)).good ((Mu.one nb hb hb1 fun φ q => by cases q).trans (Mu.one np hp hp2 fun φ q => by cases q))
  | @l4 b nb ns hb =>
    have hb1 := s _ _ hb
    refine if_is (b := true) h4 (.base (.lst hb1)) (by decide +kernel) (fun _ => ?_) fun z => nomatch z
    refine ⟨_, h4, .inl ⟨rfl, _, SqL.of hb1⟩, b, _, _, rfl, rfl, hb1, one_lt, ?_⟩
    refine no4' h4 (.base (.lst upd_same)) (by decide +kernel) (by decide +kernel) ?_
    exact k _ _ (.lst upd_same ns (.cons (.str _) (.cons (.str _) .nil))) (((fit_lst2 fw later_fit).mono (by decide) (by decide)).good) (Mu.one nb hb hb1 fun φ q => by cases q)
  | @l5 l b c nl nb nc ns ms hl hb hc =>
    have hl1 := s _ _ hl
    have hb1 := s _ _ hb
    have hc1 := s _ _ hc
    have nlb : b ≠ l := ne_of hb1 hl1 (by intro q; cases q)
    have nlc : c ≠ l := ne_of hc1 hl1 (by intro q; cases q)
    refine if_is (b := true) h4 (.base (.lst hl1)) (by decide +kernel) (fun _ => ?_) fun z => nomatch z
    refine ⟨_, h4, .inl ⟨rfl, _, SqL.of hl1⟩, l, _, _, rfl, rfl, hl1, by show 2 < sizeLine; rw [sizeLine_eq]; decide, ?_⟩
    refine no4' h4 (.base (.lst upd_same)) (by decide +kernel) (by decide +kernel) ?_
    refine k _ _ (.lst upd_same ns (.cons (.lst (by rw [upd_ne nlb]; exact hb1) ms (.cons (.str _) .nil)) (.cons (.dct (by rw [upd_ne nlc]; exact hc1) (.cons (.str _) .nil)) (.cons (.str _) .nil)))) ?_ (Mu.one nl hl hl1 fun φ q => by cases q)
    exact ((fit_lst3 (fit_lst1 fw) ((fit_dct1 (lit_fit (x := "done") (by decide)) fw).mono (Nat.le_refl _) (by decide : 82 + 82 + 6 ≤ 200)) (later_fit.mono (by decide : 0 ≤ 1) (Nat.le_refl _))).mono (by decide) (by decide)).good
end
end X1
end L2
namespace L2
namespace X1
open PySem PySem.Spec PyProof.Rows D1
/-! the displays of the law, by what they leave -/
def rLstN (t : TA) : TE := fun σ H Q => t σ H fun xs H1 => xs.length ≤ sizeLine ∧ ∀ p, H1 p = none → p ≠ sysModules → Q (.ref p) (upd H1 p (.lst xs))
/-- [word] -/
def tWl : TE := fun σ H Q => ∃ z, σ[2]? = some (some (.str z)) ∧ ∀ b H', Same H H' → H b = none → b ≠ sysModules → H' b = some (.lst [.str z]) → Q (.ref b) H'
theorem wl_imp {σ : St} {H : Hp} {Q : VK} (h : tWl σ H Q) : rLstN (tCons (tVar 2) tNil) σ H Q := by
  obtain ⟨z, e, k⟩ := h
  exact ⟨_, e, by show 1 ≤ sizeLine; decide, fun p np ns => k p _ (same_new np) np ns upd_same⟩
theorem merge1 (k : Key) (v : V) : mergeK [] [(k, v)] = [(k, v)] := by simp [mergeK, putK]
/-- {word: word} -/
def tWd : TE := fun σ H Q => ∃ z, σ[2]? = some (some (.str z)) ∧ ∀ p H', Same H H' → H p = none → H' p = some (.dK [(.inr z, .str z)]) → Q (.ref p) H'
theorem two_upd {H H2 : Hp} {p : Addr} {o : HO} (np : H p = none) (s : ∀ b u, H b = some u → H2 b = some u) : Same H (upd H2 p o) := fun b u e => by rw [upd_ne (ne_of_none e np)]; exact s b u e
theorem wd_imp {σ : St} {H : Hp} {Q : VK} (h : tWd σ H Q) : tDisp [(tVar 2, tVar 2)] σ H Q := by
  obtain ⟨z, e, k⟩ := h
  refine fun p np => ⟨_, e, _, e, upd_same, [(.inr z, .str z)], rfl, by show 1 ≤ 15; decide, ?_⟩
  rw [merge1]
  exact k p _ (two_upd np (same_new np)) np upd_same
/-- {"done": word} -/
def tDd : TE := fun σ H Q => ∃ z, σ[2]? = some (some (.str z)) ∧ ∀ p H', Same H H' → H p = none → H' p = some (.dK [(.inr "done", .str z)]) → Q (.ref p) H'
theorem dd_imp {σ : St} {H : Hp} {Q : VK} (h : tDd σ H Q) : tDisp [(tC (.str "done"), tVar 2)] σ H Q := by
  obtain ⟨z, e, k⟩ := h
  refine fun p np => ⟨_, e, upd_same, [(.inr "done", .str z)], rfl, by show 1 ≤ 15; decide, ?_⟩
  rw [merge1]
  exact k p _ (two_upd np (same_new np)) np upd_same
/-- {word: [word]} -/
def tDl : TE := fun σ H Q => ∃ z, σ[2]? = some (some (.str z)) ∧ ∀ p b H', Same H H' → H p = none → H b = none → b ≠ sysModules → H' p = some (.dK [(.inr z, .ref b)]) → H' b = some (.lst [.str z]) → Q (.ref p) H'
theorem dl_imp {σ : St} {H : Hp} {Q : VK} (h : tDl σ H Q) : tDisp [(tVar 2, tWl)] σ H Q := by
  obtain ⟨z, e, k⟩ := h
  refine fun p np => ⟨_, e, z, e, fun b H2 s2 nb ns hb => ⟨s2 _ _ upd_same, [(.inr z, .ref b)], rfl, by show 1 ≤ 15; decide, ?_⟩⟩
  rw [merge1]
  have nbp : b ≠ p := fun q => by rw [q, upd_same] at nb; cases nb
  have nb0 : H b = none := by rw [upd_ne nbp] at nb; exact nb
  exact k p b _ (two_upd np fun x u q => s2 _ _ (same_new np _ _ q)) np nb0 ns upd_same (by rw [upd_ne nbp]; exact hb)
/-- ("says", {word: word}) -/
def tT1 : TE := fun σ H Q => ∃ z, σ[2]? = some (some (.str z)) ∧ ∀ t p H', Same H H' → H t = none → H p = none → H' t = some (.tup [.str "says", .ref p]) → H' p = some (.dK [(.inr z, .str z)]) → Q (.ref t) H'
theorem t1_imp {σ : St} {H : Hp} {Q : VK} (h : tT1 σ H Q) : tTup (tCons (tC (.str "says")) (tCons tWd tNil)) σ H Q := by
  obtain ⟨z, e, k⟩ := h
  refine ⟨z, e, fun p H1 s1 np hp => ⟨by show 2 ≤ sizeLine; decide, fun t nt => ?_⟩⟩
  have st : Same H1 (upd H1 t (.tup [.str "says", .ref p])) := same_new nt
  exact k t p _ (s1.trans st) (s1.free nt) np upd_same (st _ _ hp)
/-- (word, [word]) -/
def tT2 : TE := fun σ H Q => ∃ z, σ[2]? = some (some (.str z)) ∧ ∀ t b H', Same H H' → H t = none → H b = none → b ≠ sysModules → H' t = some (.tup [.str z, .ref b]) → H' b = some (.lst [.str z]) → Q (.ref t) H'
theorem t2_imp {σ : St} {H : Hp} {Q : VK} (h : tT2 σ H Q) : tTup (tCons (tVar 2) (tCons tWl tNil)) σ H Q := by
  obtain ⟨z, e, k⟩ := h
  refine ⟨_, e, z, e, fun b H1 s1 nb ns hb => ⟨by show 2 ≤ sizeLine; decide, fun t nt => ?_⟩⟩
  have st : Same H1 (upd H1 t (.tup [.str z, .ref b])) := same_new nt
  exact k t b _ (s1.trans st) (s1.free nt) nb ns upd_same (st _ _ hb)
/-- [[word], {"done": word}] -/
def tL5 : TE := fun σ H Q => ∃ z, σ[2]? = some (some (.str z)) ∧ ∀ l b c H', Same H H' → H l = none → H b = none → H c = none → l ≠ sysModules → b ≠ sysModules → H' l = some (.lst [.ref b, .ref c]) → H' b = some (.lst [.str z]) → H' c = some (.dK [(.inr "done", .str z)]) → Q (.ref l) H'
theorem l5_imp {σ : St} {H : Hp} {Q : VK} (h : tL5 σ H Q) : rLstN (tCons tWl (tCons tDd tNil)) σ H Q := by
  obtain ⟨z, e, k⟩ := h
  refine ⟨z, e, fun b H1 s1 nb ns hb => ⟨z, e, fun c H2 s2 nc hc => ⟨by show 2 ≤ sizeLine; decide, fun l nl ms => ?_⟩⟩⟩
  have sl : Same H2 (upd H2 l (.lst [.ref b, .ref c])) := same_new nl
  exact k l b c _ ((s1.trans s2).trans sl) ((s1.trans s2).free nl) nb (s1.free nc) ms ns upd_same (sl _ _ (s2 _ _ hb)) (sl _ _ hc)
/-- ("later", word) -/
def laterD (z : Str) : PyData := .tuple [.str "later", .str z]
theorem later_good {z : Str} (hz : Word z) : Good (laterD z) := ((fit_tup2 later_fit (word_fit hz)).mono (by decide) (by decide)).good
theorem later_dx {H : Hp} {t : Addr} {z : Str} (h : H t = some (.tup [.str "later", .str z])) : Dx H (.ref t) (laterD z) := .tup h (.cons (.str _) (.cons (.str _) .nil))
theorem non_good : Good .none := (fit_non.mono (by decide) (by decide)).good
theorem Errs.mono {C : Nat → Addr} {H H' : Hp} {as : List Addr} {v : V} (h : Errs C H as v) (k : ∀ a c, ExcAt H a c v → ExcAt H' a c v) : Errs C H' as v := Paired.mono (fun c a e => k a c e) h
theorem Errs.same {C : Nat → Addr} {H H' : Hp} {as : List Addr} {v : V} (h : Errs C H as v) (s : Same H H') : Errs C H' as v := h.mono fun a c e => e.same s
def spLaw (K : PySem.W.Frag) : Sp := fun vs H Q _ => ∃ (a : Addr) (ns : List Int), vs = [.ref a] ∧ SqL K H a (ns.map V.int) ∧ ns.length ≤ 63 ∧ ∀ H', Q (.bl true) H'
structure More (mg : Str → Option Value) : Prop where
  list : mg "list" = none
  dict : mg "dict" = none
  tuple : mg "tuple" = none
abbrev s_law : Stmt := top 43
abbrev lawN : List Str := ["_law_script", "_law_purse_here", "_law_word_here", "_law_plain", "_law_thing", "_law_noted", "_law_some", "_law_called_here", "_law_later", "_law_rest", "_law_error"]
theorem sc_law : FnScope lawN ["_law_script"] (defScope s_law) := ⟨rfl, rfl, rfl, by decide +kernel, rfl, by decide +kernel, by decide +kernel⟩
end X1
end L2
namespace L2
namespace X1
open PySem PySem.Spec PyProof.Rows D1
section
variable {P : Program} {w : World} {K : PySem.W.Frag} {mg : Str → Option Value} {base : Heap} {C : Nat → Addr}
/-- a callee as the law finds it -/
structure Cal (P : Program) (w : World) (K : PySem.W.Frag) (mg : Str → Option Value) (base : Heap) (k : Nat) (x : Str) (ps : List Str) (sp : Sp) (f : Addr) (fd : FuncData) : Prop where
  ok : FnOk P w K mg base CX0 k f fd ps sp
  kp : PySem.W.keepIn K (.ref f) = true
  b : Binds K fd ps []
  g : mg x = some (.ref f)
structure CalG (P : Program) (w : World) (K : PySem.W.Frag) (mg : Str → Option Value) (base : Heap) (k : Nat) (x : Str) (ps : List Str) (sp : Sp) (f : Addr) (fd : FuncData) : Prop where
  ok : FnG P w K mg base CX0 k f fd ps sp
  kp : PySem.W.keepIn K (.ref f) = true
  b : Binds K fd ps []
  g : mg x = some (.ref f)
def restD : PyData := .list (([26, 27] : List Nat).map fun j : Nat => PyData.list [.int j])
theorem rest_ok : SeqAt.shaped restD = true ∧ PyData.eqv restD restD = true := by decide +kernel
theorem isE_upd {H : Hp} {x c r : Addr} {xs ys : List V} (e : IsE H x c) (h : H r = some (.lst xs)) : IsE (upd H r (.lst ys)) x c := by
  have ne : ∀ {y : Addr} {φ : Heap → Prop}, H y = some (.ext φ) → y ≠ r := fun {y φ} q z => by rw [z, h] at q; cases q
  rcases e with ⟨v, d, q1, q2⟩ | q
  · exact .inl ⟨v, d, by rw [upd_ne (ne q1)]; exact q1, by rw [upd_ne (ne q2)]; exact q2⟩
  · exact .inr (by rw [upd_ne (ne q)]; exact q)
theorem ok_law {f f1 f2 f3 f4 f5 f6 f7 f8 f9 : Addr} {fd d1 d2 d3 d4 d5 d6 d7 d8 d9 : FuncData} (F : Fun K "law" "law" s_law f fd) (T : Free mg) (M : More mg) (G : All K mg C)
    (PS : Cal P w K mg base 2 "_law_purses" ["_law_script", "_law_few"] (spPurses K) f1 d1) (WD : Cal P w K mg base 3 "_law_word" ["_law_purse_here"] spWord f2 d2) (ON : Cal P w K mg base 3 "_law_one_of" ["_law_purse_here", "_law_some"] spOneOf f3 d3)
    (FI : Cal P w K mg base 3 "_law_first" ["_law_thing"] (spMks C) f4 d4) (CA : Cal P w K mg base 3 "_law_called" ["_law_thing"] (spMks C) f5 d5) (BA : Cal P w K mg base 3 "_law_bare" [] (spMks0 C) f6 d6)
    (CO : Cal P w K mg base 1 "_law_code" ["_law_error"] (spCode C) f7 d7) (IE : Cal P w K mg base 1 "_law_is_error" ["_law_error"] (spIsErr C) f8 d8) (RI : CalG P w K mg base 2 "_law_right" ["_law_some", "_law_noted"] (spRight C) f9 d9) :
    FnG P w K mg base CX0 4 f fd ["_law_script"] (spLaw K) := by
  refine Fun.okG F sc_law (fun vs H Q E h => ?_) (fun cdv A outer s H vs Q E hr gd h => ?_)
  · obtain ⟨a, ns, rfl, _⟩ := h; rfl
  · obtain ⟨a, ns, rfl, hS, l63, k⟩ := h
    have h2 : Room 2 _ := hr.mono (by decide)
    have h1 : Room 1 _ := hr.mono (by decide)
    have hu := hu_of hr
    refine ⟨_, pss_cons (ps_for PassesOwn.never rfl (pi_list (pe_call PS.ok h2 rfl PS.g PS.kp PS.b .nil pass0 (pa_cons (pv 0) (pa_cons pe_int pa_nil)))) (pg_name (i := 1) sc_law.nd rfl (Or.inl rfl))
        (pss_cons (ps_set (i := 2) sc_law.nd rfl (Or.inl rfl) (pe_call WD.ok hr rfl WD.g WD.kp WD.b .nil pass0 (pa_cons (pv 1) pa_nil)))
        (pss_cons (ps_set (i := 3) sc_law.nd rfl (Or.inl rfl) (pe_lst (pa_cons pe_non (pa_cons pe_bl (pa_cons pe_bl (pa_cons pe_int (pa_cons (pv 2) (pa_cons (pe_un un_neg (pe_ix ix_list (pv 1) pe_int (fun _ _ => rfl)))
          (pa_cons (PE.imp (pe_tup (pa_cons pe_str (pa_cons (PE.imp (pe_disp (pps_cons (pv 2) (pv 2) pps_nil) rfl rfl (by simp) (by decide)) fun _ _ _ => wd_imp) pa_nil))) fun _ _ _ => t1_imp)
          (pa_cons (PE.imp (pe_tup (pa_cons (pv 2) (pa_cons (PE.imp (pe_lstN (pa_cons (pv 2) pa_nil)) fun _ _ _ => wl_imp) pa_nil))) fun _ _ _ => t2_imp)
          (pa_cons (PE.imp (pe_disp (pps_cons (pv 2) (PE.imp (pe_lstN (pa_cons (pv 2) pa_nil)) fun _ _ _ => wl_imp) pps_nil) rfl rfl (by simp) (by decide)) fun _ _ _ => dl_imp) pa_nil)))))))))))
        (pss_cons (ps_set (i := 4) sc_law.nd rfl (Or.inl rfl) (pe_call ON.ok hr rfl ON.g ON.kp ON.b .nil pass0 (pa_cons (pv 1) (pa_cons (pe_op op_cat (pv 3) (pe_lst (pa_cons (PE.imp (pe_lstN (pa_cons (pv 2) pa_nil)) fun _ _ _ => wl_imp)
          (pa_cons (PE.imp (pe_lstN (pa_cons (PE.imp (pe_lstN (pa_cons (pv 2) pa_nil)) fun _ _ _ => wl_imp) (pa_cons (PE.imp (pe_disp (pps_cons pe_str (pv 2) pps_nil) rfl rfl (by simp) (by decide)) fun _ _ _ => dd_imp) pa_nil))) fun _ _ _ => l5_imp) pa_nil)))) pa_nil))))
        (pss_cons (ps_set (i := 5) sc_law.nd rfl (Or.inl rfl) (pe_callB (call_repr gd hr.units) (by rfl) T.repr (by decide +kernel) (pa_cons (pv 4) pa_nil)))
        (pss_cons (ps_par3 (i := 6) (j := 7) (l := 8) rfl sc_law.nd rfl rfl rfl (by decide) (by decide) (by decide) rfl rfl rfl
          (pa_cons (pe_call FI.ok hr rfl FI.g FI.kp FI.b .nil pass0 (pa_cons (pv 4) pa_nil)) (pa_cons (pe_call CA.ok hr rfl CA.g CA.kp CA.b .nil pass0 (pa_cons (pv 4) pa_nil)) (pa_cons (pe_call FI.ok hr rfl FI.g FI.kp FI.b .nil pass0 (pa_cons (pe_tup (pa_cons pe_str (pa_cons (pv 2) pa_nil))) pa_nil)) pa_nil))) rfl)
        (pss_cons (ps_if (PW.pt (pw_or (pt_not (pt_val (pe_callG RI.ok gd h2 rfl RI.g RI.kp RI.b .nil pass0 (pa_cons (pe_call0 BA.ok hr rfl BA.g BA.kp BA.b .nil pass0) (pa_cons pe_str pa_nil)))))
          (pw_or1 (pt_not (pt_val (pe_callG RI.ok gd h2 rfl RI.g RI.kp RI.b .nil pass0 (pa_cons (pv 8) (pa_cons (pe_callB (call_repr gd hr.units) (by rfl) T.repr (by decide +kernel) (pa_cons (pe_tup (pa_cons pe_str (pa_cons (pv 2) pa_nil))) pa_nil)) pa_nil)))))))) (pss_one (ps_ret pe_bl)) pss_nil)
        (pss_cons (ps_if (PW.pt (pw_or (pt_not (pt_val (pe_callG RI.ok gd h2 rfl RI.g RI.kp RI.b .nil pass0 (pa_cons (pv 6) (pa_cons (pv 5) pa_nil)))))
          (pw_or1 (pt_not (pt_val (pe_callG RI.ok gd h2 rfl RI.g RI.kp RI.b .nil pass0 (pa_cons (pv 7) (pa_cons (pv 5) pa_nil)))))))) (pss_one (ps_ret pe_bl)) pss_nil)
        (pss_cons (ps_if (pt_val (pe_callB call_isi (by rfl) T.isi (by decide +kernel) (pa_cons (pv 4) (pa_cons (pe_bltn (v := .ty "list") rfl M.list (by decide +kernel) rfl) pa_nil))))
          (pss_one (ps_expr (pe_bm PySem.F.plainAttrs_list PySem.F.slot_list_append PySem.F.type_list_append mt_append (pv 4) (pa_cons pe_str pa_nil)))) pss_nil)
        (pss_cons (ps_if (pt_val (pe_callB call_isi (by rfl) T.isi (by decide +kernel) (pa_cons (pv 4) (pa_cons (pe_bltn (v := .ty "dict") rfl M.dict (by decide +kernel) rfl) pa_nil))))
          (pss_cons (ps_expr (pe_bm PySem.F.plainAttrs_list PySem.F.slot_list_append PySem.F.type_list_append mt_append (pe_dget hu (pv 4) (pv 2) (fun _ _ => rfl)) (pa_cons pe_str pa_nil))) (pss_one (ps_dput hu (pv 4) pe_str pe_int rfl))) pss_nil)
        (pss_cons (ps_if (PW.pt (pw_and (pt_val (pe_callB call_isi (by rfl) T.isi (by decide +kernel) (pa_cons (pv 4) (pa_cons (pe_bltn (v := .ty "tuple") rfl M.tuple (by decide +kernel) rfl) pa_nil))))
            (pw_and1 (pt_val (pe_callB call_isi (by rfl) T.isi (by decide +kernel) (pa_cons (pe_ix ix_tup (pv 4) pe_int (fun _ _ => rfl)) (pa_cons (pe_bltn (v := .ty "list") rfl M.list (by decide +kernel) rfl) pa_nil)))))))
          (pss_one (ps_expr (pe_bm PySem.F.plainAttrs_list PySem.F.slot_list_append PySem.F.type_list_append mt_append (pe_ix ix_tup (pv 4) pe_int (fun _ _ => rfl)) (pa_cons pe_str pa_nil)))) pss_nil)
        (pss_cons (ps_if (PW.pt (pw_and (pt_val (pe_callB call_isi (by rfl) T.isi (by decide +kernel) (pa_cons (pv 4) (pa_cons (pe_bltn (v := .ty "tuple") rfl M.tuple (by decide +kernel) rfl) pa_nil))))
            (pw_and1 (pt_val (pe_callB call_isi (by rfl) T.isi (by decide +kernel) (pa_cons (pe_ix ix_tup (pv 4) pe_int (fun _ _ => rfl)) (pa_cons (pe_bltn (v := .ty "dict") rfl M.dict (by decide +kernel) rfl) pa_nil)))))))
          (pss_one (ps_dput hu (pe_ix ix_tup (pv 4) pe_int (fun _ _ => rfl)) pe_str pe_int rfl)) pss_nil)
        (pss_one (ps_if (PW.pt (pw_or (pt_not (pt_val (pe_callG RI.ok gd h2 rfl RI.g RI.kp RI.b .nil pass0 (pa_cons (pv 6) (pa_cons (pe_callB (call_repr gd hr.units) (by rfl) T.repr (by decide +kernel) (pa_cons (pv 4) pa_nil)) pa_nil)))))
          (pw_or1 (pt_not (pt_val (pe_callG RI.ok gd h2 rfl RI.g RI.kp RI.b .nil pass0 (pa_cons (pv 7) (pa_cons (pe_callB (call_repr gd hr.units) (by rfl) T.repr (by decide +kernel) (pa_cons (pv 4) pa_nil)) pa_nil)))))))) (pss_one (ps_ret pe_bl)) pss_nil))))))))))))))
      (pss_cons (ps_set (i := 9) sc_law.nd rfl (Or.inl rfl) (pe_lst (pa_cons (pe_exc0 PySem.F.excBase_ValueError (G.ex 26 (by decide) (by decide)) (G.g 26 (by decide)) (G.xf 26 (by decide)).ox.kC) (pa_cons (pe_exc0 PySem.F.excBase_ValueError (G.ex 27 (by decide) (by decide)) (G.g 27 (by decide)) (G.xf 27 (by decide)).ox.kC) pa_nil))))
      (pss_cons (ps_if (pt_cmpR (op_neD hr.units)
          (pe_lc (own := [("_law_error", 10)]) (g := gName 10) (tt := tYes) rfl sc_law.nd (pi_list (pv 9)) (blkOk_by (N := lawN) (sc := defScope s_law) (by decide +kernel)) (fun _ _ _ _ _ => pg_name (i := 10) sc_law.nd rfl (Or.inl rfl)) (fun _ _ _ _ _ => pts_nil)
            (fun _ _ _ _ _ => pe_call CO.ok h1 rfl CO.g CO.kp CO.b .nil pass0 (pa_cons (pv 10) pa_nil)))
          (pe_lst (pa_cons (pe_lst (pa_cons pe_int pa_nil)) (pa_cons (pe_lst (pa_cons pe_int pa_nil)) pa_nil))) (nomark _)) (pss_one (ps_ret pe_bl)) pss_nil)
      (pss_cons (ps_expr (pe_bm PySem.F.plainAttrs_list PySem.F.slot_list_append PySem.F.type_list_append mt_append (pv 9) (pa_cons (pe_exc0 PySem.F.excBase_ValueError (G.ex 28 (by decide) (by decide)) (G.g 28 (by decide)) (G.xf 28 (by decide)).ox.kC) pa_nil)))
      (pss_one (ps_ret (pe_and (pe_callB (cr_all rfl) (by rfl) T.all (by decide +kernel) (pa_cons (pe_lc (own := [("_law_error", 10)]) (g := gName 10) (tt := tYes) rfl sc_law.nd (pi_list (pv 9)) (blkOk_by (N := lawN) (sc := defScope s_law) (by decide +kernel)) (fun _ _ _ _ _ => pg_name (i := 10) sc_law.nd rfl (Or.inl rfl)) (fun _ _ _ _ _ => pts_nil)
            (fun _ _ _ _ _ => pe_call IE.ok h1 rfl IE.g IE.kp IE.b .nil pass0 (pa_cons (pv 10) pa_nil))) pa_nil))
          (pe_one (pe_cmpR (op_eqD hr.units) (pe_call CO.ok h1 rfl CO.g CO.kp CO.b .nil pass0 (pa_cons (pe_ix ix_list (pv 9) pe_int (fun _ _ => rfl)) pa_nil)) (pe_lst pa_nil) (nomark _))))))))), ?_⟩
    -- for purse in purses(script, 3)
    refine ⟨_, rfl, a, ns, 3, rfl, hS, l63, by decide, by decide, fun H0 L ps s0 nL hL al nd nLps lps => ?_⟩
    refine ⟨L, rfl, ⟨_, SqL.of hL⟩, for_list (K := K) (a := L) (xs := ps.map V.ref) (fun i σ H' => (∃ v1 v2 v3 v4 v5 v6 v7 v8 : Option V, σ = [some (.ref a), v1, v2, v3, v4, v5, v6, v7, v8, none, none]) ∧ H' L = some (.lst (ps.map V.ref)) ∧ ∀ j q, i ≤ j → ps[j]? = some q → Purse H' q 0)
      ⟨⟨none, none, none, none, none, none, none, none, rfl⟩, hL, fun j q _ e => (al q (List.mem_of_getElem? e)).2⟩ (fun i σ H' _ ⟨_, e, _⟩ => SqL.of e) ?_ ?_⟩
    · rintro i y σ HS hy ⟨⟨v1, v2, v3, v4, v5, v6, v7, v8, rfl⟩, hLS, hps⟩
      obtain ⟨p, hp, rfl⟩ : ∃ p, ps[i]? = some p ∧ y = V.ref p := by
        rw [List.getElem?_map] at hy
        cases e : ps[i]? with
        | none => rw [e] at hy; cases hy
        | some p => rw [e] at hy; exact ⟨p, rfl, (Option.some.inj hy).symm⟩
      have pS : Purse HS p 0 := hps i p (Nat.le_refl _) hp
      have nLp : L ≠ p := fun e => nLps (e ▸ List.mem_of_getElem? hp)
      obtain ⟨po, hpo⟩ := pS.some
      -- the word
      refine ⟨_, rfl, p, 0, rfl, pS, by decide, fun z HW tw z1 z8 zc bW pW tw1 => ?_⟩
      have hz : Word z := ⟨z1, z8, zc⟩
      have newS : ∀ {x : Addr}, HW x = none → HS x = none := fun {x} e => by
        cases q : HS x with
        | none => rfl
        | some o =>
          by_cases c : x = p
          · obtain ⟨o2, e2⟩ := pW.some
            rw [c, e2] at e; cases e
          · rw [bW x o c q] at e; cases e
      obtain ⟨g, b, zz, epW, g0, g1, b0, b1, _⟩ := pW
      -- plain
      refine ⟨_, rfl, _, rfl, p, _, 1, _, rfl, rfl, SqL.of epW, rfl, b, rfl, ?_⟩
      refine ⟨z, rfl, fun t1 p1 HA sA nt1 np1 ht1 hp1 => ⟨z, rfl, fun t2 b2 HB sB nt2 nb2 ns2 ht2 hb2 => ⟨z, rfl, fun p3 b3 HC sC np3 nb3 ns3 hp3 hb3 => ⟨by show 9 ≤ sizeLine; decide, fun l nl => ?_⟩⟩⟩⟩
      have sD : Same HC (upd HC l (.lst [.non, .bl true, .bl false, .int 0, .str z, .int (-b), .ref t1, .ref t2, .ref p3])) := same_new nl
      generalize eHD : upd HC l (.lst [.non, .bl true, .bl false, .int 0, .str z, .int (-b), .ref t1, .ref t2, .ref p3]) = HD at sD
      have hlD : HD l = some (.lst [.non, .bl true, .bl false, .int 0, .str z, .int (-b), .ref t1, .ref t2, .ref p3]) := by rw [← eHD]; exact upd_same
      clear eHD
      have sWD : Same HW HD := ((sA.trans sB).trans sC).trans sD
      -- one of them
      refine ⟨_, rfl, _, rfl, z, rfl, fun b4 HE sE nb4 ns4 hb4 => ⟨z, rfl, fun l5 b5 c5 HF sF nl5 nb5 nc5 ms5 ns5 hl5 hb5 hc5 => ⟨by show 2 ≤ sizeLine; decide, fun q nq => ?_⟩⟩⟩
      have sG : Same HF (upd HF q (.lst [.ref b4, .ref l5])) := same_new nq
      refine ⟨l, q, _, _, rfl, rfl, sG _ _ (sF _ _ (sE _ _ hlD)), upd_same, by show 9 + 2 ≤ sizeLine; decide, fun r nr => ?_⟩
      generalize eHG : upd HF q (.lst [.ref b4, .ref l5]) = HG at sG nr
      clear eHG
      have sR : Same HG (upd HG r (.lst ([.non, .bl true, .bl false, .int 0, .str z, .int (-b), .ref t1, .ref t2, .ref p3] ++ [.ref b4, .ref l5]))) := same_new nr
      have sWX := ((sWD.trans sE).trans sF).trans (sG.trans sR)
      have hrX : upd HG r (.lst ([.non, .bl true, .bl false, .int 0, .str z, .int (-b), .ref t1, .ref t2, .ref p3] ++ [.ref b4, .ref l5])) r = some (.lst ([.non, .bl true, .bl false, .int 0, .str z, .int (-b), .ref t1, .ref t2, .ref p3] ++ [.ref b4, .ref l5])) := upd_same
      generalize upd HG r (.lst ([.non, .bl true, .bl false, .int 0, .str z, .int (-b), .ref t1, .ref t2, .ref p3] ++ [.ref b4, .ref l5])) = HX at sR sWX hrX
      have things : ∀ x ∈ ([.non, .bl true, .bl false, .int 0, .str z, .int (-b), .ref t1, .ref t2, .ref p3] ++ [.ref b4, .ref l5] : List V), Thing HS HX z x := by
        have sAX := (((sB.trans sC).trans sD).trans sE).trans (sF.trans (sG.trans sR))
        have sBX := ((sC.trans sD).trans sE).trans (sF.trans (sG.trans sR))
        have sCX := (sD.trans sE).trans (sF.trans (sG.trans sR))
        have sEX := sF.trans (sG.trans sR)
        have sFX := sG.trans sR
        intro x hx
        simp only [List.cons_append, List.nil_append, List.mem_cons, List.not_mem_nil, or_false] at hx
        rcases hx with rfl | rfl | rfl | rfl | rfl | rfl | rfl | rfl | rfl | rfl | rfl
        · exact .non
        · exact .bl true
        · exact .bl false
        · exact .int 0 (by decide)
        · exact .str
        · exact .int _ (by omega)
        · exact .t1 (newS nt1) (newS np1) (sAX _ _ ht1) (sAX _ _ hp1)
        · exact .t2 (newS (sA.free nt2)) (newS (sA.free nb2)) ns2 (sBX _ _ ht2) (sBX _ _ hb2)
        · exact .d3 (newS ((sA.trans sB).free np3)) (newS ((sA.trans sB).free nb3)) ns3 (sCX _ _ hp3) (sCX _ _ hb3)
        · exact .l4 (newS (sWD.free nb4)) ns4 (sEX _ _ hb4)
        · exact .l5 (newS ((sWD.trans sE).free nl5)) (newS ((sWD.trans sE).free nb5)) (newS ((sWD.trans sE).free nc5)) ms5 ns5 (sFX _ _ hl5) (sFX _ _ hb5) (sFX _ _ hc5)
      have hpX := sWX _ _ epW
      have nrp : r ≠ p := fun e => by
        rw [e, sG _ _ (sF _ _ (sE _ _ (sWD _ _ epW)))] at nr; cases nr
      refine ⟨p, r, _, tw, rfl, ⟨g, b, zz, hpX, g0, g1, b0, b1, by assumption⟩, hrX, nrp, by show 1 ≤ 11; decide, by show 11 < 2 ^ 20; decide, by omega, fun ix v t' o hv _ _ => ?_⟩
      have T0 : Thing HS (upd HX p o) z v := (things v (List.mem_of_getElem? hv)).move fun x u e q => by
        have n : x ≠ p := fun c => by rw [c, hpo] at e; cases e
        rw [upd_ne n]; exact q
      have bT : But p HS (upd HX p o) := (bW.trans (But.of sWX)).trans (But.upd p HX o)
      generalize upd HX p o = HT at T0 bT
      clear hv things hrX hpX sR sWX sG sF sE sWD sD sC sB sA
      obtain ⟨d, dx, fd⟩ := T0.data hz
      have gd1 := fd.good
      -- noted; some, called, later
      refine ⟨_, rfl, v, d, rfl, dx, gd1.1, gd1.2.1, gd1.2.2, ?_⟩
      refine ⟨_, rfl, v, rfl, fun L6 as6 H6 s6 n6 h6 e6 => ⟨_, rfl, v, rfl, fun L7 as7 H7 s7 n7 h7 e7 => ⟨_, rfl, by show 2 ≤ sizeLine; decide, fun t8 n8 => ?_⟩⟩⟩
      have st8 : Same H7 (upd H7 t8 (.tup [.str "later", .str z])) := same_new n8
      refine ⟨.ref t8, rfl, fun L8 as8 H8 s8 n8' h8 e8 => ⟨_, _, _, rfl, ?_⟩⟩
      have ht8 : H8 t8 = some (.tup [.str "later", .str z]) := s8 _ _ upd_same
      have s78 : Same H7 H8 := st8.trans s8
      -- the first test
      refine ⟨rfl, fun L9 as9 H9 s9 n9 h9 e9 => ⟨L9, as9, .non, .none, rfl, h9, e9, .non, non_good, fun H10 s10 => ⟨true, rfl, ?_⟩⟩⟩
      refine ite2 (fun c => absurd c (by decide)) (fun _ => ?_)
      refine ⟨_, rfl, _, rfl, by show 2 ≤ sizeLine; decide, fun t11 n11 => ?_⟩
      have s11 : Same H10 (upd H10 t11 (.tup [.str "later", .str z])) := same_new n11
      have s8b := (s9.trans s10).trans s11
      refine ⟨.ref t11, laterD z, rfl, later_dx upd_same, (later_good hz).1, (later_good hz).2.1, (later_good hz).2.2, ?_⟩
      refine ⟨L8, as8, .ref t8, laterD z, rfl, s8b _ _ h8, e8.same s8b, later_dx (s8b _ _ ht8), later_good hz, fun H12 s12 => ⟨true, rfl, ?_⟩⟩
      refine ite2 (fun c => absurd c (by decide)) (fun _ => ?_)
      have s8c := s8b.trans s12
      have s7c := s78.trans s8c
      have s6c := s7.trans s7c
      -- the second test
      refine ⟨_, rfl, _, rfl, L6, as6, v, d, rfl, s6c _ _ h6, e6.same s6c, dx.same (s6.trans s6c), gd1, fun H13 s13 => ⟨true, rfl, ?_⟩⟩
      refine ite2 (fun c => absurd c (by decide)) (fun _ => ?_)
      refine ⟨_, rfl, _, rfl, L7, as7, v, d, rfl, s13 _ _ (s7c _ _ h7), (e7.same s7c).same s13, (dx.same (s6.trans s6c)).same s13, gd1, fun H14 s14 => ⟨true, rfl, ?_⟩⟩
      refine ite2 (fun c => absurd c (by decide)) (fun _ => ?_)
      have s14c : Same H12 H14 := s13.trans s14
      have sT : Same HT H14 := (s6.trans s6c).trans s14c
      -- the changes
      refine mutate (K := K) hz T0 sT rfl rfl fun H15 d' dx' gd' mu => ?_
      have up : ∀ {x : Addr} {u : HO}, HT x = none → H14 x = some u → H15 x = some u := fun {x u} n e => mu x u e (.inr (.inr n))
      have s6d : Same H6 H14 := s6c.trans s14c
      have s7d : Same H7 H14 := s7c.trans s14c
      have h6' := up n6 (s6d _ _ h6)
      have h7' := up (s6.free n7) (s7d _ _ h7)
      have e6' : Errs C H15 as6 v := (e6.same s6d).mono fun x c e => mu.exc e
      have e7' : Errs C H15 as7 v := (e7.same s7d).mono fun x c e => mu.exc e
      refine ⟨_, rfl, _, rfl, v, d', rfl, dx', gd'.1, gd'.2.1, gd'.2.2, L6, as6, v, d', rfl, h6', e6', dx', gd', fun H16 s16 => ⟨true, rfl, ?_⟩⟩
      refine ite2 (fun c => absurd c (by decide)) (fun _ => ?_)
      refine ⟨_, rfl, _, rfl, v, d', rfl, dx'.same s16, gd'.1, gd'.2.1, gd'.2.2, L7, as7, v, d', rfl, s16 _ _ h7', e7'.same s16, dx'.same s16, gd', fun H17 s17 => ⟨true, rfl, ?_⟩⟩
      refine ite2 (fun c => absurd c (by decide)) (fun _ => ?_)
      have old : ∀ {x : Addr} {u : HO}, x ≠ p → HS x = some u → H17 x = some u := fun {x u} n e => s17 _ _ (s16 _ _ (mu x u (sT _ _ (bT x u n e)) (.inl ⟨u, e⟩)))
      refine ⟨⟨_, _, _, _, _, _, _, _, rfl⟩, old nLp hLS, fun j q hj hq => ?_⟩
      obtain ⟨g', b', z', eq, rest⟩ := hps j q (by omega) hq
      have nqp : q ≠ p := fun e => by
        have := nd_ix nd hq (e ▸ hp : ps[i]? = some q)
        omega
      exact ⟨g', b', z', old nqp eq, rest⟩
    · rintro σ HE ⟨⟨v1, v2, v3, v4, v5, v6, v7, v8, rfl⟩, _, _⟩
      -- rest = [NothingToUndo(), NothingToRedo()]
      refine fun x1 m1 x2 m2 => ⟨by show 2 ≤ sizeLine; decide, fun R nR => ?_⟩
      have nx : x2 ≠ x1 := fun e => by rw [e, upd_same] at m2; cases m2
      have e1 : IsE (upd (upd (upd HE x1 (ExO (.ref (C 26)) x1)) x2 (ExO (.ref (C 27)) x2)) R (.lst [.ref x1, .ref x2])) x1 (C 26) := .inr (by rw [upd_ne (fun e => by rw [← e, upd_ne nx.symm, upd_same] at nR; cases nR), upd_ne nx.symm]; exact upd_same)
      have e2 : IsE (upd (upd (upd HE x1 (ExO (.ref (C 26)) x1)) x2 (ExO (.ref (C 27)) x2)) R (.lst [.ref x1, .ref x2])) x2 (C 27) := .inr (by rw [upd_ne (fun e => by rw [← e, upd_same] at nR; cases nR)]; exact upd_same)
      have hR : upd (upd (upd HE x1 (ExO (.ref (C 26)) x1)) x2 (ExO (.ref (C 27)) x2)) R (.lst [.ref x1, .ref x2]) R = some (.lst [.ref x1, .ref x2]) := upd_same
      generalize upd (upd (upd HE x1 (ExO (.ref (C 26)) x1)) x2 (ExO (.ref (C 27)) x2)) R (.lst [.ref x1, .ref x2]) = HR at e1 e2 hR
      -- [code(error) for error in rest] != [[26], [27]]
      refine ⟨_, rfl, R, rfl, ⟨_, SqL.of hR⟩, fun D hD => ?_⟩
      refine lc_list (K := K) (a := R) (xs := [.ref x1, .ref x2]) (fun m H1 => Same HR H1 ∧ ∃ ls : List Addr, H1 D = some (.lst (ls.map V.ref)) ∧ Paired (fun (j : Nat) l => H1 l = some (.lst [.int j]) ∧ l ≠ D) ([26, 27].take m) ls) ⟨same_new hD, [], upd_same, .nil⟩ (fun m H1 _ ⟨sm, _⟩ => sm.seq (SqL.of hR)) ?_ ?_
      · rintro m y H1 hy ⟨sm, ls, hls, pr⟩
        obtain ⟨x, c, hm, rfl, hx, hc, lc⟩ : ∃ (x : Addr) (c : Nat), m < 2 ∧ y = V.ref x ∧ IsE HR x (C c) ∧ ([26, 27] : List Nat).take (m + 1) = ([26, 27] : List Nat).take m ++ [c] ∧ c < 28 := by
          match m, hy with
          | 0, hy => cases hy; exact ⟨x1, 26, by decide, rfl, e1, rfl, by decide⟩
          | 1, hy => cases hy; exact ⟨x2, 27, by decide, rfl, e2, rfl, by decide⟩
          | m + 2, hy => simp at hy
        refine ⟨rfl, ?_⟩
        dsimp only [tYes]
        rw [if_pos rfl]
        refine ⟨_, rfl, x, c, rfl, by omega, hx.same sm, fun l H2 s2 nl hl => ?_⟩
        rw [if_pos lc] at hl
        have nlD : l ≠ D := fun e => by rw [e, hls] at nl; cases nl
        have lm : ls.length ≤ 2 := by rw [← Paired.length pr, List.length_take]; exact Nat.min_le_right _ _
        refine ⟨_, s2 _ _ hls, by rw [List.length_map, sizeLine_eq]; omega, fun b o e => ?_, ls ++ [l], by rw [upd_same, List.map_append]; rfl, ?_⟩
        · rw [upd_ne (ne_of_none e hD)]; exact s2 _ _ (sm _ _ e)
        · rw [hc]
          exact Paired.snoc (Paired.mono (fun j x ⟨e, n⟩ => ⟨by rw [upd_ne n]; exact s2 _ _ e, n⟩) pr) ⟨by rw [upd_ne nlD]; exact hl, nlD⟩
      · rintro H1 ⟨sm, ls, hls, pr⟩
        have pr' : Paired (fun (j : Nat) l => H1 l = some (.lst [.int j])) [26, 27] ls := Paired.mono (fun j x ⟨e, _⟩ => e) pr
        refine ⟨by show 1 ≤ sizeLine; decide, fun a1 n1 => ⟨by show 1 ≤ sizeLine; decide, fun a2 n2 => ⟨by show 2 ≤ sizeLine; decide, fun b3 n3 => ?_⟩⟩⟩
        have t1 : Same H1 (upd H1 a1 (.lst [.int 26])) := same_new n1
        have t2 : Same (upd H1 a1 (.lst [.int 26])) (upd (upd H1 a1 (.lst [.int 26])) a2 (.lst [.int 27])) := same_new n2
        have t3 : Same (upd (upd H1 a1 (.lst [.int 26])) a2 (.lst [.int 27])) (upd (upd (upd H1 a1 (.lst [.int 26])) a2 (.lst [.int 27])) b3 (.lst [.ref a1, .ref a2])) := same_new n3
        have s13 := (t1.trans t2).trans t3
        have dx : Dp K (upd (upd (upd H1 a1 (.lst [.int 26])) a2 (.lst [.int 27])) b3 (.lst [.ref a1, .ref a2])) (.ref D) restD := .lst (SqL.of (s13 _ _ hls)) (dpall_of (Paired.mono (fun j x e => s13 _ _ e) pr'))
        have dy : Dp K (upd (upd (upd H1 a1 (.lst [.int 26])) a2 (.lst [.int 27])) b3 (.lst [.ref a1, .ref a2])) (.ref b3) restD := .lst (SqL.of upd_same) (.cons (.lst (SqL.of (t3 _ _ (t2 _ _ upd_same))) (.cons (.int 26) .nil)) (.cons (.lst (SqL.of (t3 _ _ upd_same)) (.cons (.int 27) .nil)) .nil))
        refine ⟨restD, restD, dx, dy, rest_ok.1, rest_ok.1, _, rfl, ?_⟩
        rw [rest_ok.2]
        refine ite2 (fun c => absurd c (by decide)) (fun _ => ?_)
        have sR := sm.trans s13
        generalize upd (upd (upd H1 a1 (.lst [.int 26])) a2 (.lst [.int 27])) b3 (.lst [.ref a1, .ref a2]) = H3 at sR
        have f1 := e1.same sR
        have f2 := e2.same sR
        have hR3 := sR _ _ hR
        -- rest.append(DeskError())
        refine ⟨_, rfl, .inl ⟨rfl, _, SqL.of hR3⟩, fun x3 m3 => ⟨R, _, _, rfl, rfl, same_new m3 _ _ hR3, by show 2 < sizeLine; rw [sizeLine_eq]; decide, ?_⟩⟩
        have u1 := f1.same (same_new (o := ExO (.ref (C 28)) x3) m3)
        have u2 := f2.same (same_new (o := ExO (.ref (C 28)) x3) m3)
        have u3 : IsE (upd H3 x3 (ExO (.ref (C 28)) x3)) x3 (C 28) := .inr upd_same
        have hR4 := same_new (o := ExO (.ref (C 28)) x3) m3 _ _ hR3
        have ke : ∀ {x c : Addr}, IsE (upd H3 x3 (ExO (.ref (C 28)) x3)) x c → IsE (upd (upd H3 x3 (ExO (.ref (C 28)) x3)) R (.lst ([.ref x1, .ref x2] ++ [.ref x3]))) x c := fun {x c} e => isE_upd e hR4
        have w1 := ke u1
        have w2 := ke u2
        have w3 := ke u3
        have hRA : upd (upd H3 x3 (ExO (.ref (C 28)) x3)) R (.lst ([.ref x1, .ref x2] ++ [.ref x3])) R = some (.lst [.ref x1, .ref x2, .ref x3]) := upd_same
        generalize upd (upd H3 x3 (ExO (.ref (C 28)) x3)) R (.lst ([.ref x1, .ref x2] ++ [.ref x3])) = HA at w1 w2 w3 hRA
        -- all([is_error(error) for error in rest]) and code(rest[2]) == []
        refine ⟨_, rfl, R, rfl, ⟨_, SqL.of hRA⟩, fun D5 hD5 => ?_⟩
        refine lc_list (K := K) (a := R) (xs := [.ref x1, .ref x2, .ref x3]) (fun m H5 => Same HA H5 ∧ H5 D5 = some (.lst ((List.replicate m true).map V.bl))) ⟨same_new hD5, upd_same⟩ (fun m H5 _ ⟨s5, _⟩ => s5.seq (SqL.of hRA)) ?_ ?_
        · rintro m y H5 hy ⟨s5, h5⟩
          obtain ⟨x, c, hm, rfl, hx, lc⟩ : ∃ (x : Addr) (c : Nat), m < 3 ∧ y = V.ref x ∧ IsE HA x (C c) ∧ c < 29 := by
            match m, hy with
            | 0, hy => cases hy; exact ⟨x1, 26, by decide, rfl, w1, by decide⟩
            | 1, hy => cases hy; exact ⟨x2, 27, by decide, rfl, w2, by decide⟩
            | 2, hy => cases hy; exact ⟨x3, 28, by decide, rfl, w3, by decide⟩
            | m + 3, hy => simp at hy
          refine ⟨rfl, ?_⟩
          dsimp only [tYes]
          rw [if_pos rfl]
          refine ⟨_, rfl, x, c, rfl, lc, hx.same s5, _, h5, by rw [List.length_map, List.length_replicate, sizeLine_eq]; omega, fun b o e => ?_, ?_⟩
          · rw [upd_ne (ne_of_none e hD5)]; exact s5 _ _ e
          · rw [upd_same, List.replicate_succ', List.map_append]; rfl
        · rintro H5 ⟨s5, h5⟩
          refine ⟨D5, [true, true, true], rfl, SqL.of h5, true, rfl, ?_⟩
          rw [if_pos rfl]
          refine ⟨_, rfl, R, _, 2, _, rfl, rfl, SqL.of (s5 _ _ hRA), rfl, x3, 28, rfl, by decide, w3.same s5, fun L6 H6 s6 n6 h6 => ⟨by show 0 ≤ sizeLine; omega, fun b7 n7 => ?_⟩⟩
          exact ⟨.list [], .list [], .lst (SqL.of (same_new n7 _ _ h6)) .nil, .lst (SqL.of upd_same) .nil, rfl, rfl, k _⟩
end
end X1
end L2
namespace L2
namespace X1
open PySem PySem.Spec PyProof.Rows D1
section
variable {K : PySem.W.Frag} {h : Heap} {mg : Str → Option Value}
/-- what is told of object.__class__ -/
structure Oc (K : PySem.W.Frag) : Prop where
  gs : PySem.W.specialIn K (.builtin "object.__class__") "__get__" = some (some (.builtin "getset_descriptor.__get__"))
  ss : PySem.W.takesIn K (.builtin "object.__class__") = some true
/-- a class's own object: its name, its chain -/
def Obj1 (K : PySem.W.Frag) (x : Str) (C : Addr) (bm : List Value) : Prop := ∃ q N bs sn sub ab col dd k0 k1 k2 k3 k5, K.lookup C = some (excClassObj x q C N bs bm true sn sub ab col dd k0 k1 k2 k3 k5 "ValueError.__new__")
theorem xf_mk (O : Oc K) {x : Str} {C : Addr} {bm : List Value} {q : Str} {N : Addr} {bs : List Value} {sn : List Str} {sub : List Value} {ab : Bool} {col : Option Bool} {dd : Option Addr} {k0 k1 k2 k3 k5 : Option Value} (rb : PySem.HandSPX.refsVE bm = true)
    (l : K.lookup C = some (excClassObj x q C N bs bm true sn sub ab col dd k0 k1 k2 k3 k5 "ValueError.__new__"))
    (sa : PySem.W.findIn K (.ref C) "__setattr__" = some (some (.builtin "object.__setattr__"))) (exC : PySem.W.subIn K (.ref C) (.type "BaseException") = some true) (tyC : PySem.W.typeIn K (.ref C) = some (.type "type")) (kC : PySem.W.keepIn K (.ref C) = true)
    (nV : PySem.W.findIn K (.ref C) "value" = some none) (ga : PySem.W.findIn K (.ref C) "__getattribute__" = some (some (.builtin "BaseException.__getattribute__"))) (gg : PySem.W.findIn K (.ref C) "__getattr__" = some none) (hd : PySem.W.hasDictIn K C = true)
    (ca : PySem.W.findIn K (.ref C) "__class__" = some (some (.builtin "object.__class__"))) (mo : PySem.W.mroIn K C (.type "object") = some true) : XF K C ∧ Obj1 K x C bm :=
  ⟨⟨⟨⟨x, q, N, bs, bm, sn, sub, ab, col, dd, k0, k1, k2, k3, k5, l, rb⟩, sa, exC, tyC, kC⟩, nV, ga, gg, hd, ca, O.gs, O.ss, mo⟩, q, N, bs, sn, sub, ab, col, dd, k0, k1, k2, k3, k5, l⟩
theorem cf_mk {x : Str} {C fI T : Addr} {p1 p2 p3 q1 q2 q3 q4 : Pos} {qn : Str} {oc kV doc pm cdv ct ot : Value} {od an dt : Option Addr} {osl st : Array (Option Value)} {n : Nat} (g : mg x = some (.ref C)) (xf : XF K C)
    (iC : PySem.W.findIn K (.ref C) "__init__" = some (some (.ref fI))) (tI : PySem.W.typeIn K (.ref fI) = some (.type "function"))
    (lI : K.lookup fI = some ⟨oc, od, .func (PySem.W.fnOf "__init__" qn (iArgs p1 p2 p3) (iBody q1 q2 q3 q4) iSc (.ref T) kV doc pm an cdv ct), osl⟩) (cI : PySem.W.codeIn K cdv qn = true) (kI : PySem.W.keepIn K (.ref fI) = true)
    (lT : K.lookup T = some ⟨ot, dt, .seq #[.none] n, st⟩) : CF K mg x C :=
  ⟨g, xf, fI, _, p1, p2, p3, q1, q2, q3, q4, qn, iC, tI, ⟨⟨oc, od, .ref T, kV, doc, pm, an, cdv, ct, osl, rfl, lI, cI, .inr ⟨by simp, T, _, [.none], n, rfl, lT, rfl, .cons rfl .nil⟩, .inl rfl⟩, kI⟩⟩
/-- the chain of an own class -/
theorem cls_of {x : Str} {C : Addr} {bm : List Value} (o : Obj1 K x C bm) : ∃ cd, PySem.W.clsIn K C = some cd ∧ cd.mro = .ref C :: bm := by
  obtain ⟨q, N, bs, sn, sub, ab, col, dd, k0, k1, k2, k3, k5, l⟩ := o
  unfold PySem.W.clsIn
  rw [l]
  exact ⟨_, rfl, rfl⟩
theorem sub_of {x : Str} {C : Addr} {bm : List Value} (o : Obj1 K x C bm) (b : Value) : PySem.W.subIn K (.ref C) b = some ((Value.ref C :: bm).contains b) := by
  obtain ⟨cd, h1, h2⟩ := cls_of o
  show PySem.W.mroIn K C b = _
  unfold PySem.W.mroIn
  rw [h1, Option.bind_some, h2]
  rfl
theorem kit_ref {x y : Str} {C D : Addr} {bm bn : List Value} (o : Obj1 K x C bm) (p : Obj1 K y D bn) (ty : PySem.W.typeIn K (.ref D) = some (.type "type")) : PySem.W.kitOne K (.ref C) (.ref D) = some ((Value.ref C :: bm).contains (.ref D)) := by
  obtain ⟨cd, h1, h2⟩ := cls_of p
  unfold PySem.W.kitOne
  by_cases e : (Value.ref C == Value.ref D) = true
  · rw [if_pos e, List.contains_cons]
    have e2 : (Value.ref D == Value.ref C) = true := by rw [beq_iff_eq] at e ⊢; exact e.symm
    rw [e2, Bool.true_or]
  · rw [if_neg e]
    show (if ((PySem.W.clsIn K D).isSome && PySem.W.typeIn K (.ref D) == some (.type "type")) = true then PySem.W.subIn K (.ref C) (.ref D) else none) = _
    rw [h1, ty, if_pos (by rfl)]
    exact sub_of o _
theorem kit_typ {x : Str} {C : Addr} {bm : List Value} (o : Obj1 K x C bm) : PySem.W.kitOne K (.ref C) (.type "ValueError") = some ((Value.ref C :: bm).contains (.type "ValueError")) := by
  unfold PySem.W.kitOne
  rw [if_neg (fun e => by rw [beq_iff_eq] at e; cases e)]
  show (if PySem.W.kitMeta "ValueError" = true then PySem.W.subIn K (.ref C) (.type "ValueError") else none) = _
  rw [if_pos (by decide +kernel)]
  exact sub_of o _
theorem objs_ne {x y : Str} {C D : Addr} {bm bn : List Value} (o : Obj1 K x C bm) (p : Obj1 K y D bn) (n : x ≠ y) : C ≠ D := by
  obtain ⟨q, N, bs, sn, sub, ab, col, dd, k0, k1, k2, k3, k5, l⟩ := o
  obtain ⟨q', N', bs', sn', sub', ab', col', dd', k0', k1', k2', k3', k5', l'⟩ := p
  rintro rfl
  rw [l] at l'
  have e := Option.some.inj l'
  injection e with _ _ e2 _
  injection e2 with e3
  injection e3 with e4
  exact n e4
/-- all of it, from each class's own rows -/
theorem all_of {C : Nat → Addr} (cf : ∀ j, j < 26 → CF K mg (nm j) (C j)) (g : ∀ j, j < 29 → mg (nm j) = some (.ref (C j))) (xf : ∀ j, j < 29 → XF K (C j)) (ex : ∀ j, 26 ≤ j → j < 29 → PySem.W.excIn K (C j) veB "ValueError.__new__" = true)
    (ob : ∀ j, j < 28 → Obj1 K (nm j) (C j) (.ref (C 28) :: veB)) (od : Obj1 K (nm 28) (C 28) veB) : All K mg C := by
  have nmne : ∀ i j, i < 29 → j < 29 → i ≠ j → nm i ≠ nm j := by
    have q : ∀ i j : Fin 29, i ≠ j → nm i.val ≠ nm j.val := by decide +kernel
    intro i j hi hj n
    exact q ⟨i, hi⟩ ⟨j, hj⟩ fun e => n (by simpa using e)
  have ne : ∀ i j, i < 29 → j < 29 → i ≠ j → C i ≠ C j := by
    intro i j hi hj n
    have a : ∃ bm, Obj1 K (nm i) (C i) bm := by
      by_cases c : i < 28
      · exact ⟨_, ob i c⟩
      · obtain rfl : i = 28 := by omega
        exact ⟨_, od⟩
    have b : ∃ bm, Obj1 K (nm j) (C j) bm := by
      by_cases c : j < 28
      · exact ⟨_, ob j c⟩
      · obtain rfl : j = 28 := by omega
        exact ⟨_, od⟩
    obtain ⟨_, a⟩ := a
    obtain ⟨_, b⟩ := b
    exact objs_ne a b (nmne i j hi hj n)
  have rr : ∀ a b : Addr, (Value.ref a == Value.ref b) = decide (a = b) := fun a b => by
    by_cases e : a = b
    · subst e; simp
    · rw [decide_eq_false e]
      exact beq_eq_false_iff_ne.mpr fun q => e (by cases q; rfl)
  have ve : ∀ a : Addr, (veB.contains (Value.ref a)) = false := fun a => by
    rw [List.contains_eq_any_beq]; rfl
  refine ⟨cf, g, xf, ex, fun i j hi hj => ?_, fun i hi => ?_, fun i hi => ?_⟩
  · by_cases c : i < 28
    · rw [kit_ref (ob i c) (ob j hj) (xf j (by omega)).ox.tyC, List.contains_cons, List.contains_cons, ve, rr, rr]
      congr 1
      by_cases e : i = j
      · subst e; simp
      · have h1 := ne j i (by omega) hi (Ne.symm e)
        have h2 := ne j 28 (by omega) (by omega) (by omega)
        simp [e, h1, h2]
    · obtain rfl : i = 28 := by omega
      rw [kit_ref od (ob j hj) (xf j (by omega)).ox.tyC, List.contains_cons, ve, rr]
      have h2 := ne j 28 (by omega) (by omega) (by omega)
      have h3 : ¬ 28 = j := by omega
      simp [h2, h3]
  · by_cases c : i < 28
    · rw [kit_ref (ob i c) od (xf 28 (by omega)).ox.tyC, List.contains_cons, List.contains_cons, rr, rr]
      simp
    · obtain rfl : i = 28 := by omega
      rw [kit_ref od od (xf 28 (by omega)).ox.tyC, List.contains_cons, rr]
      simp
  · by_cases c : i < 28
    · rw [kit_typ (ob i c)]; rfl
    · obtain rfl : i = 28 := by omega
      rw [kit_typ od]; rfl
end
end X1
end L2
namespace L2
namespace X1
open PySem PySem.Spec PyProof.Rows D1
section
variable {K : PySem.W.Frag} {h : Heap} {mg : Str → Option Value}
theorem refs_one (D : Addr) : PySem.HandSPX.refsVE (.ref D :: veB) = true := by rfl
/-- a class with its __init__, over DeskError -/
def Row26 (K : PySem.W.Frag) (mg : Str → Option Value) (x : Str) : Prop := ∃ C D, mg "DeskError" = some (.ref D) ∧ CF K mg x C ∧ Obj1 K x C (.ref D :: veB)
/-- a class without one -/
def RowB (K : PySem.W.Frag) (mg : Str → Option Value) (x : Str) : Prop := ∃ C D, mg "DeskError" = some (.ref D) ∧ mg x = some (.ref C) ∧ XF K C ∧ Obj1 K x C (.ref D :: veB) ∧ PySem.W.excIn K C veB "ValueError.__new__" = true
def RowD (K : PySem.W.Frag) (mg : Str → Option Value) (x : Str) : Prop := ∃ C, mg x = some (.ref C) ∧ XF K C ∧ Obj1 K x C veB ∧ PySem.W.excIn K C veB "ValueError.__new__" = true
theorem row26 (X : K.In h) (G : h.Ns mainGlobals mg) (O : Oc K) {x : Str} {C D fI T : Addr} {p1 p2 p3 q1 q2 q3 q4 : Pos} {qn : Str} {oc kV doc pm cdv ct ot : Value} {od an dt : Option Addr} {osl st : Array (Option Value)} {n : Nat}
    {q : Str} {N : Addr} {bs : List Value} {sn : List Str} {sub : List Value} {ab : Bool} {col : Option Bool} {dd : Option Addr} {k0 k1 k2 k3 k5 : Option Value}
    (aC : PySem.W.nsIn K mainGlobals x = some (some (.ref C))) (aD : PySem.W.nsIn K mainGlobals "DeskError" = some (some (.ref D)))
    (l : K.lookup C = some (excClassObj x q C N bs (.ref D :: veB) true sn sub ab col dd k0 k1 k2 k3 k5 "ValueError.__new__"))
    (sa : PySem.W.findIn K (.ref C) "__setattr__" = some (some (.builtin "object.__setattr__"))) (exC : PySem.W.subIn K (.ref C) (.type "BaseException") = some true) (tyC : PySem.W.typeIn K (.ref C) = some (.type "type")) (kC : PySem.W.keepIn K (.ref C) = true)
    (nV : PySem.W.findIn K (.ref C) "value" = some none) (ga : PySem.W.findIn K (.ref C) "__getattribute__" = some (some (.builtin "BaseException.__getattribute__"))) (gg : PySem.W.findIn K (.ref C) "__getattr__" = some none) (hd : PySem.W.hasDictIn K C = true)
    (ca : PySem.W.findIn K (.ref C) "__class__" = some (some (.builtin "object.__class__"))) (mo : PySem.W.mroIn K C (.type "object") = some true)
    (iC : PySem.W.findIn K (.ref C) "__init__" = some (some (.ref fI))) (tI : PySem.W.typeIn K (.ref fI) = some (.type "function"))
    (lI : K.lookup fI = some ⟨oc, od, .func (PySem.W.fnOf "__init__" qn (iArgs p1 p2 p3) (iBody q1 q2 q3 q4) iSc (.ref T) kV doc pm an cdv ct), osl⟩) (cI : PySem.W.codeIn K cdv qn = true) (kI : PySem.W.keepIn K (.ref fI) = true)
    (lT : K.lookup T = some ⟨ot, dt, .seq #[.none] n, st⟩) : Row26 K mg x := by
  obtain ⟨xf, ob⟩ := xf_mk O (refs_one D) l sa exC tyC kC nV ga gg hd ca mo
  exact ⟨C, D, PySem.W.mg_of X G aD, cf_mk (PySem.W.mg_of X G aC) xf iC tI lI cI kI lT, ob⟩
theorem rowB (X : K.In h) (G : h.Ns mainGlobals mg) (O : Oc K) {x : Str} {C D : Addr} {q : Str} {N : Addr} {bs : List Value} {sn : List Str} {sub : List Value} {ab : Bool} {col : Option Bool} {dd : Option Addr} {k0 k1 k2 k3 k5 : Option Value}
    (aC : PySem.W.nsIn K mainGlobals x = some (some (.ref C))) (aD : PySem.W.nsIn K mainGlobals "DeskError" = some (some (.ref D)))
    (l : K.lookup C = some (excClassObj x q C N bs (.ref D :: veB) true sn sub ab col dd k0 k1 k2 k3 k5 "ValueError.__new__"))
    (sa : PySem.W.findIn K (.ref C) "__setattr__" = some (some (.builtin "object.__setattr__"))) (exC : PySem.W.subIn K (.ref C) (.type "BaseException") = some true) (tyC : PySem.W.typeIn K (.ref C) = some (.type "type")) (kC : PySem.W.keepIn K (.ref C) = true)
    (nV : PySem.W.findIn K (.ref C) "value" = some none) (ga : PySem.W.findIn K (.ref C) "__getattribute__" = some (some (.builtin "BaseException.__getattribute__"))) (gg : PySem.W.findIn K (.ref C) "__getattr__" = some none) (hd : PySem.W.hasDictIn K C = true)
    (ca : PySem.W.findIn K (.ref C) "__class__" = some (some (.builtin "object.__class__"))) (mo : PySem.W.mroIn K C (.type "object") = some true) (ex : PySem.W.excIn K C veB "ValueError.__new__" = true) : RowB K mg x := by
  obtain ⟨xf, ob⟩ := xf_mk O (refs_one D) l sa exC tyC kC nV ga gg hd ca mo
  exact ⟨C, D, PySem.W.mg_of X G aD, PySem.W.mg_of X G aC, xf, ob, ex⟩
theorem rowD (X : K.In h) (G : h.Ns mainGlobals mg) (O : Oc K) {x : Str} {C : Addr} {q : Str} {N : Addr} {bs : List Value} {sn : List Str} {sub : List Value} {ab : Bool} {col : Option Bool} {dd : Option Addr} {k0 k1 k2 k3 k5 : Option Value}
    (aC : PySem.W.nsIn K mainGlobals x = some (some (.ref C)))
    (l : K.lookup C = some (excClassObj x q C N bs veB true sn sub ab col dd k0 k1 k2 k3 k5 "ValueError.__new__"))
    (sa : PySem.W.findIn K (.ref C) "__setattr__" = some (some (.builtin "object.__setattr__"))) (exC : PySem.W.subIn K (.ref C) (.type "BaseException") = some true) (tyC : PySem.W.typeIn K (.ref C) = some (.type "type")) (kC : PySem.W.keepIn K (.ref C) = true)
    (nV : PySem.W.findIn K (.ref C) "value" = some none) (ga : PySem.W.findIn K (.ref C) "__getattribute__" = some (some (.builtin "BaseException.__getattribute__"))) (gg : PySem.W.findIn K (.ref C) "__getattr__" = some none) (hd : PySem.W.hasDictIn K C = true)
    (ca : PySem.W.findIn K (.ref C) "__class__" = some (some (.builtin "object.__class__"))) (mo : PySem.W.mroIn K C (.type "object") = some true) (ex : PySem.W.excIn K C veB "ValueError.__new__" = true) : RowD K mg x := by
  obtain ⟨xf, ob⟩ := xf_mk O (by rfl) l sa exC tyC kC nV ga gg hd ca mo
  exact ⟨C, PySem.W.mg_of X G aC, xf, ob, ex⟩
theorem oc_mk (_X : K.In h) (gs : PySem.W.specialIn K (.builtin "object.__class__") "__get__" = some (some (.builtin "getset_descriptor.__get__"))) (ss : PySem.W.takesIn K (.builtin "object.__class__") = some true) : Oc K := ⟨gs, ss⟩
theorem rows26 (r0 : Row26 K mg (nm 0)) (r1 : Row26 K mg (nm 1)) (r2 : Row26 K mg (nm 2)) (r3 : Row26 K mg (nm 3)) (r4 : Row26 K mg (nm 4)) (r5 : Row26 K mg (nm 5)) (r6 : Row26 K mg (nm 6)) (r7 : Row26 K mg (nm 7)) (r8 : Row26 K mg (nm 8)) (r9 : Row26 K mg (nm 9)) (r10 : Row26 K mg (nm 10)) (r11 : Row26 K mg (nm 11)) (r12 : Row26 K mg (nm 12)) (r13 : Row26 K mg (nm 13)) (r14 : Row26 K mg (nm 14)) (r15 : Row26 K mg (nm 15)) (r16 : Row26 K mg (nm 16)) (r17 : Row26 K mg (nm 17)) (r18 : Row26 K mg (nm 18)) (r19 : Row26 K mg (nm 19)) (r20 : Row26 K mg (nm 20)) (r21 : Row26 K mg (nm 21)) (r22 : Row26 K mg (nm 22)) (r23 : Row26 K mg (nm 23)) (r24 : Row26 K mg (nm 24)) (r25 : Row26 K mg (nm 25)) : ∀ j, j < 26 → Row26 K mg (nm j) := by
  intro j hj
  match j, hj with
  | 0, _ => exact r0
  | 1, _ => exact r1
  | 2, _ => exact r2
  | 3, _ => exact r3
  | 4, _ => exact r4
  | 5, _ => exact r5
  | 6, _ => exact r6
  | 7, _ => exact r7
  | 8, _ => exact r8
  | 9, _ => exact r9
  | 10, _ => exact r10
  | 11, _ => exact r11
  | 12, _ => exact r12
  | 13, _ => exact r13
  | 14, _ => exact r14
  | 15, _ => exact r15
  | 16, _ => exact r16
  | 17, _ => exact r17
  | 18, _ => exact r18
  | 19, _ => exact r19
  | 20, _ => exact r20
  | 21, _ => exact r21
  | 22, _ => exact r22
  | 23, _ => exact r23
  | 24, _ => exact r24
  | 25, _ => exact r25
  | n + 26, hj => exact absurd hj (by omega)
/-- a def of the text -/
def RowF (K : PySem.W.Frag) (mg : Str → Option Value) (x : Str) (st : Stmt) : Prop := ∃ f fd, mg x = some (.ref f) ∧ Fun K x x st f fd
theorem rowF (X : K.In h) (G : h.Ns mainGlobals mg) {x : Str} {st : Stmt} {f : Addr} {oc kV doc pm cdv ct : Value} {od an : Option Addr} {osl : Array (Option Value)} (a : PySem.W.nsIn K mainGlobals x = some (some (.ref f)))
    (l : K.lookup f = some ⟨oc, od, .func (PySem.W.fnOf x x (defArgs st) (defBody st) (defScope st) .none kV doc pm an cdv ct), osl⟩) (c : PySem.W.codeIn K cdv x = true) (k : PySem.W.keepIn K (.ref f) = true) : RowF K mg x st :=
  ⟨f, _, PySem.W.mg_of X G a, fun_mk l c k⟩
theorem all_rows (r : ∀ j, j < 26 → Row26 K mg (nm j)) (b6 : RowB K mg (nm 26)) (b7 : RowB K mg (nm 27)) (d8 : RowD K mg (nm 28)) : ∃ C, All K mg C := by
  have hD : ∃ D, mg "DeskError" = some (.ref D) ∧ XF K D ∧ Obj1 K (nm 28) D veB ∧ PySem.W.excIn K D veB "ValueError.__new__" = true := d8
  obtain ⟨D, gD, xD, oD, eD⟩ := hD
  have one : ∀ j, j < 28 → ∃ C, mg (nm j) = some (.ref C) ∧ XF K C ∧ Obj1 K (nm j) C (.ref D :: veB) ∧ (j < 26 → CF K mg (nm j) C) ∧ (26 ≤ j → PySem.W.excIn K C veB "ValueError.__new__" = true) := by
    intro j hj
    by_cases c : j < 26
    · obtain ⟨C, D', g', cf, ob⟩ := r j c
      rw [gD] at g'; cases g'
      exact ⟨C, cf.gC, cf.xf, ob, fun _ => cf, fun z => absurd z (by omega)⟩
    · have two : RowB K mg (nm j) := by
        by_cases e : j = 26
        · subst e; exact b6
        · obtain rfl : j = 27 := by omega
          exact b7
      obtain ⟨C, D', g', gC, xf, ob, ex⟩ := two
      rw [gD] at g'; cases g'
      exact ⟨C, gC, xf, ob, fun z => absurd z c, fun _ => ex⟩
  have pick : ∀ j, ∃ C : Addr, (∀ hj : j < 28, mg (nm j) = some (.ref C) ∧ XF K C ∧ Obj1 K (nm j) C (.ref D :: veB) ∧ (j < 26 → CF K mg (nm j) C) ∧ (26 ≤ j → PySem.W.excIn K C veB "ValueError.__new__" = true)) ∧ (j = 28 → C = D) := by
    intro j
    by_cases hj : j < 28
    · obtain ⟨C, q⟩ := one j hj
      exact ⟨C, fun _ => q, fun z => absurd z (by omega)⟩
    · exact ⟨D, fun z => absurd z hj, fun _ => rfl⟩
  refine ⟨fun j => Classical.choose (pick j), ?_⟩
  have sp := fun j => Classical.choose_spec (pick j)
  have e28 : Classical.choose (pick 28) = D := (sp 28).2 rfl
  refine all_of (fun j hj => ((sp j).1 (by omega)).2.2.2.1 hj) (fun j hj => ?_) (fun j hj => ?_) (fun j h6 hj => ?_) (fun j hj => ?_) ?_
  · by_cases c : j < 28
    · exact ((sp j).1 c).1
    · obtain rfl : j = 28 := by omega
      show mg "DeskError" = _
      rw [e28]; exact gD
  · by_cases c : j < 28
    · exact ((sp j).1 c).2.1
    · obtain rfl : j = 28 := by omega
      rw [e28]; exact xD
  · by_cases c : j < 28
    · exact ((sp j).1 c).2.2.2.2 h6
    · obtain rfl : j = 28 := by omega
      rw [e28]; exact eD
  · show Obj1 K (nm j) (Classical.choose (pick j)) (.ref (Classical.choose (pick 28)) :: veB)
    rw [e28]; exact ((sp j).1 hj).2.2.1
  · show Obj1 K (nm 28) (Classical.choose (pick 28)) veB
    rw [e28]; exact oD
theorem bind1 {x : Str} {st : Stmt} {f : Addr} {fd : FuncData} {a : Str} (F : Fun K x x st f fd) (e : ∀ (kV doc pm : Value) (an : Option Addr) (cdv ct u : Value), bindArgs (PySem.W.fnOf x x (defArgs st) (defBody st) (defScope st) .none kV doc pm an cdv ct) ⟨[u], []⟩ = pure [(a, u)]) (s : Shared) (u : Value) : BindsTo s fd ⟨[u], []⟩ [(a, u)] := by
  obtain ⟨oc, od, kV, doc, pm, an, cdv, ct, osl, rfl, lk, hcd⟩ := F.ex
  exact .of_eq (e kV doc pm an cdv ct u)
/-- the law's promise, from the rows -/
theorem law_of {P : Program} {w : World} {fa : Addr} (hfa : mg "law" = some (.ref fa)) (A : ∃ C, All K mg C) (T : Free mg) (M : More mg) (vE : mg "ValueError" = none)
    (r0 : RowF K mg "_law_purse" sPurse) (r1 : RowF K mg "_law_mixed" sMixed) (r2 : RowF K mg "_law_draw" sDraw) (r3 : RowF K mg "_law_purses" sPurses) (r4 : RowF K mg "_law_one_of" sOneOf) (r5 : RowF K mg "_law_word" sWord) (r6 : RowF K mg "_law_first" s_first) (r7 : RowF K mg "_law_called" s_called) (r8 : RowF K mg "_law_bare" s_bare)
    (r9 : RowF K mg "_law_code" s_code) (r10 : RowF K mg "_law_is_error" s_iserr) (r11 : RowF K mg "_law_right" s_right) (r12 : RowF K mg "law" s_law) :
    ∃ fd : FuncData, (∀ (s : Shared) (u : Value), BindsTo s fd ⟨[u], []⟩ [("_law_script", u)]) ∧ ∀ base : Heap, K.In base → base.Ns mainGlobals mg → FnG P w K mg base CX0 4 fa fd ["_law_script"] (spLaw K) := by
  obtain ⟨C, G⟩ := A
  obtain ⟨f0, d0, g0, F0⟩ := r0
  obtain ⟨f1, d1, g1, F1⟩ := r1
  obtain ⟨f2, d2, g2, F2⟩ := r2
  obtain ⟨f3, d3, g3, F3⟩ := r3
  obtain ⟨f4, d4, g4, F4⟩ := r4
  obtain ⟨f5, d5, g5, F5⟩ := r5
  obtain ⟨f6, d6, g6, F6⟩ := r6
  obtain ⟨f7, d7, g7, F7⟩ := r7
  obtain ⟨f8, d8, g8, F8⟩ := r8
  obtain ⟨f9, d9, g9, F9⟩ := r9
  obtain ⟨f10, d10, g10, F10⟩ := r10
  obtain ⟨f11, d11, g11, F11⟩ := r11
  obtain ⟨f12, d12, g12, F12⟩ := r12
  rw [hfa] at g12
  cases g12
  have b0 := F0.binds (ps := ["_law_script", "_law_at"]) fun _ _ _ _ _ _ us hl => match us, hl with | [_, _], _ => rfl
  have b1 := F1.binds (ps := ["_law_seed", "_law_turn", "_law_at"]) fun _ _ _ _ _ _ us hl => match us, hl with | [_, _, _], _ => rfl
  have b2 := F2.binds (ps := ["_law_purse_here", "_law_many"]) fun _ _ _ _ _ _ us hl => match us, hl with | [_, _], _ => rfl
  have b3 := F3.binds (ps := ["_law_script", "_law_few"]) fun _ _ _ _ _ _ us hl => match us, hl with | [_, _], _ => rfl
  have b4 := F4.binds (ps := ["_law_purse_here", "_law_some"]) fun _ _ _ _ _ _ us hl => match us, hl with | [_, _], _ => rfl
  have b5 := F5.binds (ps := ["_law_purse_here"]) fun _ _ _ _ _ _ us hl => match us, hl with | [_], _ => rfl
  have b6 := F6.binds (ps := ["_law_thing"]) fun _ _ _ _ _ _ us hl => match us, hl with | [_], _ => rfl
  have b7 := F7.binds (ps := ["_law_thing"]) fun _ _ _ _ _ _ us hl => match us, hl with | [_], _ => rfl
  have b8 := F8.binds (ps := []) fun _ _ _ _ _ _ us hl => match us, hl with | [], _ => rfl
  have b9 := F9.binds (ps := ["_law_error"]) fun _ _ _ _ _ _ us hl => match us, hl with | [_], _ => rfl
  have b10 := F10.binds (ps := ["_law_error"]) fun _ _ _ _ _ _ us hl => match us, hl with | [_], _ => rfl
  have b11 := F11.binds (ps := ["_law_some", "_law_noted"]) fun _ _ _ _ _ _ us hl => match us, hl with | [_, _], _ => rfl
  refine ⟨d12, bind1 F12 fun _ _ _ _ _ _ _ => rfl, fun base _ _ => ?_⟩
  have GD : FnOk P w K mg base CX0 2 f2 d2 ["_law_purse_here", "_law_many"] spDraw := ok_draw F2 T F1 b1 g1
  have I : ∀ j, j < 26 → Ini P w K mg base (nm j) (C j) := fun j hj => (G.cf j hj).ini
  have GC : FnOk P w K mg base CX0 1 f9 d9 ["_law_error"] (spCode C) := ok_code F9 T G
  have GE : FnOk P w K mg base CX0 1 f10 d10 ["_law_error"] (spIsErr C) := ok_iserr F10 T vE G
  exact ok_law F12 T M G ⟨ok_purses F3 T F0 b0 g0, F3.kp, b3, g3⟩ ⟨ok_word F5 T F2.kp GD b2 g2, F5.kp, b5, g5⟩ ⟨ok_oneof F4 T F2.kp GD b2 g2, F4.kp, b4, g4⟩ ⟨ok_first F6 I, F6.kp, b6, g6⟩ ⟨ok_called F7 I, F7.kp, b7, g7⟩ ⟨ok_bare F8 I, F8.kp, b8, g8⟩
    ⟨GC, F9.kp, b9, g9⟩ ⟨GE, F10.kp, b10, g10⟩ ⟨ok_right F11 T G GC F9.kp b9 g9 GE F10.kp b10 g10, F11.kp, b11, g11⟩
end
/-- the end: what the head asks -/
theorem law_walk {l : PySem.W.OpenLaw} {q : Program} {loose : List Str} {XP : (Str → Option Value) → Heap → Prop} {YP : World → Heap → Prop} {d : DefRec} {K : Params → PySem.W.Frag} (hn : l.most = some 63) (hdf : d.params.defaults = []) (hY : ∀ (w : World) (h : Heap), YP w h → (K w.params).In h)
    (F : ∀ (w : World) (mg : Str → Option Value) (fa : Addr) (h : Heap), (K w.params).In h → h.Ns mainGlobals mg → mg d.name = some (.ref fa) →
      ∃ fd : FuncData, (∀ (s : Shared) (u : Value), BindsTo s fd ⟨[u], []⟩ [("_law_script", u)]) ∧ ∀ base : Heap, (K w.params).In base → base.Ns mainGlobals mg → FnG l.prog w (K w.params) mg base CX0 4 fa fd ["_law_script"] (spLaw (K w.params))) :
    PySem.W.WalkO q loose XP YP l.row.toRowW d [] (fun f vs => PySem.call f vs) :=
  walkG (n := 63) (sp := fun w => spLaw (K w.params)) hn (by decide) hdf ⟨rfl, by decide, by decide⟩ hY F fun w H a ns hl _ hS => ⟨a, ns, rfl, hS, hl, fun _ => rfl⟩
end X1
end L2
open PySem PySem.W PyProof.Rows in
set_option maxRecDepth 100000 in
set_option maxHeartbeats 0 in
theorem PySem.Challenge.cw_endswell_k01_errors_made_holds : PySem.Challenge.rw_endswell_k01_errors_made.Holds :=
  head (by
  k_fill
  refine L2.X1.law_walk (l := PySem.Challenge.rw_endswell_k01_errors_made) rfl rfl (fun w h Y => PySem.W.kIn_of Y) ?F
  intro w mg fa h KX G hmg
  have O : L2.X1.Oc (L2.KOf KX) := by
    dsimp only [L2.KOf]
    refine' L2.X1.oc_mk KX ?gs ?ss
    (case gs => k_is)
    (case ss => k_is)
  have r0 : L2.X1.Row26 (L2.KOf KX) mg "InvalidWord" := by
    dsimp only [L2.KOf]
    refine' L2.X1.row26 (p1 := ⟨6, 17, 6, 21⟩) (p2 := ⟨6, 23, 6, 28⟩) (p3 := ⟨6, 29, 6, 33⟩) (q1 := ⟨7, 8, 7, 12⟩) (q2 := ⟨7, 8, 7, 18⟩) (q3 := ⟨7, 21, 7, 26⟩) (q4 := ⟨7, 8, 7, 26⟩) KX G O ?aC ?aD ?l ?sa ?exC ?tyC ?kC ?nV ?ga ?gg ?hd ?ca ?mo ?iC ?tI ?lI ?cI ?kI ?lT
    (case aC => k_is)
    (case aD => k_is)
    (case l => k_is)
    (case sa => k_is)
    (case exC => k_is)
    (case tyC => k_is)
    (case kC => k_is)
    (case nV => k_is)
    (case ga => k_is)
    (case gg => k_is)
    (case hd => k_is)
    (case ca => k_is)
    (case mo => k_is)
    (case iC => k_is)
    (case tI => k_is)
    (case lI => k_is)
    (case cI => k_is)
    (case kI => k_is)
    (case lT => k_is)
  have r1 : L2.X1.Row26 (L2.KOf KX) mg "InvalidBook" := by
    dsimp only [L2.KOf]
    refine' L2.X1.row26 (p1 := ⟨10, 17, 10, 21⟩) (p2 := ⟨10, 23, 10, 28⟩) (p3 := ⟨10, 29, 10, 33⟩) (q1 := ⟨11, 8, 11, 12⟩) (q2 := ⟨11, 8, 11, 18⟩) (q3 := ⟨11, 21, 11, 26⟩) (q4 := ⟨11, 8, 11, 26⟩) KX G O ?aC ?aD ?l ?sa ?exC ?tyC ?kC ?nV ?ga ?gg ?hd ?ca ?mo ?iC ?tI ?lI ?cI ?kI ?lT
    (case aC => k_is)
    (case aD => k_is)
    (case l => k_is)
    (case sa => k_is)
    (case exC => k_is)
    (case tyC => k_is)
    (case kC => k_is)
    (case nV => k_is)
    (case ga => k_is)
    (case gg => k_is)
    (case hd => k_is)
    (case ca => k_is)
    (case mo => k_is)
    (case iC => k_is)
    (case tI => k_is)
    (case lI => k_is)
    (case cI => k_is)
    (case kI => k_is)
    (case lT => k_is)
  have r2 : L2.X1.Row26 (L2.KOf KX) mg "InvalidState" := by
    dsimp only [L2.KOf]
    refine' L2.X1.row26 (p1 := ⟨14, 17, 14, 21⟩) (p2 := ⟨14, 23, 14, 28⟩) (p3 := ⟨14, 29, 14, 33⟩) (q1 := ⟨15, 8, 15, 12⟩) (q2 := ⟨15, 8, 15, 18⟩) (q3 := ⟨15, 21, 15, 26⟩) (q4 := ⟨15, 8, 15, 26⟩) KX G O ?aC ?aD ?l ?sa ?exC ?tyC ?kC ?nV ?ga ?gg ?hd ?ca ?mo ?iC ?tI ?lI ?cI ?kI ?lT
    (case aC => k_is)
    (case aD => k_is)
    (case l => k_is)
    (case sa => k_is)
    (case exC => k_is)
    (case tyC => k_is)
    (case kC => k_is)
    (case nV => k_is)
    (case ga => k_is)
    (case gg => k_is)
    (case hd => k_is)
    (case ca => k_is)
    (case mo => k_is)
    (case iC => k_is)
    (case tI => k_is)
    (case lI => k_is)
    (case cI => k_is)
    (case kI => k_is)
    (case lT => k_is)
  have r3 : L2.X1.Row26 (L2.KOf KX) mg "InvalidDesk" := by
    dsimp only [L2.KOf]
    refine' L2.X1.row26 (p1 := ⟨18, 17, 18, 21⟩) (p2 := ⟨18, 23, 18, 28⟩) (p3 := ⟨18, 29, 18, 33⟩) (q1 := ⟨19, 8, 19, 12⟩) (q2 := ⟨19, 8, 19, 18⟩) (q3 := ⟨19, 21, 19, 26⟩) (q4 := ⟨19, 8, 19, 26⟩) KX G O ?aC ?aD ?l ?sa ?exC ?tyC ?kC ?nV ?ga ?gg ?hd ?ca ?mo ?iC ?tI ?lI ?cI ?kI ?lT
    (case aC => k_is)
    (case aD => k_is)
    (case l => k_is)
    (case sa => k_is)
    (case exC => k_is)
    (case tyC => k_is)
    (case kC => k_is)
    (case nV => k_is)
    (case ga => k_is)
    (case gg => k_is)
    (case hd => k_is)
    (case ca => k_is)
    (case mo => k_is)
    (case iC => k_is)
    (case tI => k_is)
    (case lI => k_is)
    (case cI => k_is)
    (case kI => k_is)
    (case lT => k_is)
  have r4 : L2.X1.Row26 (L2.KOf KX) mg "InvalidDesks" := by
    dsimp only [L2.KOf]
    refine' L2.X1.row26 (p1 := ⟨22, 17, 22, 21⟩) (p2 := ⟨22, 23, 22, 28⟩) (p3 := ⟨22, 29, 22, 33⟩) (q1 := ⟨23, 8, 23, 12⟩) (q2 := ⟨23, 8, 23, 18⟩) (q3 := ⟨23, 21, 23, 26⟩) (q4 := ⟨23, 8, 23, 26⟩) KX G O ?aC ?aD ?l ?sa ?exC ?tyC ?kC ?nV ?ga ?gg ?hd ?ca ?mo ?iC ?tI ?lI ?cI ?kI ?lT
    (case aC => k_is)
    (case aD => k_is)
    (case l => k_is)
    (case sa => k_is)
    (case exC => k_is)
    (case tyC => k_is)
    (case kC => k_is)
    (case nV => k_is)
    (case ga => k_is)
    (case gg => k_is)
    (case hd => k_is)
    (case ca => k_is)
    (case mo => k_is)
    (case iC => k_is)
    (case tI => k_is)
    (case lI => k_is)
    (case cI => k_is)
    (case kI => k_is)
    (case lT => k_is)
  have r5 : L2.X1.Row26 (L2.KOf KX) mg "InvalidNames" := by
    dsimp only [L2.KOf]
    refine' L2.X1.row26 (p1 := ⟨26, 17, 26, 21⟩) (p2 := ⟨26, 23, 26, 28⟩) (p3 := ⟨26, 29, 26, 33⟩) (q1 := ⟨27, 8, 27, 12⟩) (q2 := ⟨27, 8, 27, 18⟩) (q3 := ⟨27, 21, 27, 26⟩) (q4 := ⟨27, 8, 27, 26⟩) KX G O ?aC ?aD ?l ?sa ?exC ?tyC ?kC ?nV ?ga ?gg ?hd ?ca ?mo ?iC ?tI ?lI ?cI ?kI ?lT
    (case aC => k_is)
    (case aD => k_is)
    (case l => k_is)
    (case sa => k_is)
    (case exC => k_is)
    (case tyC => k_is)
    (case kC => k_is)
    (case nV => k_is)
    (case ga => k_is)
    (case gg => k_is)
    (case hd => k_is)
    (case ca => k_is)
    (case mo => k_is)
    (case iC => k_is)
    (case tI => k_is)
    (case lI => k_is)
    (case cI => k_is)
    (case kI => k_is)
    (case lT => k_is)
  have r6 : L2.X1.Row26 (L2.KOf KX) mg "InvalidChange" := by
    dsimp only [L2.KOf]
    refine' L2.X1.row26 (p1 := ⟨30, 17, 30, 21⟩) (p2 := ⟨30, 23, 30, 28⟩) (p3 := ⟨30, 29, 30, 33⟩) (q1 := ⟨31, 8, 31, 12⟩) (q2 := ⟨31, 8, 31, 18⟩) (q3 := ⟨31, 21, 31, 26⟩) (q4 := ⟨31, 8, 31, 26⟩) KX G O ?aC ?aD ?l ?sa ?exC ?tyC ?kC ?nV ?ga ?gg ?hd ?ca ?mo ?iC ?tI ?lI ?cI ?kI ?lT
    (case aC => k_is)
    (case aD => k_is)
    (case l => k_is)
    (case sa => k_is)
    (case exC => k_is)
    (case tyC => k_is)
    (case kC => k_is)
    (case nV => k_is)
    (case ga => k_is)
    (case gg => k_is)
    (case hd => k_is)
    (case ca => k_is)
    (case mo => k_is)
    (case iC => k_is)
    (case tI => k_is)
    (case lI => k_is)
    (case cI => k_is)
    (case kI => k_is)
    (case lT => k_is)
  have r7 : L2.X1.Row26 (L2.KOf KX) mg "InvalidChanges" := by
    dsimp only [L2.KOf]
    refine' L2.X1.row26 (p1 := ⟨34, 17, 34, 21⟩) (p2 := ⟨34, 23, 34, 28⟩) (p3 := ⟨34, 29, 34, 33⟩) (q1 := ⟨35, 8, 35, 12⟩) (q2 := ⟨35, 8, 35, 18⟩) (q3 := ⟨35, 21, 35, 26⟩) (q4 := ⟨35, 8, 35, 26⟩) KX G O ?aC ?aD ?l ?sa ?exC ?tyC ?kC ?nV ?ga ?gg ?hd ?ca ?mo ?iC ?tI ?lI ?cI ?kI ?lT
    (case aC => k_is)
    (case aD => k_is)
    (case l => k_is)
    (case sa => k_is)
    (case exC => k_is)
    (case tyC => k_is)
    (case kC => k_is)
    (case nV => k_is)
    (case ga => k_is)
    (case gg => k_is)
    (case hd => k_is)
    (case ca => k_is)
    (case mo => k_is)
    (case iC => k_is)
    (case tI => k_is)
    (case lI => k_is)
    (case cI => k_is)
    (case kI => k_is)
    (case lT => k_is)
  have r8 : L2.X1.Row26 (L2.KOf KX) mg "InvalidTalk" := by
    dsimp only [L2.KOf]
    refine' L2.X1.row26 (p1 := ⟨38, 17, 38, 21⟩) (p2 := ⟨38, 23, 38, 28⟩) (p3 := ⟨38, 29, 38, 33⟩) (q1 := ⟨39, 8, 39, 12⟩) (q2 := ⟨39, 8, 39, 18⟩) (q3 := ⟨39, 21, 39, 26⟩) (q4 := ⟨39, 8, 39, 26⟩) KX G O ?aC ?aD ?l ?sa ?exC ?tyC ?kC ?nV ?ga ?gg ?hd ?ca ?mo ?iC ?tI ?lI ?cI ?kI ?lT
    (case aC => k_is)
    (case aD => k_is)
    (case l => k_is)
    (case sa => k_is)
    (case exC => k_is)
    (case tyC => k_is)
    (case kC => k_is)
    (case nV => k_is)
    (case ga => k_is)
    (case gg => k_is)
    (case hd => k_is)
    (case ca => k_is)
    (case mo => k_is)
    (case iC => k_is)
    (case tI => k_is)
    (case lI => k_is)
    (case cI => k_is)
    (case kI => k_is)
    (case lT => k_is)
  have r9 : L2.X1.Row26 (L2.KOf KX) mg "InvalidPair" := by
    dsimp only [L2.KOf]
    refine' L2.X1.row26 (p1 := ⟨42, 17, 42, 21⟩) (p2 := ⟨42, 23, 42, 28⟩) (p3 := ⟨42, 29, 42, 33⟩) (q1 := ⟨43, 8, 43, 12⟩) (q2 := ⟨43, 8, 43, 18⟩) (q3 := ⟨43, 21, 43, 26⟩) (q4 := ⟨43, 8, 43, 26⟩) KX G O ?aC ?aD ?l ?sa ?exC ?tyC ?kC ?nV ?ga ?gg ?hd ?ca ?mo ?iC ?tI ?lI ?cI ?kI ?lT
    (case aC => k_is)
    (case aD => k_is)
    (case l => k_is)
    (case sa => k_is)
    (case exC => k_is)
    (case tyC => k_is)
    (case kC => k_is)
    (case nV => k_is)
    (case ga => k_is)
    (case gg => k_is)
    (case hd => k_is)
    (case ca => k_is)
    (case mo => k_is)
    (case iC => k_is)
    (case tI => k_is)
    (case lI => k_is)
    (case cI => k_is)
    (case kI => k_is)
    (case lT => k_is)
  have r10 : L2.X1.Row26 (L2.KOf KX) mg "InvalidLot" := by
    dsimp only [L2.KOf]
    refine' L2.X1.row26 (p1 := ⟨46, 17, 46, 21⟩) (p2 := ⟨46, 23, 46, 28⟩) (p3 := ⟨46, 29, 46, 33⟩) (q1 := ⟨47, 8, 47, 12⟩) (q2 := ⟨47, 8, 47, 18⟩) (q3 := ⟨47, 21, 47, 26⟩) (q4 := ⟨47, 8, 47, 26⟩) KX G O ?aC ?aD ?l ?sa ?exC ?tyC ?kC ?nV ?ga ?gg ?hd ?ca ?mo ?iC ?tI ?lI ?cI ?kI ?lT
    (case aC => k_is)
    (case aD => k_is)
    (case l => k_is)
    (case sa => k_is)
    (case exC => k_is)
    (case tyC => k_is)
    (case kC => k_is)
    (case nV => k_is)
    (case ga => k_is)
    (case gg => k_is)
    (case hd => k_is)
    (case ca => k_is)
    (case mo => k_is)
    (case iC => k_is)
    (case tI => k_is)
    (case lI => k_is)
    (case cI => k_is)
    (case kI => k_is)
    (case lT => k_is)
  have r11 : L2.X1.Row26 (L2.KOf KX) mg "InvalidWords" := by
    dsimp only [L2.KOf]
    refine' L2.X1.row26 (p1 := ⟨50, 17, 50, 21⟩) (p2 := ⟨50, 23, 50, 28⟩) (p3 := ⟨50, 29, 50, 33⟩) (q1 := ⟨51, 8, 51, 12⟩) (q2 := ⟨51, 8, 51, 18⟩) (q3 := ⟨51, 21, 51, 26⟩) (q4 := ⟨51, 8, 51, 26⟩) KX G O ?aC ?aD ?l ?sa ?exC ?tyC ?kC ?nV ?ga ?gg ?hd ?ca ?mo ?iC ?tI ?lI ?cI ?kI ?lT
    (case aC => k_is)
    (case aD => k_is)
    (case l => k_is)
    (case sa => k_is)
    (case exC => k_is)
    (case tyC => k_is)
    (case kC => k_is)
    (case nV => k_is)
    (case ga => k_is)
    (case gg => k_is)
    (case hd => k_is)
    (case ca => k_is)
    (case mo => k_is)
    (case iC => k_is)
    (case tI => k_is)
    (case lI => k_is)
    (case cI => k_is)
    (case kI => k_is)
    (case lT => k_is)
  have r12 : L2.X1.Row26 (L2.KOf KX) mg "InvalidCount" := by
    dsimp only [L2.KOf]
    refine' L2.X1.row26 (p1 := ⟨54, 17, 54, 21⟩) (p2 := ⟨54, 23, 54, 28⟩) (p3 := ⟨54, 29, 54, 33⟩) (q1 := ⟨55, 8, 55, 12⟩) (q2 := ⟨55, 8, 55, 18⟩) (q3 := ⟨55, 21, 55, 26⟩) (q4 := ⟨55, 8, 55, 26⟩) KX G O ?aC ?aD ?l ?sa ?exC ?tyC ?kC ?nV ?ga ?gg ?hd ?ca ?mo ?iC ?tI ?lI ?cI ?kI ?lT
    (case aC => k_is)
    (case aD => k_is)
    (case l => k_is)
    (case sa => k_is)
    (case exC => k_is)
    (case tyC => k_is)
    (case kC => k_is)
    (case nV => k_is)
    (case ga => k_is)
    (case gg => k_is)
    (case hd => k_is)
    (case ca => k_is)
    (case mo => k_is)
    (case iC => k_is)
    (case tI => k_is)
    (case lI => k_is)
    (case cI => k_is)
    (case kI => k_is)
    (case lT => k_is)
  have r13 : L2.X1.Row26 (L2.KOf KX) mg "InvalidLevels" := by
    dsimp only [L2.KOf]
    refine' L2.X1.row26 (p1 := ⟨58, 17, 58, 21⟩) (p2 := ⟨58, 23, 58, 28⟩) (p3 := ⟨58, 29, 58, 33⟩) (q1 := ⟨59, 8, 59, 12⟩) (q2 := ⟨59, 8, 59, 18⟩) (q3 := ⟨59, 21, 59, 26⟩) (q4 := ⟨59, 8, 59, 26⟩) KX G O ?aC ?aD ?l ?sa ?exC ?tyC ?kC ?nV ?ga ?gg ?hd ?ca ?mo ?iC ?tI ?lI ?cI ?kI ?lT
    (case aC => k_is)
    (case aD => k_is)
    (case l => k_is)
    (case sa => k_is)
    (case exC => k_is)
    (case tyC => k_is)
    (case kC => k_is)
    (case nV => k_is)
    (case ga => k_is)
    (case gg => k_is)
    (case hd => k_is)
    (case ca => k_is)
    (case mo => k_is)
    (case iC => k_is)
    (case tI => k_is)
    (case lI => k_is)
    (case cI => k_is)
    (case kI => k_is)
    (case lT => k_is)
  have r14 : L2.X1.Row26 (L2.KOf KX) mg "InvalidPartner" := by
    dsimp only [L2.KOf]
    refine' L2.X1.row26 (p1 := ⟨62, 17, 62, 21⟩) (p2 := ⟨62, 23, 62, 28⟩) (p3 := ⟨62, 29, 62, 33⟩) (q1 := ⟨63, 8, 63, 12⟩) (q2 := ⟨63, 8, 63, 18⟩) (q3 := ⟨63, 21, 63, 26⟩) (q4 := ⟨63, 8, 63, 26⟩) KX G O ?aC ?aD ?l ?sa ?exC ?tyC ?kC ?nV ?ga ?gg ?hd ?ca ?mo ?iC ?tI ?lI ?cI ?kI ?lT
    (case aC => k_is)
    (case aD => k_is)
    (case l => k_is)
    (case sa => k_is)
    (case exC => k_is)
    (case tyC => k_is)
    (case kC => k_is)
    (case nV => k_is)
    (case ga => k_is)
    (case gg => k_is)
    (case hd => k_is)
    (case ca => k_is)
    (case mo => k_is)
    (case iC => k_is)
    (case tI => k_is)
    (case lI => k_is)
    (case cI => k_is)
    (case kI => k_is)
    (case lT => k_is)
  have r15 : L2.X1.Row26 (L2.KOf KX) mg "InvalidScene" := by
    dsimp only [L2.KOf]
    refine' L2.X1.row26 (p1 := ⟨66, 17, 66, 21⟩) (p2 := ⟨66, 23, 66, 28⟩) (p3 := ⟨66, 29, 66, 33⟩) (q1 := ⟨67, 8, 67, 12⟩) (q2 := ⟨67, 8, 67, 18⟩) (q3 := ⟨67, 21, 67, 26⟩) (q4 := ⟨67, 8, 67, 26⟩) KX G O ?aC ?aD ?l ?sa ?exC ?tyC ?kC ?nV ?ga ?gg ?hd ?ca ?mo ?iC ?tI ?lI ?cI ?kI ?lT
    (case aC => k_is)
    (case aD => k_is)
    (case l => k_is)
    (case sa => k_is)
    (case exC => k_is)
    (case tyC => k_is)
    (case kC => k_is)
    (case nV => k_is)
    (case ga => k_is)
    (case gg => k_is)
    (case hd => k_is)
    (case ca => k_is)
    (case mo => k_is)
    (case iC => k_is)
    (case tI => k_is)
    (case lI => k_is)
    (case cI => k_is)
    (case kI => k_is)
    (case lT => k_is)
  have r16 : L2.X1.Row26 (L2.KOf KX) mg "InvalidDeeds" := by
    dsimp only [L2.KOf]
    refine' L2.X1.row26 (p1 := ⟨70, 17, 70, 21⟩) (p2 := ⟨70, 23, 70, 28⟩) (p3 := ⟨70, 29, 70, 33⟩) (q1 := ⟨71, 8, 71, 12⟩) (q2 := ⟨71, 8, 71, 18⟩) (q3 := ⟨71, 21, 71, 26⟩) (q4 := ⟨71, 8, 71, 26⟩) KX G O ?aC ?aD ?l ?sa ?exC ?tyC ?kC ?nV ?ga ?gg ?hd ?ca ?mo ?iC ?tI ?lI ?cI ?kI ?lT
    (case aC => k_is)
    (case aD => k_is)
    (case l => k_is)
    (case sa => k_is)
    (case exC => k_is)
    (case tyC => k_is)
    (case kC => k_is)
    (case nV => k_is)
    (case ga => k_is)
    (case gg => k_is)
    (case hd => k_is)
    (case ca => k_is)
    (case mo => k_is)
    (case iC => k_is)
    (case tI => k_is)
    (case lI => k_is)
    (case cI => k_is)
    (case kI => k_is)
    (case lT => k_is)
  have r17 : L2.X1.Row26 (L2.KOf KX) mg "InvalidArms" := by
    dsimp only [L2.KOf]
    refine' L2.X1.row26 (p1 := ⟨74, 17, 74, 21⟩) (p2 := ⟨74, 23, 74, 28⟩) (p3 := ⟨74, 29, 74, 33⟩) (q1 := ⟨75, 8, 75, 12⟩) (q2 := ⟨75, 8, 75, 18⟩) (q3 := ⟨75, 21, 75, 26⟩) (q4 := ⟨75, 8, 75, 26⟩) KX G O ?aC ?aD ?l ?sa ?exC ?tyC ?kC ?nV ?ga ?gg ?hd ?ca ?mo ?iC ?tI ?lI ?cI ?kI ?lT
    (case aC => k_is)
    (case aD => k_is)
    (case l => k_is)
    (case sa => k_is)
    (case exC => k_is)
    (case tyC => k_is)
    (case kC => k_is)
    (case nV => k_is)
    (case ga => k_is)
    (case gg => k_is)
    (case hd => k_is)
    (case ca => k_is)
    (case mo => k_is)
    (case iC => k_is)
    (case tI => k_is)
    (case lI => k_is)
    (case cI => k_is)
    (case kI => k_is)
    (case lT => k_is)
  have r18 : L2.X1.Row26 (L2.KOf KX) mg "InvalidFrame" := by
    dsimp only [L2.KOf]
    refine' L2.X1.row26 (p1 := ⟨78, 17, 78, 21⟩) (p2 := ⟨78, 23, 78, 28⟩) (p3 := ⟨78, 29, 78, 33⟩) (q1 := ⟨79, 8, 79, 12⟩) (q2 := ⟨79, 8, 79, 18⟩) (q3 := ⟨79, 21, 79, 26⟩) (q4 := ⟨79, 8, 79, 26⟩) KX G O ?aC ?aD ?l ?sa ?exC ?tyC ?kC ?nV ?ga ?gg ?hd ?ca ?mo ?iC ?tI ?lI ?cI ?kI ?lT
    (case aC => k_is)
    (case aD => k_is)
    (case l => k_is)
    (case sa => k_is)
    (case exC => k_is)
    (case tyC => k_is)
    (case kC => k_is)
    (case nV => k_is)
    (case ga => k_is)
    (case gg => k_is)
    (case hd => k_is)
    (case ca => k_is)
    (case mo => k_is)
    (case iC => k_is)
    (case tI => k_is)
    (case lI => k_is)
    (case cI => k_is)
    (case kI => k_is)
    (case lT => k_is)
  have r19 : L2.X1.Row26 (L2.KOf KX) mg "InvalidHall" := by
    dsimp only [L2.KOf]
    refine' L2.X1.row26 (p1 := ⟨82, 17, 82, 21⟩) (p2 := ⟨82, 23, 82, 28⟩) (p3 := ⟨82, 29, 82, 33⟩) (q1 := ⟨83, 8, 83, 12⟩) (q2 := ⟨83, 8, 83, 18⟩) (q3 := ⟨83, 21, 83, 26⟩) (q4 := ⟨83, 8, 83, 26⟩) KX G O ?aC ?aD ?l ?sa ?exC ?tyC ?kC ?nV ?ga ?gg ?hd ?ca ?mo ?iC ?tI ?lI ?cI ?kI ?lT
    (case aC => k_is)
    (case aD => k_is)
    (case l => k_is)
    (case sa => k_is)
    (case exC => k_is)
    (case tyC => k_is)
    (case kC => k_is)
    (case nV => k_is)
    (case ga => k_is)
    (case gg => k_is)
    (case hd => k_is)
    (case ca => k_is)
    (case mo => k_is)
    (case iC => k_is)
    (case tI => k_is)
    (case lI => k_is)
    (case cI => k_is)
    (case kI => k_is)
    (case lT => k_is)
  have r20 : L2.X1.Row26 (L2.KOf KX) mg "InvalidSpot" := by
    dsimp only [L2.KOf]
    refine' L2.X1.row26 (p1 := ⟨86, 17, 86, 21⟩) (p2 := ⟨86, 23, 86, 28⟩) (p3 := ⟨86, 29, 86, 33⟩) (q1 := ⟨87, 8, 87, 12⟩) (q2 := ⟨87, 8, 87, 18⟩) (q3 := ⟨87, 21, 87, 26⟩) (q4 := ⟨87, 8, 87, 26⟩) KX G O ?aC ?aD ?l ?sa ?exC ?tyC ?kC ?nV ?ga ?gg ?hd ?ca ?mo ?iC ?tI ?lI ?cI ?kI ?lT
    (case aC => k_is)
    (case aD => k_is)
    (case l => k_is)
    (case sa => k_is)
    (case exC => k_is)
    (case tyC => k_is)
    (case kC => k_is)
    (case nV => k_is)
    (case ga => k_is)
    (case gg => k_is)
    (case hd => k_is)
    (case ca => k_is)
    (case mo => k_is)
    (case iC => k_is)
    (case tI => k_is)
    (case lI => k_is)
    (case cI => k_is)
    (case kI => k_is)
    (case lT => k_is)
  have r21 : L2.X1.Row26 (L2.KOf KX) mg "InvalidScript" := by
    dsimp only [L2.KOf]
    refine' L2.X1.row26 (p1 := ⟨90, 17, 90, 21⟩) (p2 := ⟨90, 23, 90, 28⟩) (p3 := ⟨90, 29, 90, 33⟩) (q1 := ⟨91, 8, 91, 12⟩) (q2 := ⟨91, 8, 91, 18⟩) (q3 := ⟨91, 21, 91, 26⟩) (q4 := ⟨91, 8, 91, 26⟩) KX G O ?aC ?aD ?l ?sa ?exC ?tyC ?kC ?nV ?ga ?gg ?hd ?ca ?mo ?iC ?tI ?lI ?cI ?kI ?lT
    (case aC => k_is)
    (case aD => k_is)
    (case l => k_is)
    (case sa => k_is)
    (case exC => k_is)
    (case tyC => k_is)
    (case kC => k_is)
    (case nV => k_is)
    (case ga => k_is)
    (case gg => k_is)
    (case hd => k_is)
    (case ca => k_is)
    (case mo => k_is)
    (case iC => k_is)
    (case tI => k_is)
    (case lI => k_is)
    (case cI => k_is)
    (case kI => k_is)
    (case lT => k_is)
  have r22 : L2.X1.Row26 (L2.KOf KX) mg "InvalidText" := by
    dsimp only [L2.KOf]
    refine' L2.X1.row26 (p1 := ⟨94, 17, 94, 21⟩) (p2 := ⟨94, 23, 94, 28⟩) (p3 := ⟨94, 29, 94, 33⟩) (q1 := ⟨95, 8, 95, 12⟩) (q2 := ⟨95, 8, 95, 18⟩) (q3 := ⟨95, 21, 95, 26⟩) (q4 := ⟨95, 8, 95, 26⟩) KX G O ?aC ?aD ?l ?sa ?exC ?tyC ?kC ?nV ?ga ?gg ?hd ?ca ?mo ?iC ?tI ?lI ?cI ?kI ?lT
    (case aC => k_is)
    (case aD => k_is)
    (case l => k_is)
    (case sa => k_is)
    (case exC => k_is)
    (case tyC => k_is)
    (case kC => k_is)
    (case nV => k_is)
    (case ga => k_is)
    (case gg => k_is)
    (case hd => k_is)
    (case ca => k_is)
    (case mo => k_is)
    (case iC => k_is)
    (case tI => k_is)
    (case lI => k_is)
    (case cI => k_is)
    (case kI => k_is)
    (case lT => k_is)
  have r23 : L2.X1.Row26 (L2.KOf KX) mg "InvalidLog" := by
    dsimp only [L2.KOf]
    refine' L2.X1.row26 (p1 := ⟨98, 17, 98, 21⟩) (p2 := ⟨98, 23, 98, 28⟩) (p3 := ⟨98, 29, 98, 33⟩) (q1 := ⟨99, 8, 99, 12⟩) (q2 := ⟨99, 8, 99, 18⟩) (q3 := ⟨99, 21, 99, 26⟩) (q4 := ⟨99, 8, 99, 26⟩) KX G O ?aC ?aD ?l ?sa ?exC ?tyC ?kC ?nV ?ga ?gg ?hd ?ca ?mo ?iC ?tI ?lI ?cI ?kI ?lT
    (case aC => k_is)
    (case aD => k_is)
    (case l => k_is)
    (case sa => k_is)
    (case exC => k_is)
    (case tyC => k_is)
    (case kC => k_is)
    (case nV => k_is)
    (case ga => k_is)
    (case gg => k_is)
    (case hd => k_is)
    (case ca => k_is)
    (case mo => k_is)
    (case iC => k_is)
    (case tI => k_is)
    (case lI => k_is)
    (case cI => k_is)
    (case kI => k_is)
    (case lT => k_is)
  have r24 : L2.X1.Row26 (L2.KOf KX) mg "Hopeless" := by
    dsimp only [L2.KOf]
    refine' L2.X1.row26 (p1 := ⟨102, 17, 102, 21⟩) (p2 := ⟨102, 23, 102, 28⟩) (p3 := ⟨102, 29, 102, 33⟩) (q1 := ⟨103, 8, 103, 12⟩) (q2 := ⟨103, 8, 103, 18⟩) (q3 := ⟨103, 21, 103, 26⟩) (q4 := ⟨103, 8, 103, 26⟩) KX G O ?aC ?aD ?l ?sa ?exC ?tyC ?kC ?nV ?ga ?gg ?hd ?ca ?mo ?iC ?tI ?lI ?cI ?kI ?lT
    (case aC => k_is)
    (case aD => k_is)
    (case l => k_is)
    (case sa => k_is)
    (case exC => k_is)
    (case tyC => k_is)
    (case kC => k_is)
    (case nV => k_is)
    (case ga => k_is)
    (case gg => k_is)
    (case hd => k_is)
    (case ca => k_is)
    (case mo => k_is)
    (case iC => k_is)
    (case tI => k_is)
    (case lI => k_is)
    (case cI => k_is)
    (case kI => k_is)
    (case lT => k_is)
  have r25 : L2.X1.Row26 (L2.KOf KX) mg "Refused" := by
    dsimp only [L2.KOf]
    refine' L2.X1.row26 (p1 := ⟨106, 17, 106, 21⟩) (p2 := ⟨106, 23, 106, 28⟩) (p3 := ⟨106, 29, 106, 33⟩) (q1 := ⟨107, 8, 107, 12⟩) (q2 := ⟨107, 8, 107, 18⟩) (q3 := ⟨107, 21, 107, 26⟩) (q4 := ⟨107, 8, 107, 26⟩) KX G O ?aC ?aD ?l ?sa ?exC ?tyC ?kC ?nV ?ga ?gg ?hd ?ca ?mo ?iC ?tI ?lI ?cI ?kI ?lT
    (case aC => k_is)
    (case aD => k_is)
    (case l => k_is)
    (case sa => k_is)
    (case exC => k_is)
    (case tyC => k_is)
    (case kC => k_is)
    (case nV => k_is)
    (case ga => k_is)
    (case gg => k_is)
    (case hd => k_is)
    (case ca => k_is)
    (case mo => k_is)
    (case iC => k_is)
    (case tI => k_is)
    (case lI => k_is)
    (case cI => k_is)
    (case kI => k_is)
    (case lT => k_is)
  have r26 : L2.X1.RowB (L2.KOf KX) mg "NothingToUndo" := by
    dsimp only [L2.KOf]
    refine' L2.X1.rowB KX G O ?aC ?aD ?l ?sa ?exC ?tyC ?kC ?nV ?ga ?gg ?hd ?ca ?mo ?ex
    (case aC => k_is)
    (case aD => k_is)
    (case l => k_is)
    (case sa => k_is)
    (case exC => k_is)
    (case tyC => k_is)
    (case kC => k_is)
    (case nV => k_is)
    (case ga => k_is)
    (case gg => k_is)
    (case hd => k_is)
    (case ca => k_is)
    (case mo => k_is)
    (case ex => k_exc)
  have r27 : L2.X1.RowB (L2.KOf KX) mg "NothingToRedo" := by
    dsimp only [L2.KOf]
    refine' L2.X1.rowB KX G O ?aC ?aD ?l ?sa ?exC ?tyC ?kC ?nV ?ga ?gg ?hd ?ca ?mo ?ex
    (case aC => k_is)
    (case aD => k_is)
    (case l => k_is)
    (case sa => k_is)
    (case exC => k_is)
    (case tyC => k_is)
    (case kC => k_is)
    (case nV => k_is)
    (case ga => k_is)
    (case gg => k_is)
    (case hd => k_is)
    (case ca => k_is)
    (case mo => k_is)
    (case ex => k_exc)
  have r28 : L2.X1.RowD (L2.KOf KX) mg "DeskError" := by
    dsimp only [L2.KOf]
    refine' L2.X1.rowD KX G O ?aC ?l ?sa ?exC ?tyC ?kC ?nV ?ga ?gg ?hd ?ca ?mo ?ex
    (case aC => k_is)
    (case l => k_is)
    (case sa => k_is)
    (case exC => k_is)
    (case tyC => k_is)
    (case kC => k_is)
    (case nV => k_is)
    (case ga => k_is)
    (case gg => k_is)
    (case hd => k_is)
    (case ca => k_is)
    (case mo => k_is)
    (case ex => k_exc)
  have f0 : L2.X1.RowF (L2.KOf KX) mg "_law_purse" L2.D1.sPurse := by
    dsimp only [L2.KOf]
    refine' L2.X1.rowF KX G ?a ?l ?c ?k
    (case a => k_is)
    (case l => k_is)
    (case c => k_is)
    (case k => k_is)
  have f1 : L2.X1.RowF (L2.KOf KX) mg "_law_mixed" L2.D1.sMixed := by
    dsimp only [L2.KOf]
    refine' L2.X1.rowF KX G ?a ?l ?c ?k
    (case a => k_is)
    (case l => k_is)
    (case c => k_is)
    (case k => k_is)
  have f2 : L2.X1.RowF (L2.KOf KX) mg "_law_draw" L2.D1.sDraw := by
    dsimp only [L2.KOf]
    refine' L2.X1.rowF KX G ?a ?l ?c ?k
    (case a => k_is)
    (case l => k_is)
    (case c => k_is)
    (case k => k_is)
  have f3 : L2.X1.RowF (L2.KOf KX) mg "_law_purses" L2.D1.sPurses := by
    dsimp only [L2.KOf]
    refine' L2.X1.rowF KX G ?a ?l ?c ?k
    (case a => k_is)
    (case l => k_is)
    (case c => k_is)
    (case k => k_is)
  have f4 : L2.X1.RowF (L2.KOf KX) mg "_law_one_of" L2.D1.sOneOf := by
    dsimp only [L2.KOf]
    refine' L2.X1.rowF KX G ?a ?l ?c ?k
    (case a => k_is)
    (case l => k_is)
    (case c => k_is)
    (case k => k_is)
  have f5 : L2.X1.RowF (L2.KOf KX) mg "_law_word" L2.D1.sWord := by
    dsimp only [L2.KOf]
    refine' L2.X1.rowF KX G ?a ?l ?c ?k
    (case a => k_is)
    (case l => k_is)
    (case c => k_is)
    (case k => k_is)
  have f6 : L2.X1.RowF (L2.KOf KX) mg "_law_first" L2.X1.s_first := by
    dsimp only [L2.KOf]
    refine' L2.X1.rowF KX G ?a ?l ?c ?k
    (case a => k_is)
    (case l => k_is)
    (case c => k_is)
    (case k => k_is)
  have f7 : L2.X1.RowF (L2.KOf KX) mg "_law_called" L2.X1.s_called := by
    dsimp only [L2.KOf]
    refine' L2.X1.rowF KX G ?a ?l ?c ?k
    (case a => k_is)
    (case l => k_is)
    (case c => k_is)
    (case k => k_is)
  have f8 : L2.X1.RowF (L2.KOf KX) mg "_law_bare" L2.X1.s_bare := by
    dsimp only [L2.KOf]
    refine' L2.X1.rowF KX G ?a ?l ?c ?k
    (case a => k_is)
    (case l => k_is)
    (case c => k_is)
    (case k => k_is)
  have f9 : L2.X1.RowF (L2.KOf KX) mg "_law_code" L2.X1.s_code := by
    dsimp only [L2.KOf]
    refine' L2.X1.rowF KX G ?a ?l ?c ?k
    (case a => k_is)
    (case l => k_is)
    (case c => k_is)
    (case k => k_is)
  have f10 : L2.X1.RowF (L2.KOf KX) mg "_law_is_error" L2.X1.s_iserr := by
    dsimp only [L2.KOf]
    refine' L2.X1.rowF KX G ?a ?l ?c ?k
    (case a => k_is)
    (case l => k_is)
    (case c => k_is)
    (case k => k_is)
  have f11 : L2.X1.RowF (L2.KOf KX) mg "_law_right" L2.X1.s_right := by
    dsimp only [L2.KOf]
    refine' L2.X1.rowF KX G ?a ?l ?c ?k
    (case a => k_is)
    (case l => k_is)
    (case c => k_is)
    (case k => k_is)
  have f12 : L2.X1.RowF (L2.KOf KX) mg "law" L2.X1.s_law := by
    dsimp only [L2.KOf]
    refine' L2.X1.rowF KX G ?a ?l ?c ?k
    (case a => k_is)
    (case l => k_is)
    (case c => k_is)
    (case k => k_is)
  have T : L2.D1.Free mg := ⟨PySem.W.mg_none_of KX G (by k_is), PySem.W.mg_none_of KX G (by k_is), PySem.W.mg_none_of KX G (by k_is), PySem.W.mg_none_of KX G (by k_is), PySem.W.mg_none_of KX G (by k_is), PySem.W.mg_none_of KX G (by k_is), PySem.W.mg_none_of KX G (by k_is), PySem.W.mg_none_of KX G (by k_is), PySem.W.mg_none_of KX G (by k_is)⟩
  have M : L2.X1.More mg := ⟨PySem.W.mg_none_of KX G (by k_is), PySem.W.mg_none_of KX G (by k_is), PySem.W.mg_none_of KX G (by k_is)⟩
  have vE : mg "ValueError" = none := PySem.W.mg_none_of KX G (by k_is)
  exact L2.X1.law_of hmg (L2.X1.all_rows (L2.X1.rows26 r0 r1 r2 r3 r4 r5 r6 r7 r8 r9 r10 r11 r12 r13 r14 r15 r16 r17 r18 r19 r20 r21 r22 r23 r24 r25) r26 r27 r28) T M vE f0 f1 f2 f3 f4 f5 f6 f7 f8 f9 f10 f11 f12)
