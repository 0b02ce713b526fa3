import PyProof.Rows.All
import Wide.All
import OpenK.AllK
import Wide.FinOn
import PySem.Challenge.RW_lanescounted_k04_errors_apart
import HandS.ForMost
import HandS.ForExc
import HandS.Wide
import HandS.IsInst
import HandS.EndBits
import HandS.Small
import HandS.FStr
import HandS.Gcd
import HandS.Strs
import HandS.SetFor
import HandS.ExcIs
import HandS.TryMany
import HandS.ExcInit
import HandS.ExcValue
import HandS.ExcField
import KE.KExcIs
set_option Elab.async false
set_option linter.all false
set_option maxRecDepth 100000
set_option maxHeartbeats 4000000
namespace Lc
open PySem PySem.Spec PyProof.Rows L2
section
open PySem.HandSPX
variable {prog : Program} {w : World} {A : Around} {E : Value → Shared → Prop} {R : Result → Shared → Prop} {h : Heap} {g : Array GenState} {d : Drawn} {t : Nat} {os : OsState}
variable {nm q : Str} {C N : Addr} {bs bm bmB : List Value} {hdct : Bool} {sn : List Str} {sub : List Value} {ab : Bool} {col : Option Bool} {dd : Option Addr} {k0 k1 k2 k3 k5 : Option Value} {B newId initId : String} {rest : List Value} {kw : List (Str × Value)}
/-- made by name: the words are no matter to __new__ -/
theorem kw_check {Q : Unit → Shared → Prop} (F : ExcBaseFacts B newId initId bmB) (hT : ∀ X : String, bm.contains (.type X) = bmB.contains (.type X)) (hC : h.get? C = some (excClassObj nm q C N bs bm hdct sn sub ab col dd k0 k1 k2 k3 k5 newId)) (z : Q () ⟨h, g, d, t, os⟩) :
    wpAny (model prog w) A (checkBuiltinCall newId ⟨.ref C :: rest, kw⟩) Q E ⟨h, g, d, t, os⟩ := by
  have inB : (Value.ref C :: bm).contains (.type B) = true := by rw [List.contains_cons, hT, F.hasB, Bool.or_true]
  have st := F.noStar
  simp only [checkBuiltinCall, F.newKind, F.newSplit, F.newRow]
  repeat (first | with_reducible refine wpAny_loadPart_at hC ?_ | (refine wpAny_isSubtype_exc hC ?_; rw [inB]) | refine wpAny_staticBase_exc hC ?_ | refine wpAny_madeBy_exc hC ?_ | simp only [bne_self_eq_false, Bool.false_eq_true, if_false] | wp_step)
  exact z
theorem kw_new (F : ExcBaseFacts B newId initId bmB) (hT : ∀ X : String, bm.contains (.type X) = bmB.contains (.type X)) (hC : h.get? C = some (excClassObj nm q C N bs bm hdct sn sub ab col dd k0 k1 k2 k3 k5 newId)) (hl : rest.length ≤ sizeLine)
    (z : R (.ok (.ret (.ref (h.objs.size + 1)))) ⟨(h.push (PySem.W.kdv_tup rest)).push (excO C h.objs.size), g, d, t, os⟩) : codeAny (model prog w) A (.builtin newId ⟨.ref C :: rest, kw⟩) R ⟨h, g, d, t, os⟩ := by
  have ends := F.ends
  have inB : (Value.ref C :: bm).contains (.type B) = true := by rw [List.contains_cons, hT, F.hasB, Bool.or_true]
  have inA : (Value.ref C :: bm).contains (.type "AttributeError") = false := by rw [List.contains_cons, hT, F.noAttr]; rfl
  have inN : (Value.ref C :: bm).contains (.type "NameError") = false := by rw [List.contains_cons, hT, F.noName]; rfl
  refine codeAny_builtinAt F.entry ?_
  unfold Builtin.«BaseException.__new__»
  refine PySem.wpAt_bind ?_
  show PySem.wpAt _ _ _ (stack >>= _) _ _ _
  refine PySem.wpAt_bind (PySem.wpAt_stack fun p below => PySem.wpAt_of_wpAny ?_)
  wp_walk
  refine PySem.wpAt_of_wpAny ?_
  rw [F.owner]
  repeat (first | with_reducible refine wpAny_madeHere_exc F.canon hC ?_ | with_reducible refine wpAny_loadPart_at hC ?_ | (with_reducible refine wpAny_isSubtype_exc hC ?_; first | rw [inB] | rw [inA] | rw [inN]) | wp_step)
  show R _ _
  rw [Heap.size_push]
  exact z
theorem kw_type (F : ExcBaseFacts B newId initId bmB) (hT : ∀ X : String, bm.contains (.type X) = bmB.contains (.type X)) {fI : Addr} {Q : Fin → Shared → Prop} (hC : h.get? C = some (excClassObj nm q C N bs bm hdct sn sub ab col dd k0 k1 k2 k3 k5 newId))
    (hi : PySem.W.Looks (model prog w) h (typeLookup (.ref C) "__init__") (some (.ref fI))) (hb : ∀ self, PySem.W.Looks (model prog w) h (bindSpecial (.ref fI) self) (.ref fI, [self])) (hl : rest.length ≤ sizeLine)
    (z : codeAny (model prog w) A (.call (.ref fI) ⟨.ref (h.objs.size + 1) :: rest, kw⟩) (fun r s' => match r with | .ok (.ret v) => v = .none ∧ Q (.done (.ret (.ref (h.objs.size + 1)))) s' | .ok _ => False | .error e => E e s') ⟨(h.push (PySem.W.kdv_tup rest)).push (excO C h.objs.size), g, d, t, os⟩) :
    wpAny (model prog w) A (Builtin.«type.__call__» ⟨.ref C :: rest, kw⟩) Q E ⟨h, g, d, t, os⟩ := by
  repeat (first | with_reducible refine wpAny_loadPart_at hC ?_ | with_reducible refine wpAny_madeBy_exc hC ?_ | wp_step)
  refine codeAny_call_builtin_code (Code.quiet_builtin _ F.quiet) (kw_check F hT hC ?_)
  refine kw_new F hT hC hl ?_
  show wpAny _ _ _ _ _ _
  have k : ∀ b o, h.get? b = some o → ((h.push (PySem.W.kdv_tup rest)).push (excO C h.objs.size)).get? b = some o := fun b o e => Heap.get?_push_of_some _ (Heap.get?_push_of_some _ e)
  have C2 := k _ _ hC
  have x2 : ((h.push (PySem.W.kdv_tup rest)).push (excO C h.objs.size)).get? (h.objs.size + 1) = some (excO C h.objs.size) := by heap_get
  have inC : (Value.ref C :: bm).contains (.ref C) = true := by simp
  have i2 := hi.keeps k
  have b2 := (hb (.ref (h.objs.size + 1))).keeps k
  unfold isInstance
  repeat (first | with_reducible refine wpAny_loadPart_at x2 ?_ | (with_reducible refine wpAny_isSubtype_exc C2 ?_; rw [inC]) | wp_step)
  show wpAny _ _ (typeLookup (.ref C) _) _ _ _
  refine i2.at ?_
  refine wpAny_holding (wpAny_bind (b2.at ?_))
  refine wpAny_bind (wpAny_call (codeAny_mono z fun r s' y => ?_))
  rcases r with e | (v | _ | _ | _) <;> first | exact y | exact y.elim | skip
  obtain ⟨rfl, y⟩ := y
  first
    | exact wpAny_pure (wpAny_pure y)
    | (wp_walk; exact y)
theorem kw_tcheck {Q : Unit → Shared → Prop} (hC : h.get? C = some (excClassObj nm q C N bs bm hdct sn sub ab col dd k0 k1 k2 k3 k5 newId)) (z : Q () ⟨h, g, d, t, os⟩) : wpAny (model prog w) A (checkBuiltinCall "type.__call__" ⟨.ref C :: rest, kw⟩) Q E ⟨h, g, d, t, os⟩ := by
  have f3 := tc_sub
  have ty : (⟨h, g, d, t, os⟩ : Shared).TypeIs (.ref C) "type" := ⟨_, hC, rfl⟩
  simp only [checkBuiltinCall, tc_kind, tc_split]
  repeat (any_goals (first | assumption | with_reducible refine wpAny_loadPart_at hC ?_ | with_reducible refine wpAny_onRaise ?_ | with_reducible refine wpAny_map ?_ | wp_step))
theorem kw_own (F : ExcBaseFacts B newId initId bmB) (hT : ∀ X : String, bm.contains (.type X) = bmB.contains (.type X)) {fI : Addr} (hC : h.get? C = some (excClassObj nm q C N bs bm hdct sn sub ab col dd k0 k1 k2 k3 k5 newId))
    (hi : PySem.W.Looks (model prog w) h (typeLookup (.ref C) "__init__") (some (.ref fI))) (hb : ∀ self, PySem.W.Looks (model prog w) h (bindSpecial (.ref fI) self) (.ref fI, [self])) (hl : rest.length ≤ sizeLine)
    (z : codeAny (model prog w) (A.under (.builtin "type.__call__" ⟨.ref C :: rest, kw⟩)) (.call (.ref fI) ⟨.ref (h.objs.size + 1) :: rest, kw⟩) (PySem.W.InitBack (h.objs.size + 1) R) ⟨(h.push (PySem.W.kdv_tup rest)).push (excO C h.objs.size), g, d, t, os⟩) :
    codeAny (model prog w) A (.call (.ref C) ⟨rest, kw⟩) R ⟨h, g, d, t, os⟩ := by
  have f1 := tc_lookup
  have f2 := tc_bind (.ref C)
  have ty : (⟨h, g, d, t, os⟩ : Shared).TypeIs (.ref C) "type" := ⟨_, hC, rfl⟩
  refine codeAny_of_tree ?_
  show wpAny _ _ (callAny (.ref C) _) _ _ _
  repeat (any_goals (first | assumption | with_reducible refine wpAny_loadPart_at hC ?_ | wp_step))
  refine ⟨rfl, ?_⟩
  refine codeAny_call_builtin_at (Code.quiet_builtin _ (by decide +kernel)) entry_typeCall (kw_tcheck hC (kw_type F hT hC hi hb hl ?_))
  refine codeAny_mono z fun r s' y => ?_
  rcases r with e | (v | _ | _ | _) <;> exact y
end

/-- a class of errors, as the written part has it -/
structure Ecl (K : PySem.W.Frag) (C : Addr) (mro : List Value) : Prop where
  cl : ∃ cd, PySem.W.clsIn K C = some cd ∧ cd.mro = mro
  ga : PySem.W.findIn K (.ref C) "__getattribute__" = some (some (.builtin "BaseException.__getattribute__"))
  gg : PySem.W.findIn K (.ref C) "__getattr__" = some none
  gc : PySem.W.findIn K (.ref C) "__class__" = some (some (.builtin "object.__class__"))
theorem Ecl.sub {K : PySem.W.Frag} {C : Addr} {mro : List Value} (E : Ecl K C mro) (ne : mro ≠ []) (b : Value) : PySem.W.subIn K (.ref C) b = some (mro.contains b) := by
  obtain ⟨cd, e, rfl⟩ := E.cl
  show PySem.W.mroIn K C b = _
  unfold PySem.W.mroIn
  rw [e, Option.bind_some]
  have z : cd.mro.isEmpty = false := by
    cases h : cd.mro with
    | nil => exact absurd h ne
    | cons _ _ => rfl
  rw [z]; rfl
/-- an error held: laid without own __init__, or with one that keeps a number by a name -/
def Held (H : Hp) (a C : Addr) : Option (Str × Int) → Prop
  | none => H a = some (ExO (.ref C) a)
  | some (f, n) => ∃ d, H a = some (exo a C (some d)) ∧ H d = some (exd d [(f, .int n)])
def rIsV (K : PySem.W.Frag) : List V → Hp → VK → Prop := fun xs H Q => ∃ (a C : Addr) (o : Option (Str × Int)) (mro : List Value) (c : V) (cv : Value) (b : Bool), xs = [.ref a, c] ∧ (∀ u, RelV c u → u = cv) ∧ Ecl K C mro ∧ mro.contains (.type "BaseException") = true ∧ mro.contains (.type "object") = true ∧
  PySem.W.specialIn K (.builtin "object.__class__") "__get__" = some (some (.builtin "getset_descriptor.__get__")) ∧ PySem.W.takesIn K (.builtin "object.__class__") = some true ∧ Held H a C o ∧ PySem.W.kitOne K (.ref C) cv = some b ∧ Q (.bl b) H
theorem call_isV {X : Cx} (K : PySem.W.Frag) (hK : X.K = K := by rfl) : CallR X (.builtin "isinstance") (rIsV K) := by
  subst hK
  intro pins s σ H xs us Q I r h
  obtain ⟨a, C, o, mro, c, cv, b, rfl, hcv, E, mB, mO, hn, ht, hd, e, q⟩ := h
  have ne : mro ≠ [] := fun z => by rw [z] at mB; cases mB
  obtain ⟨u, v, rfl, ru, rv⟩ := Vals.two r
  cases ru
  have ev := hcv _ rv
  subst ev
  obtain ⟨cd, hcl, _⟩ := E.cl
  have J : ∃ (oe : Obj) (od : Option Obj), PySem.W.InstAt s.heap a oe C od := by
    cases o with
    | none =>
      obtain ⟨⟨oe, vs, ho, hz, hdt, _⟩, _, _⟩ := I.hok a _ hd
      exact ⟨oe, none, ho, hz.1, by unfold PySem.W.notCls; rw [hdt], by rw [hz.2]; trivial⟩
    | some fn =>
      obtain ⟨f, n⟩ := fn
      obtain ⟨d, h1, h2⟩ := hd
      obtain ⟨t1, ho⟩ := exo_at I.hok h1
      obtain ⟨mA, ⟨od, _, _, hod, _⟩, _⟩ := exd_at I.hok h2
      exact ⟨_, some od, ho, rfl, rfl, hod⟩
  obtain ⟨oe, od, J⟩ := J
  exact PySem.W.kia_one (PySem.W.kitx_exc (od := od) (by rw [hcl]; rfl) E.ga E.gg (by rw [E.sub ne, mB]) E.gc hn ht (by have z := E.sub ne (.type "object"); rw [mO] at z; exact z)) I.kIn J e (fun z => nomatch z) fun tk => ⟨.bl b, H, I.kept (t' := tk) fun _ _ z => z, rfl, q⟩
section
variable {X : Cx} {o e : Expr} {es : List Expr} {to te : TE} {ta : TA} {f x : Str} {p p' p1 p2 pos : Pos}
/-- D.__init__(self, ..), D an own class whose __init__ is ValueError's -/
theorem pe_cinit {pl : Sem Bool} {D : Addr} (hg : Gl X x) (hm : X.mg x = some (.ref D)) (h1 : PySem.W.specialIn X.K (.ref D) "__getattribute__" = some (some (.builtin "type.__getattribute__"))) (h2 : PySem.W.typeIn X.K (.ref D) = some (.type "type")) (h3 : PySem.W.readsIn X.K D (.type "type") = true)
    (h4 : PySem.W.findCls X.K (.ref D) (.type "type") "__init__" = some (.val (.builtin "ValueError.__init__"))) (ha : PA X (e :: es) ta)
    (hc : eval (.Call (.Attribute (.Name x p1) "__init__" p2) (e :: es) [] pos) X.env = (do
      let ov ← eval (.Name x p1) X.env
      standAt p2.atName
      let (f, first) ← holding [ov] (getMethod ov "__init__" pl)
      callWith pos f first (backTo pos (starEach (e :: es) X.env)) (backToKw pos (keywordEach [] X.env))) := by rfl)
    (he : starEach (e :: es) X.env = (false, eval e X.env) :: starEach es X.env := by rfl) (hpl : (backTo pos (starEach es X.env)).any (·.1) = false := by rfl) (hdb : (x == ("__debug__" : Str)) = false := by decide) :
    PE X (.Call (.Attribute (.Name x p1) "__init__" p2) (e :: es) [] pos) (tVeI X.K ta) := by
  refine ⟨fun pins s σ H Q I h => ?_⟩
  refine PySem.W.methodCall_KW (ld_glob I hg hm ?_ hdb) hc
  obtain ⟨m, fr⟩ := I.fr
  refine PySem.W.method_of_cls fr I.ok.mod.kin h1 (PySem.W.cls_val fr I.ok.mod.kin h2 h3 h4 (by decide +kernel) ?_)
  refine PyProof.Rows.callWith_method1 (thn (ha.run pos pins _ σ H _ (I.tok _) h) fun us s1 ⟨vs, H1, I1, r1, a, C, ws, ev, hl, T, ea, q⟩ => ?_) he hpl
  subst ev
  cases r1 with
  | @cons _ u0 _ ur ra rw' =>
    obtain rfl : u0 = Value.ref a := ra
    have hlen : ur.length ≤ sizeLine := by
      rw [← Paired.length rw', sizeLine_eq]
      omega
    exact oinit_ok T I1 ea hlen fun s' J => ⟨.non, H1, J, rfl, q⟩
/-- e.f of an error held -/
def tXo (K : PySem.W.Frag) (f : Str) (te : TE) : TE := fun σ H Q => te σ H fun x H1 => ∃ (a C d : Addr) (fs : List (Str × V)) (v : V), x = .ref a ∧ L2.XfC K C ∧ PySem.W.findIn K (.ref C) f = some none ∧ H1 a = some (exo a C (some d)) ∧ H1 d = some (exd d fs) ∧ fs.lookup f = some v ∧ Q v H1
theorem pe_xo (he : PE X e te) (hb : attributeBase e f X.env (eval e X.env) = eval e X.env := by rfl) : PE X (.Attribute e f pos) (tXo X.K f te) := by
  refine ⟨fun pins s σ H Q I h => ?_⟩
  refine attr_of hb (thn (he.run pins s σ H _ I h) fun u s1 hh => ?_)
  obtain ⟨y, H1, I1, ry, a, C, d, fs, v, rfl, T, hno, ea, ed, l, q⟩ := hh
  obtain rfl : u = Value.ref a := ry
  obtain ⟨t1, ho⟩ := exo_at I1.hok ea
  obtain ⟨mA, hns, hr⟩ := exd_at I1.hok ed
  obtain ⟨od, hod, hl⟩ := lookIn_ns hns
  obtain ⟨u, hu, ru⟩ := RelO.some_of (v := v) (o := mA f) (by rw [← l]; exact hr f)
  have J : PySem.W.InstAt s1.heap a { cls := .ref C, dict := some d, data := .fields #[.ref t1, .none, .none, .none, .bool false, .none] } C (some od) := ⟨ho, rfl, rfl, hod⟩
  exact HandSPX.exc_get I1.kIn J T.ga T.gg T.exC (PySem.W.findObj_own T.hdC hno rfl (by rw [hl, hu])) (handed_of ru) ⟨v, H1, I1.tok _, ru, q⟩
end
/-- C(e, ..): made, its __init__ walked, held -/
def tMkV (C : Addr) (sp : Sp) (t : TA) : TE := fun σ H Q => t σ H fun vs H1 => vs.length ≤ 1000 ∧ ∀ a, H1 a = none → sp (.ref a :: vs) (upd H1 a (exo a C none)) (fun v H2 => v = .non ∧ Q (.ref a) H2) (fun _ _ _ => False)
section
variable {X : Cx} {CX : CXT} {C fI : Addr} {k : Nat} {fd : FuncData} {ps ks : List Str} {sp : Sp} {e : Expr} {es : List Expr} {kws : List Keyword} {t : TA} {x : Str} {p pos : Pos}
theorem run_mkV {pins : List (Addr × Obj)} {σ : L2.St} {H : Hp} {s : Shared} {Q : VK} {us : List Value} {kw : List (Str × Value)} {vs : List V} {ws : List Value} (T : OexC X.K C) (iC : PySem.W.findIn X.K (.ref C) "__init__" = some (some (.ref fI))) (tI : PySem.W.typeIn X.K (.ref fI) = some (.type "function"))
    (F : FnOk X.prog X.w X.K X.mg X.base CX k fI fd ps sp) (hr : Room (k + 1) X.A) (hb : ∀ (s : Shared) (a : Addr), X.K.In s.heap → BindsTo s fd ⟨.ref a :: us, kw⟩ (ps.zip (.ref a :: ws))) (hx : Passes CX X (fun _ _ _ => False)) (I : Inv X pins σ H s) (r : Vals vs ws) (hl : us.length ≤ sizeLine)
    (h : ∀ a, H a = none → sp (.ref a :: vs) (upd H a (exo a C none)) (fun v H2 => v = .non ∧ Q (.ref a) H2) (fun _ _ _ => False)) :
    wpAny (model X.prog X.w) X.A (call (.ref C) us kw) (EP X pins σ Q) X.xe s := by
  obtain ⟨nm, q, N, bs, bm, sn, sub, ab, col, dd, k0, k1, k2, k3, k5, hC, hbm⟩ := T.cls
  obtain ⟨hp, g, dr, tk, os⟩ := s
  have hsz : hp.objs.size ≤ hp.objs.size + 1 := Nat.le_succ _
  have hq := h (hp.objs.size + 1) (I.hok.fresh hsz)
  have kk : ∀ b o, hp.get? b = some o → ((hp.push (PySem.W.kdv_tup us)).push (PySem.HandSPX.excO C hp.objs.size)).get? b = some o := fun b o e => Heap.get?_push_of_some _ (Heap.get?_push_of_some _ e)
  have hget : ((hp.push (PySem.W.kdv_tup us)).push (PySem.HandSPX.excO C hp.objs.size)).get? (hp.objs.size + 1) = some (PySem.HandSPX.excO C hp.objs.size) := by heap_get
  have I2 : Inv X pins σ (upd H (hp.objs.size + 1) (exo (hp.objs.size + 1) C none)) ⟨(hp.push (PySem.W.kdv_tup us)).push (PySem.HandSPX.excO C hp.objs.size), g, dr, tk, os⟩ :=
    I.laid (t' := tk) (a := hp.objs.size + 1) (o := exo (hp.objs.size + 1) C none) (h' := (hp.push (PySem.W.kdv_tup us)).push (PySem.HandSPX.excO C hp.objs.size)) kk hsz (exo_ok hget)
  have r2 : Vals (V.ref (hp.objs.size + 1) :: vs) (Value.ref (hp.objs.size + 1) :: ws) := .cons rfl r
  refine wpAny_call (kw_own PySem.F.excBase_ValueError (fun Y => PySem.HandSPX.refsVE_contains Y bm hbm) (I.kIn _ _ hC) (PySem.W.looks_findIn I.kIn iC) (fun self => PySem.W.bind_fn I.kIn self tI) hl
    (codeAny_mono (F.run _ X.stack _ _ ⟨Value.ref (hp.objs.size + 1) :: us, kw⟩ (Value.ref (hp.objs.size + 1) :: ws) _ _ (fun _ _ _ => False) (hr.make C us kw) (I2.env0.make C us kw) (hb _ _ I2.kIn) r2 hq) fun r s' hq' => ?_))
  cases r with
  | error er => exact hx pins σ _ _ er s' I2 hq'
  | ok fl =>
    cases fl with
    | ret u =>
      obtain ⟨v, H', I3, rv, ev, q3⟩ := I2.after hq'
      subst ev
      exact ⟨rv, ⟨V.ref (hp.objs.size + 1), H', I3, rfl, q3⟩⟩
    | next => exact False.elim hq'
    | brk => exact False.elim hq'
    | cont => exact False.elim hq'
theorem pe_mkV (T : OexC X.K C) (iC : PySem.W.findIn X.K (.ref C) "__init__" = some (some (.ref fI))) (tI : PySem.W.typeIn X.K (.ref fI) = some (.type "function")) (F : FnOk X.prog X.w X.K X.mg X.base CX k fI fd ps sp) (hr : Room (k + 1) X.A) (hb : ∀ (s : Shared) (us : List Value), us.length = ps.length → BindsTo s fd ⟨us, []⟩ (ps.zip us)) (hx : Passes CX X (fun _ _ _ => False))
    (hg : Gl X x) (hm : X.mg x = some (.ref C)) (ha : PA X (e :: es) t) (hdb : (x == ("__debug__" : Str)) = false := by decide) (he : starEach (e :: es) X.env = (false, eval e X.env) :: starEach es X.env := by rfl) (hpl : (backTo pos (starEach es X.env)).any (·.1) = false := by rfl) :
    PE X (.Call (.Name x p) (e :: es) [] pos) (tMkV C sp t) := by
  refine ⟨fun pins s σ H Q I h => ?_⟩
  refine wpAny_Call_Name_kw (ld_glob I hg hm ?_ hdb)
  refine PySem.W.callWith_K (h₀ := X.base) I.ok.mod.kin T.kC (thn (ha.run pos pins s σ H _ I h) fun us s1 ⟨vs, H1, I1, r1, hz, q1⟩ => ⟨I1.kIn, ?_⟩) he hpl
  have hl : us.length ≤ sizeLine := by
    rw [← Paired.length r1, sizeLine_eq]
    omega
  have hw : us.length + 1 = ps.length := by
    have e := F.len _ _ _ _ (q1 _ (I1.hok.fresh (Nat.le_refl _)))
    have e2 := Paired.length r1
    simp only [List.length_cons] at e
    omega
  exact run_mkV T iC tI F hr (fun s a _ => hb s _ hw) hx I1 r1 hl q1
theorem pe_mkVK (T : OexC X.K C) (iC : PySem.W.findIn X.K (.ref C) "__init__" = some (some (.ref fI))) (tI : PySem.W.typeIn X.K (.ref fI) = some (.type "function")) (F : FnOk X.prog X.w X.K X.mg X.base CX k fI fd ps sp) (hr : Room (k + 1) X.A)
    (hb : ∀ (s : Shared) (a : Addr) (ws : List Value), ws.length = ks.length → BindsTo s fd ⟨[.ref a], ks.zip ws⟩ (ps.zip (.ref a :: ws))) (hx : Passes CX X (fun _ _ _ => False)) (hg : Gl X x) (hm : X.mg x = some (.ref C)) (hkw : PK X kws t) (hkl : ks.length + 1 = ps.length)
    (hall : (backToKw pos (keywordEach kws X.env)).all (·.1.isSome) = true := by rfl) (hks : (backToKw pos (keywordEach kws X.env)).filterMap (·.1) = ks := by rfl) (hdb : (x == ("__debug__" : Str)) = false := by decide)
    (hpl : ((backTo pos (starEach [] X.env)).any (·.1) || (backToKw pos (keywordEach kws X.env)).any (·.1.isNone)) = false := by rfl) :
    PE X (.Call (.Name x p) [] kws pos) (tMkV C sp t) := by
  refine ⟨fun pins s σ H Q I h => ?_⟩
  refine wpAny_Call_Name_kw (ld_glob I hg hm ?_ hdb)
  refine PySem.W.callWith_KW0 (h₀ := X.base) I.ok.mod.kin T.kC hall ?_ hpl
  refine thn (hkw.run pos pins s σ H _ I h) fun ws s1 ⟨vs, H1, I1, r1, hz, q1⟩ => ⟨I1.kIn, ?_⟩
  rw [hks]
  have hw : ws.length = ks.length := by
    have e := F.len _ _ _ _ (q1 _ (I1.hok.fresh (Nat.le_refl _)))
    have e2 := Paired.length r1
    simp only [List.length_cons] at e
    omega
  exact run_mkV T iC tI F hr (fun s a _ => hb s a ws hw) hx I1 r1 (Nat.zero_le _) q1
end
end Lc
namespace Lc
open PySem PySem.Spec PyProof.Rows L2
/-! ### great ints -/
/-- two factors of together less than a hundred million bits -/
def CMulX (i j : Int) : Prop := i.natAbs.log2 + j.natAbs.log2 < 100000000
theorem intBits_le (x : Int) : Builtin.Int.intBits x ≤ x.natAbs.log2 + 1 := by
  unfold Builtin.Int.intBits; split <;> omega
theorem CMulX.ok {i j : Int} (h : CMulX i j) : IntMulOk i j := by
  have a := intBits_le i
  have b := intBits_le j
  unfold CMulX at h
  intro z
  have y := (Bool.and_eq_true _ _ ▸ z).2
  unfold Builtin.Int.intTooBig at y
  have x := of_decide_eq_true y
  have l : bitsLine = 134217728 := by decide
  omega
theorem op_mulX {X : Cx} : OpR X (binaryOp .Mult) (rI CMulX fun i j => .int (i * j)) := opI fun _ _ _ _ _ _ _ hc q => mul_int q hc.ok
/-- few bits -/
def Few (i : Int) : Prop := i.natAbs.log2 ≤ 2000000
theorem few_of {i : Int} (h : i.natAbs < 2 ^ 240) : Few i := by
  have := PySem.Flt.log2_lt_of (n := i.natAbs) (k := 240) (by omega) h
  unfold Few; omega
theorem few_le {i : Int} {b : Int} (h0 : 0 ≤ i) (h : i ≤ b) (hb : b.natAbs < 2 ^ 240) : Few i := few_of (Nat.lt_of_le_of_lt (by omega) hb)
theorem mulX {i j : Int} (h : Few i) (h' : Few j) : CMulX i j := by unfold CMulX; unfold Few at h h'; omega
theorem divX {i j : Int} (h : 0 < j) (hb : j.natAbs < 2 ^ 240) : CDivW i j := wide_div (b := 240) h hb (by decide) (by decide)
theorem log2_mono {a b : Nat} (h : a ≤ b) : a.log2 ≤ b.log2 := by
  rcases Nat.eq_zero_or_pos a with h0 | h0
  · subst h0; simp
  · have hb : b ≠ 0 := by omega
    have h1 : 2 ^ a.log2 ≤ a := Nat.log2_self_le (by omega)
    exact (Nat.le_log2 hb).mpr (by omega)
theorem bits_log {z : Int} (h : Builtin.Int.intBits z ≤ 1048576) : z.natAbs.log2 ≤ 1048576 := by
  unfold Builtin.Int.intBits at h
  split at h
  · rename_i h0; simp_all
  · omega
/-! ### heaps -/
/-- all that was tracked, but for a, is as it was -/
def But (a : Addr) (H H' : Hp) : Prop := ∀ b o, b ≠ a → H b = some o → H' b = some o
theorem But.refl (a : Addr) (H : Hp) : But a H H := fun _ _ _ h => h
theorem But.trans {a : Addr} {H H1 H2 : Hp} (x : But a H H1) (y : But a H1 H2) : But a H H2 := fun b o n h => y b o n (x b o n h)
theorem But.same {a : Addr} {H H1 H2 : Hp} (x : But a H H1) (y : Same H1 H2) : But a H H2 := fun b o n h => y b o (x b o n h)
theorem Same.but {a : Addr} {H H1 : Hp} (y : Same H H1) : But a H H1 := fun b o _ h => y b o h
theorem But.new {a : Addr} {H H1 H2 : Hp} (y : Same H H1) (x : But a H1 H2) : But a H H2 := fun b o n h => x b o n (y b o h)
theorem same_upd {H : Hp} {p : Addr} {o : HO} (h : H p = none) : Same H (upd H p o) := fun b x e => by
  rw [upd_ne (ne_of_none e h)]
  exact e
theorem But.upd {a : Addr} {H H' : Hp} {o : HO} (x : But a H H') : But a H (upd H' a o) := fun b u n h => by
  rw [upd_ne n]
  exact x b u n h
/-! ### statements joined behind an if -/
theorem seq_cut {t u : TS} {D : Ends} {σ : L2.St} {H : Hp} (M : L2.St → Hp → Prop) (h2 : ∀ σ' H', M σ' H' → u D σ' H') (h1 : (∀ σ' H', M σ' H' → u D σ' H') → t { D with nx := u D } σ H) : tSeq t u D σ H := h1 h2
theorem if_cut {c : TT} {t1 t2 u : TS} {D : Ends} {σ : L2.St} {H : Hp} (M : L2.St → Hp → Prop) (h2 : ∀ σ' H', M σ' H' → u D σ' H') (h1 : (∀ σ' H', M σ' H' → u D σ' H') → tIfS c t1 t2 { D with nx := u D } σ H) : tSeq (tIfS c t1 t2) u D σ H := h1 h2
/-! ### the source of draws -/
structure Src (H : Hp) (a : Addr) (n : Nat) : Prop where
  ex : ∃ (l : Addr) (ns : List Int) (x y z : Int), H a = some (.lst [.ref l, .int x, .int y, .int z]) ∧ H l = some (.lst (ns.map V.int)) ∧ (∀ k ∈ ns, k.natAbs.log2 ≤ 1048576) ∧ ns.length ≤ 63 ∧
    0 ≤ x ∧ x.natAbs.log2 ≤ 1048576 ∧ 0 ≤ y ∧ y < 2147483647 ∧ 0 ≤ z ∧ z ≤ (n : Int)
def spDraw : Sp := fun vs H Q _ => ∃ (a : Addr) (n : Nat) (lim : Int), vs = [.ref a, .int lim] ∧ Src H a n ∧ n < 1000000 ∧ 1 ≤ lim ∧ lim ≤ 1000000000000 ∧
  ∀ d H', 0 ≤ d → d < lim → Src H' a (n + 1) → But a H H' → Q (.int d) H'
def spSource (K : PySem.W.Frag) : Sp := fun vs H Q _ => ∃ (a : Addr) (ns : List Int), vs = [.ref a] ∧ SqL K H a (ns.map V.int) ∧ ns.length ≤ 63 ∧ (∀ z ∈ ns, Builtin.Int.intBits z ≤ 1048576) ∧
  ∀ p H', H p = none → Src H' p 0 → Same H H' → Q (.ref p) H'
def spGreat : Sp := fun vs H Q _ => ∃ (a : Addr) (n : Nat) (lim : Int), vs = [.ref a, .int lim] ∧ Src H a n ∧ n + 5 < 1000000 ∧ 1 ≤ lim ∧ lim ≤ 10 ^ 60 ∧
  ∀ d H', 0 ≤ d → d < lim → Src H' a (n + 5) → But a H H' → Q (.int d) H'
/-- what is behind the first if of a draw -/
structure Mid (H0 : Hp) (a : Addr) (n : Nat) (H : Hp) : Prop where
  src : Src H a n
  but : But a H0 H
theorem src_ne {H : Hp} {a b : Addr} {n : Nat} (S : Src H a n) (h : H b = none) : b ≠ a := by
  obtain ⟨l, ns, x, y, z, h1, _⟩ := S.ex
  intro e; subst e; rw [h] at h1; cases h1
theorem Src.le {H : Hp} {a : Addr} {n m : Nat} (S : Src H a n) (h : n ≤ m) : Src H a m := by
  obtain ⟨l, ns, x, y, z, h1, h2, h3, h4, h5, h6, h7, h8, h9, h10⟩ := S.ex
  exact ⟨l, ns, x, y, z, h1, h2, h3, h4, h5, h6, h7, h8, h9, by omega⟩
theorem Src.same {H H' : Hp} {a : Addr} {n : Nat} (S : Src H a n) (k : Same H H') : Src H' a n := by
  obtain ⟨l, ns, x, y, z, h1, h2, h3⟩ := S.ex
  exact ⟨l, ns, x, y, z, k _ _ h1, k _ _ h2, h3⟩
theorem cut1 (l : List V) : cutV l (some 1) none = l.drop 1 := by
  have e1 : HT.sIx l.length 0 (some 1) = min 1 l.length := HT.sIx_nat l.length 0 1
  have e2 : HT.sIx l.length l.length none = l.length := HT.sIx_none ..
  show ((l.drop (HT.sIx l.length 0 (some 1))).take (HT.sIx l.length l.length none - HT.sIx l.length 0 (some 1))) = l.drop 1
  rw [e1, e2]
  match l with
  | [] => rfl
  | a :: r =>
    have e3 : min 1 (a :: r).length = 1 := Nat.min_eq_left (by simp)
    rw [e3]
    exact List.take_of_length_le (by simp)
theorem idiv_log {x j : Int} (h0 : 0 ≤ x) (hj : 1 ≤ j) {k : Nat} (h : x.natAbs.log2 ≤ k) : (x / j).natAbs.log2 ≤ k := by
  have h1 : 0 ≤ x / j := Int.ediv_nonneg h0 (by omega)
  have h2 : x / j ≤ x := Int.ediv_le_self j h0
  have h3 : (x / j).natAbs ≤ x.natAbs := by omega
  exact Nat.le_trans (log2_mono h3) h
def pw9 : Nat → Int
  | 0 => 1
  | n + 1 => pw9 n * 1000000000
theorem pw9_le {i : Nat} (h : i ≤ 5) : pw9 i ≤ 1000000000000000000000000000000000000000000000 := by
  match i, h with
  | 0, _ => decide
  | 1, _ => decide
  | 2, _ => decide
  | 3, _ => decide
  | 4, _ => decide
  | 5, _ => decide
theorem few_bits {k : Int} (h : k.natAbs.log2 ≤ 1048576) : Few k := by unfold Few; omega
theorem ends_true {Q : VK} {b : Bool} {H : Hp} (q : ∀ H', Q (.bl true) H') (h : b = true) : Q (.bl b) H := h ▸ q H
/-! ### rules with the written part by its name (within a comprehension) -/
theorem ixL {X : Cx} (K : PySem.W.Frag) (h : X.K = K := by rfl) : IxR X (rIxL K) := h ▸ ix_list
theorem ixT {X : Cx} (K : PySem.W.Frag) (h : X.K = K := by rfl) : IxR X (rIxT K) := h ▸ ix_tup
/-! ### what an object is -/
inductive Arg (K : PySem.W.Frag) (H : Hp) : V → String → Prop where
  | non : Arg K H .non "NoneType"
  | bl (b : Bool) : Arg K H (.bl b) "bool"
  | int (i : Int) : Arg K H (.int i) "int"
  | str (x : Str) : Arg K H (.str x) "str"
  | lst {a : Addr} {xs : List V} (e : H a = some (.lst xs)) : Arg K H (.ref a) "list"
  | tup {a : Addr} {xs : List V} (e : H a = some (.tup xs)) : Arg K H (.ref a) "tuple"
  | dK {a : Addr} {kvs : List (Key × V)} (e : H a = some (.dK kvs)) : Arg K H (.ref a) "dict"
def isI : V → Bool
  | .int _ => true | .bl _ => true | _ => false
def isB : V → Bool
  | .bl _ => true | _ => false
def isS : V → Bool
  | .str _ => true | _ => false
section
variable {K : PySem.W.Frag} {H : Hp} {x : V} {n : String}
theorem Arg.ty (h : Arg K H x n) : TyX K H x (.type n) := by
  cases h with
  | non => exact .base .non
  | bl b => exact .base (.bl b)
  | int i => exact .base (.int i)
  | str s => exact .base (.str s)
  | lst e => exact .base (.lst e)
  | tup e => exact .base (.tup e)
  | dK e => exact .base (.dK e)
theorem Arg.int? (h : Arg K H x n) : PySem.W.kitOne K (.type n) (.type "int") = some (isI x) := by
  cases h <;> first | exact kit_ty (r := true) (by decide +kernel) | exact kit_ty (r := false) (by decide +kernel)
theorem Arg.bool? (h : Arg K H x n) : PySem.W.kitOne K (.type n) (.type "bool") = some (isB x) := by
  cases h <;> first | exact kit_ty (r := true) (by decide +kernel) | exact kit_ty (r := false) (by decide +kernel)
theorem Arg.str? (h : Arg K H x n) : PySem.W.kitOne K (.type n) (.type "str") = some (isS x) := by
  cases h <;> first | exact kit_ty (r := true) (by decide +kernel) | exact kit_ty (r := false) (by decide +kernel)
end
/-- an integer from lo to hi, no bool -/
def wholeV (x : V) (lo hi : Int) : Bool := match x with
  | .int i => decide (lo ≤ i) && decide (i ≤ hi)
  | _ => false
def wordV (x : V) (ws : List Str) : Bool := match x with
  | .str s => decide (s ∈ ws)
  | _ => false
theorem inV_str (s : Str) (ws : List Str) : inV (.str s) (ws.map V.str) = decide (s ∈ ws) := by
  unfold inV
  induction ws with
  | nil => rfl
  | cons w r ih =>
    rw [List.map_cons, List.any_cons, ih]
    show ((w == s) || decide (s ∈ r)) = decide (s ∈ w :: r)
    by_cases e : w = s
    · subst e; simp
    · have e2 : (w == s) = false := beq_eq_false_iff_ne.mpr e
      have e3 : ¬ s = w := fun z => e z.symm
      rw [e2, Bool.false_or]
      simp [e3]
theorem all_flat_str (ws : List Str) : (ws.map V.str).all flatV = true := by
  induction ws with
  | nil => rfl
  | cons w r ih => rw [List.map_cons, List.all_cons, ih]; rfl
theorem atI_two {α : Type} {x y : α} {d : Int} (h0 : 0 ≤ d) (h1 : d < 2) : atI [x, y] d = some (if d = 0 then x else y) := by
  have h : d = 0 ∨ d = 1 := by omega
  rcases h with rfl | rfl <;> rfl
theorem atI_three {α : Type} {x y z : α} {d : Int} (h0 : 0 ≤ d) (h1 : d < 3) : atI [x, y, z] d = some (if d = 0 then x else if d = 1 then y else z) := by
  have h : d = 0 ∨ d = 1 ∨ d = 2 := by omega
  rcases h with rfl | rfl | rfl <;> rfl
def spWhole (K : PySem.W.Frag) : Sp := fun vs H Q _ => ∃ (x : V) (lo hi : Int) (n : String), vs = [x, .int lo, .int hi] ∧ Arg K H x n ∧ Q (.bl (wholeV x lo hi)) H
def spWord (K : PySem.W.Frag) : Sp := fun vs H Q _ => ∃ (x : V) (t : Addr) (ws : List Str) (n : String), vs = [x, .ref t] ∧ SqT K H t (ws.map V.str) ∧ Arg K H x n ∧ Q (.bl (wordV x ws)) H
def spIsInt (K : PySem.W.Frag) : Sp := fun vs H Q _ => ∃ (x : V) (n : String), vs = [x] ∧ Arg K H x n ∧ Q (.bl (isI x && !isB x)) H
/-- what a def hands back or raises, nothing written -/
def spRes (exc : String → Addr) (r : Except String V) (H : Hp) (Q : VK) (E : XK) : Prop := match r with
  | .ok v => Q v H
  | .error n => E (.ref (exc n)) none H
theorem ite_of {c : Prop} [Decidable c] {α : Type} {a b : α} (h : c) : (if c then a else b) = a := if_pos h
/-! ### tables: what its defs hand back or raise -/
def kindV (x : V) : Bool := wordV x ["rest", "ranges"]
def laneAt (k : V) (c m s : Int) : Int := if k = .str "rest" then m % c else m * c / s
def laneOf (k c m s : V) : Except String V :=
  if kindV k = false then .error "BadKind" else if wholeV c 1 (10 ^ 20) = false then .error "BadCount" else if wholeV m 0 (10 ^ 40) = false then .error "BadMark" else
  if wholeV s 1 (10 ^ 40) = false then .error "BadSize" else match c, m, s with
    | .int c, .int m, .int s => if s ≤ m then .error "BadMark" else .ok (.int (laneAt k c m s))
    | _, _, _ => .ok .non
def spChk (K : PySem.W.Frag) (exc : String → Addr) (good : V → Bool) (n : String) : Sp := fun vs H Q E => ∃ (x : V) (tn : String), vs = [x] ∧ Arg K H x tn ∧ spRes exc (if good x = false then .error n else .ok .non) H Q E
def spChkC (K : PySem.W.Frag) (exc : String → Addr) : Sp := fun vs H Q E => ∃ (x : V) (g : Int) (tn : String), vs = [x, .int g] ∧ (g = 10 ^ 20 ∨ g = 1000) ∧ Arg K H x tn ∧ spRes exc (if wholeV x 1 g = false then .error "BadCount" else .ok .non) H Q E
def spLaneAt : Sp := fun vs H Q _ => ∃ (k : Str) (c m s : Int), vs = [.str k, .int c, .int m, .int s] ∧ 1 ≤ c ∧ c ≤ 10 ^ 20 ∧ 0 ≤ m ∧ m < s ∧ s ≤ 10 ^ 40 ∧ Q (.int (laneAt (.str k) c m s)) H
def spLaneOf (K : PySem.W.Frag) (exc : String → Addr) : Sp := fun vs H Q E => ∃ (k c m s : V) (tk tc tm ts : String), vs = [k, c, m, s] ∧ Arg K H k tk ∧ Arg K H c tc ∧ Arg K H m tm ∧ Arg K H s ts ∧ spRes exc (laneOf k c m s) H Q E
theorem whole_int {x : V} {lo hi : Int} (h : wholeV x lo hi = true) : ∃ i, x = .int i ∧ lo ≤ i ∧ i ≤ hi := by
  cases x with
  | int i =>
    have h2 : (decide (lo ≤ i) && decide (i ≤ hi)) = true := h
    rw [Bool.and_eq_true] at h2
    exact ⟨i, rfl, of_decide_eq_true h2.1, of_decide_eq_true h2.2⟩
  | _ => exact nomatch h
theorem word_str {x : V} {ws : List Str} (h : wordV x ws = true) : ∃ s, x = .str s ∧ s ∈ ws := by
  cases x with
  | str s => exact ⟨s, rfl, of_decide_eq_true h⟩
  | _ => exact nomatch h
theorem whole_of {i lo hi : Int} (h : lo ≤ i) (h' : i ≤ hi) : wholeV (.int i) lo hi = true := by
  show (decide (lo ≤ i) && decide (i ≤ hi)) = true
  rw [decide_eq_true h, decide_eq_true h']; rfl
theorem fmt20 : (toString ((10 : Int) ^ 20) : Str).length = 21 := by decide +kernel
/-! ### lcm, and ranges of any ints -/
def rLcm : List V → Hp → VK → Prop := fun vs H Q => ∃ a b : Nat, vs = [.int (a : Int), .int (b : Int)] ∧ a < 10 ^ 40 ∧ b < 10 ^ 40 ∧ 0 < a ∧ Q (.int ((Nat.lcm a b : Nat) : Int)) H
theorem cr_lcm {X : Cx} : CallR X (.builtin "math.lcm") rLcm := by
  intro pins s σ H vs us Q I r h
  obtain ⟨a, b, rfl, ha, hb, h0, q⟩ := h
  obtain ⟨t, u, rfl⟩ := Vals.int2 r
  have la : (max 1 ((a : Int).natAbs)).log2 ≤ 199 := PySem.W.mg_log (Nat.lt_of_lt_of_le (by rw [Int.natAbs_natCast]; omega : max 1 ((a : Int).natAbs) < 10 ^ 40) (by decide))
  have lb : (max ((a : Int).natAbs) ((b : Int).natAbs)).log2 ≤ 199 := PySem.W.mg_log (Nat.lt_of_lt_of_le (by rw [Int.natAbs_natCast, Int.natAbs_natCast]; omega : max ((a : Int).natAbs) ((b : Int).natAbs) < 10 ^ 40) (by decide))
  have e : ((Nat.lcm 1 ((a : Int).natAbs)).lcm ((b : Int).natAbs) : Nat) = Nat.lcm a b := by rw [Int.natAbs_natCast, Int.natAbs_natCast, Nat.lcm_one_left]
  have ls : (((((Nat.lcm 1 ((a : Int).natAbs)).lcm ((b : Int).natAbs) : Nat)) : Int)).natAbs.log2 < bitsLine := by
    rw [e, Int.natAbs_natCast]
    have h1 : Nat.lcm a b ≤ a * b := by
      unfold Nat.lcm; exact Nat.div_le_self _ _
    have h2 : a * b ≤ 10 ^ 40 * 10 ^ 40 := Nat.mul_le_mul (Nat.le_of_lt ha) (Nat.le_of_lt hb)
    have h3 : (Nat.lcm a b).log2 ≤ 399 := PySem.W.mg_log (Nat.lt_of_le_of_lt (Nat.le_trans h1 h2) (by decide))
    exact Nat.lt_of_le_of_lt h3 (by decide)
  exact PySem.call_function_meets PySem.W.MGF.kind_lcm PySem.W.MGF.plain_lcm PySem.W.MGF.entry_lcm (PySem.W.MGF.args_lcm _ _) (PySem.W.mg_run_lcm _ t _ u (by omega) (by omega) ls).meets ⟨.int _, H, I.tok _, ⟨_, rfl⟩, (by rw [e]; exact q)⟩
theorem turn_long {P : Program} {w : World} {K : PySem.W.Frag} {tg : Expr} (c : Addr) (lo : Int) (n : Nat) : Turn P w K tg (Itr lo n) [c] c (fun i h => IsLongIter h c (lo + (i : Nat) * 1) ((n : Int) - (i : Nat)) 1) := by
  refine { mem := List.mem_singleton.mpr rfl, obj := ?o, keep := ?k, item := ?i, done := ?d, self := ?s }
  case o =>
    intro i h hc b hb
    cases List.mem_singleton.mp hb
    exact ⟨_, hc, fun v (z : Data.fields _ = Data.cell v) => nomatch z⟩
  case k => exact fun i h h' hc k => k c (List.mem_singleton.mpr rfl) _ hc
  case i =>
    rintro X rfl rfl rfl hh i pins s σ H E I hf hc hg
    have hq := hf c (List.mem_singleton.mpr rfl)
    obtain ⟨q0, q1, q2, q3, q4, q5⟩ := hq
    refine (Walks.longrange (prog := X.prog) (w := X.w) (I.ok.hd hh) c lo 1 n).item i s _ _ hg hc fun v h' tk hv hc' hk => ?_
    obtain ⟨t, rfl⟩ := hv
    have J : Inv X pins σ H { s with heap := h', toks := tk } := I.turned (fun b o hb e => hk b o (fun z => hb (List.mem_singleton.mp z)) e) q0 q1 q3 q4 q5
    exact ⟨_, rfl, go_of (s := { s with heap := h', toks := tk }) (n := "longrange_iterator") hc' rfl rfl (by decide) ⟨.int (lo + i), H, J, ⟨t, by rw [Int.mul_one]⟩, ⟨rfl, rfl⟩, hc', fun b hb => (hf b hb).1⟩⟩
  case d =>
    rintro X rfl rfl rfl hh i pins s σ H E I hf hc hg
    obtain ⟨q0, q1, q2, q3, q4, q5⟩ := hf c (List.mem_singleton.mpr rfl)
    have hni : n ≤ i := hg
    exact wpAny_pyNext_long_end (I.ok.hd hh) hc (by omega) fun h' k => ⟨rfl, I.turned (t' := s.toks) (fun b o hb e => k b o hb e) q0 q1 q3 q4 q5⟩
  case s => exact fun _ _ _ _ _ hc h => wpAny_pyIter_longiter hc h
theorem any_range {X : Cx} {tg : Expr} {pins : List (Addr × Obj)} {σ : L2.St} {H : Hp} {s : Shared} {R : It → Hp → Prop} {E : Value → Shared → Prop} {lo hi : Int} {t u v : Tok} {tk : Nat} (I : Inv X pins σ H s) (q : R (Itr lo (hi - lo).toNat) H) :
    wpAny (model X.prog X.w) X.A (pyIter (.ref s.heap.objs.size)) (PIE X pins σ tg R) E { s with heap := s.heap.push { cls := .type "range", data := .fields #[.int lo t, .int hi u, .int 1 v] }, toks := tk } := by
  have J : Inv X pins σ H { s with heap := s.heap.push { cls := .type "range", data := .fields #[.int lo t, .int hi u, .int 1 v] }, toks := tk } := I.kept fun b o e => Heap.get?_push_of_some _ e
  have ez : lo + ((0 : Nat) : Int) * 1 = lo := by omega
  have en : (((hi - lo).toNat : Nat) : Int) - ((0 : Nat) : Int) = Builtin.Range.rangeSize lo hi 1 := by
    rw [rangeSize_one]; split <;> omega
  cases hsm : Builtin.Range.small lo hi 1 with
  | true =>
    refine wpAny_pyIter_range (IsRange.new ..) hsm ?_
    refine ⟨_, [_], _, _, H, rfl, J.kept (t' := tk) fun b o e => Heap.get?_push_of_some _ e, turn_range _ lo (hi - lo).toNat, ?_, fun b hb => ?_, q⟩
    · show IsRangeIter _ _ (lo + ((0 : Nat) : Int) * 1) ((((hi - lo).toNat : Nat) : Int) - ((0 : Nat) : Int)) 1
      rw [ez, en]; exact Heap.get?_push_size _ rfl
    · cases List.mem_singleton.mp hb
      exact J.fpOk (Nat.le_refl _) (J.hok.fresh (Nat.le_refl _))
  | false =>
    refine wpAny_pyIter_longrange (IsRange.new ..) hsm ?_
    refine ⟨_, [_], _, _, H, rfl, J.kept (t' := tk) fun b o e => Heap.get?_push_of_some _ e, turn_long _ lo (hi - lo).toNat, ?_, fun b hb => ?_, q⟩
    · show IsLongIter _ _ (lo + ((0 : Nat) : Int) * 1) ((((hi - lo).toNat : Nat) : Int) - ((0 : Nat) : Int)) 1
      rw [ez, en]; exact Heap.get?_push_size _ rfl
    · cases List.mem_singleton.mp hb
      exact J.fpOk (Nat.le_refl _) (J.hok.fresh (Nat.le_refl _))
def iRngA (ta : TA) : TI := fun σ H R => ta σ H fun vs H1 => ∃ i j : Int, vs = [.int i, .int j] ∧ R (Itr i (j - i).toNat) H1
theorem pi_rangeA {X : Cx} {tg a b : Expr} {ta : TA} {p pos : Pos} (hg : Gl X "range") (hm : X.mg "range" = none) (ha : PA X [a, b] ta) (hs : starEach [a, b] X.env = [(false, eval a X.env), (false, eval b X.env)] := by rfl) (hs2 : starEach [b] X.env = [(false, eval b X.env)] := by rfl) :
    PI X tg (.Call (.Name "range" p) [a, b] [] pos) (iRngA ta) := by
  refine ⟨fun pins s σ H R I h => Call_ (ld_blt I hg hm boot_range (PyProof.Rows.callWith_type1 (thn (ha.run pos pins s σ H _ I h) fun us s1 hh => ?_) (by rw [hs, hs2]) (by rw [hs2]; rfl)))⟩
  obtain ⟨vs, H1, J, r1, i, j, e, q⟩ := hh
  subst e
  obtain ⟨t, t', rfl⟩ := Vals.int2 r1
  exact call_range_2 (any_range J q)
/-! ### marks that move -/
def lstart (l c s : Int) : Int := (l * s + c - 1) / c
def lcmI (a b : Int) : Int := ((Nat.lcm a.toNat b.toNat : Nat) : Int)
def keptRest (low high size : Int) : Int := size / lcmI low high * low + (if low < size % lcmI low high then low else size % lcmI low high)
def gapI (high low size : Int) (l : Int) : Int := if lstart (l + 1) high size - lstart l low size > 0 then lstart (l + 1) high size - lstart l low size else 0
def keptR (high low size : Int) : Nat → Int
  | 0 => 0
  | n + 1 => keptR high low size n + gapI high low size (n : Int)
inductive FirstR (low high size : Int) : V → Prop where
  | at (l : Int) (h1 : 1 ≤ l) (h2 : l ≤ low) (h3 : lstart l high size < lstart l low size) (h4 : ∀ j, 1 ≤ j → j < l → lstart j low size ≤ lstart j high size) : FirstR low high size (.int (lstart l high size))
  | no (h : ∀ j, 1 ≤ j → j ≤ low → lstart j low size ≤ lstart j high size) : FirstR low high size .non
def lowI (b a : Int) : Int := if a < b then a else b
def highI (b a : Int) : Int := if a > b then a else b
def countM (k : Str) (b a s : Int) : Int := if V.str k = .str "rest" then s - keptRest (lowI b a) (highI b a) s else s - keptR (highI b a) (lowI b a) s (lowI b a).toNat
def FirstM (k : Str) (b a s : Int) (r : V) : Prop := if V.str k = .str "ranges" then FirstR (lowI b a) (highI b a) s r else
  r = (if lowI b a < (if s < highI b a then s else highI b a) then .int (lowI b a) else .non)
def mostOf (k : V) : Int := if k = .str "rest" then 10 ^ 20 else 1000
def chkM (k b a s : V) : Option String :=
  if kindV k = false then some "BadKind" else if wholeV b 1 (mostOf k) = false then some "BadCount" else if wholeV a 1 (mostOf k) = false then some "BadCount" else if wholeV s 1 (10 ^ 40) = false then some "BadSize" else none
structure Mvd (ks : Str) (b a s : Int) : Prop where
  k : kindV (.str ks) = true
  b1 : 1 ≤ b
  b2 : b ≤ mostOf (.str ks)
  a1 : 1 ≤ a
  a2 : a ≤ mostOf (.str ks)
  s1 : 1 ≤ s
  s2 : s ≤ 10 ^ 40
theorem chkM_none {k b a s : V} (h : chkM k b a s = none) : ∃ ks bi ai si, k = .str ks ∧ b = .int bi ∧ a = .int ai ∧ s = .int si ∧ Mvd ks bi ai si := by
  unfold chkM at h
  cases e1 : kindV k with
  | false => rw [if_pos e1] at h; cases h
  | true =>
  rw [if_neg (by rw [e1]; decide)] at h
  cases e2 : wholeV b 1 (mostOf k) with
  | false => rw [if_pos e2] at h; cases h
  | true =>
  rw [if_neg (by rw [e2]; decide)] at h
  cases e3 : wholeV a 1 (mostOf k) with
  | false => rw [if_pos e3] at h; cases h
  | true =>
  rw [if_neg (by rw [e3]; decide)] at h
  cases e4 : wholeV s 1 (10 ^ 40) with
  | false => rw [if_pos e4] at h; cases h
  | true =>
  obtain ⟨bi, rfl, b1, b2⟩ := whole_int e2
  obtain ⟨ai, rfl, a1, a2⟩ := whole_int e3
  obtain ⟨si, rfl, s1, s2⟩ := whole_int e4
  obtain ⟨ks, rfl, _⟩ := word_str e1
  exact ⟨ks, bi, ai, si, rfl, rfl, rfl, rfl, e1, b1, b2, a1, a2, s1, s2⟩
theorem chkM_ok {ks : Str} {b a s : Int} (h : Mvd ks b a s) : chkM (.str ks) (.int b) (.int a) (.int s) = none := by
  unfold chkM
  rw [if_neg (by rw [h.k]; decide), if_neg (by rw [whole_of h.b1 h.b2]; decide), if_neg (by rw [whole_of h.a1 h.a2]; decide), if_neg (by rw [whole_of h.s1 h.s2]; decide)]
/-- one who asks: the error, or what comes of good ones -/
def spAskM (K : PySem.W.Frag) (exc : String → Addr) (G : Str → Int → Int → Int → V → Prop) : Sp := fun vs H Q E => ∃ (k b a s : V) (tk tb ta ts : String), vs = [k, b, a, s] ∧ Arg K H k tk ∧ Arg K H b tb ∧ Arg K H a ta ∧ Arg K H s ts ∧
  (∀ n, chkM k b a s = some n → E (.ref (exc n)) none H) ∧ (∀ ks bi ai si, k = .str ks → b = .int bi → a = .int ai → s = .int si → Mvd ks bi ai si → ∀ r, G ks bi ai si r → Q r H)
def spLstart : Sp := fun vs H Q _ => ∃ l c s : Int, vs = [.int l, .int c, .int s] ∧ 0 ≤ l ∧ l ≤ 2000 ∧ 1 ≤ c ∧ c ≤ 1000 ∧ 1 ≤ s ∧ s ≤ 10 ^ 40 ∧ Q (.int (lstart l c s)) H
def spKeptRest : Sp := fun vs H Q _ => ∃ l h s : Int, vs = [.int l, .int h, .int s] ∧ 1 ≤ l ∧ l ≤ 10 ^ 20 ∧ 1 ≤ h ∧ h ≤ 10 ^ 20 ∧ 1 ≤ s ∧ s ≤ 10 ^ 40 ∧ Q (.int (keptRest l h s)) H
def spKeptRanges : Sp := fun vs H Q _ => ∃ l h s : Int, vs = [.int l, .int h, .int s] ∧ 1 ≤ l ∧ l ≤ 1000 ∧ 1 ≤ h ∧ h ≤ 1000 ∧ 1 ≤ s ∧ s ≤ 10 ^ 40 ∧ Q (.int (keptR h l s l.toNat)) H
def spFirstRanges : Sp := fun vs H Q _ => ∃ l h s : Int, vs = [.int l, .int h, .int s] ∧ 1 ≤ l ∧ l ≤ 1000 ∧ 1 ≤ h ∧ h ≤ 1000 ∧ 1 ≤ s ∧ s ≤ 10 ^ 40 ∧ ∀ r, FirstR l h s r → Q r H
theorem lcmI_pos {a b : Int} (ha : 1 ≤ a) (hb : 1 ≤ b) : 1 ≤ lcmI a b := by
  unfold lcmI
  have : 0 < Nat.lcm a.toNat b.toNat := Nat.lcm_pos (by omega) (by omega)
  omega
theorem lcmI_le {a b : Int} (ha : 1 ≤ a) (hb : 1 ≤ b) (ha2 : a ≤ 10 ^ 20) (hb2 : b ≤ 10 ^ 20) : lcmI a b ≤ 10 ^ 40 := by
  unfold lcmI
  have h1 : Nat.lcm a.toNat b.toNat ≤ a.toNat * b.toNat := by
    unfold Nat.lcm; exact Nat.div_le_self _ _
  have h2 : a.toNat * b.toNat ≤ 10 ^ 20 * 10 ^ 20 := Nat.mul_le_mul (by omega) (by omega)
  have h3 : (10 : Nat) ^ 20 * 10 ^ 20 = 10 ^ 40 := by decide
  omega
theorem most_cases {ks : Str} (h : kindV (.str ks) = true) : (V.str ks = .str "rest" ∧ mostOf (.str ks) = 10 ^ 20) ∨ (V.str ks = .str "ranges" ∧ ¬ V.str ks = .str "rest" ∧ mostOf (.str ks) = 1000) := by
  obtain ⟨s, e, hs⟩ := word_str h
  cases e
  rcases List.mem_cons.mp hs with rfl | hs
  · exact .inl ⟨rfl, rfl⟩
  · rcases List.mem_cons.mp hs with rfl | hs
    · exact .inr ⟨rfl, by decide, rfl⟩
    · exact nomatch hs
/-! ### errors caught -/
theorem exm_pair {K : PySem.W.Frag} {A B : Addr} {b : Bool} (p : PySem.W.subIn K (.ref B) (.type "BaseException") = some true) (i : PySem.W.isClsIn K B = true) (t : PySem.W.typeIn K (.ref B) = some (.type "type")) (q : PySem.W.subIn K (.ref A) (.ref B) = some b) :
    PySem.W.exmOne K (.ref A) (.ref B) = some b := by
  have i' : (PySem.W.clsIn K B).isSome = true := i
  unfold PySem.W.exmOne PySem.W.kitCls
  rw [p]
  dsimp only
  rw [i', t]
  exact q
theorem kit_ve {K : PySem.W.Frag} {A : Addr} {b : Bool} (q : PySem.W.subIn K (.ref A) (.type "ValueError") = some b) : PySem.W.kitOne K (.ref A) (.type "ValueError") = some b := by
  have m : PySem.W.kitMeta "ValueError" = true := by decide +kernel
  unfold PySem.W.kitOne PySem.W.kitCls
  dsimp only
  rw [m]
  exact q
/-- isinstance of the error that a suite holds -/
def rIsG (K : PySem.W.Frag) (a : Addr) (cls : Value) (d : Option Addr) : List V → Hp → VK → Prop := fun xs H Q => ∃ D, cls = .ref D ∧ d = none ∧ ExcC K D ∧ rIsE K D a xs H Q
theorem call_isG {X : Cx} {a : Addr} {oe : Obj} {cls : Value} {d : Option Addr} {pn : List (Addr × Obj)} (hz : Zc cls d oe) (hf : ∃ vs, oe.data = .fields vs) : CallR (X.suite a ((a, oe) :: pn)) (.builtin "isinstance") (rIsG X.K a cls d) := by
  intro pins s σ H xs us Q I r h
  obtain ⟨D, rfl, rfl, C, h⟩ := h
  exact call_isE C hz hf pins s σ H xs us Q I r h
end Lc
namespace K04
open PySem PySem.Spec PyProof.Rows L2 Lc
def topS (i : Nat) : Stmt := PySem.Challenge.pw_lanescounted_k04_errors_apart.main.body.getD i (.Pass ⟨0, 0, 0, 0⟩)
abbrev s_law_source : Stmt := topS 25
theorem sc_law_source : FnScope ["_law_script"] ["_law_script"] (defScope s_law_source) := ⟨rfl, rfl, rfl, by decide +kernel, rfl, by decide +kernel, by decide +kernel⟩
abbrev s_law_draw : Stmt := topS 26
theorem sc_law_draw : FnScope ["_law_source_here", "_law_limit", "_law_cell", "_law_digit", "_law_mixed"] ["_law_source_here", "_law_limit"] (defScope s_law_draw) := ⟨rfl, rfl, rfl, by decide +kernel, rfl, by decide +kernel, by decide +kernel⟩
abbrev s_law_first : Stmt := topS 27
theorem sc_law_first : FnScope ["_law_which", "_law_text"] ["_law_which", "_law_text"] (defScope s_law_first) := ⟨rfl, rfl, rfl, by decide +kernel, rfl, by decide +kernel, by decide +kernel⟩
abbrev s_law_second : Stmt := topS 28
theorem sc_law_second : FnScope ["_law_which", "_law_text", "_law_number"] ["_law_which", "_law_text", "_law_number"] (defScope s_law_second) := ⟨rfl, rfl, rfl, by decide +kernel, rfl, by decide +kernel, by decide +kernel⟩
abbrev s_law_hits : Stmt := topS 29
theorem sc_law_hits : FnScope ["_law_made", "_law_hits_here"] ["_law_made"] (defScope s_law_hits) := ⟨rfl, rfl, rfl, by decide +kernel, rfl, by decide +kernel, by decide +kernel⟩
abbrev s_law : Stmt := topS 30
theorem sc_law : FnScope ["_law_script", "_law_source_here", "_law_which", "_law_number", "_law_k", "_law_text", "_law_made", "_law_step", "_law_row", "_law_other"] ["_law_script"] (defScope s_law) := ⟨rfl, rfl, rfl, by decide +kernel, rfl, by decide +kernel, by decide +kernel⟩
def subS (s : Stmt) (i : Nat) : Stmt := match s with
  | .ClassDef _ _ _ b _ _ _ _ _ _ _ => b.getD i (.Pass ⟨0, 0, 0, 0⟩)
  | _ => .Pass ⟨0, 0, 0, 0⟩
abbrev s_init_BadStep : Stmt := subS (topS 9) 0
theorem sc_init_BadStep : FnScope ["self", "place"] ["self", "place"] (defScope s_init_BadStep) := ⟨rfl, rfl, rfl, by decide +kernel, rfl, by decide +kernel, by decide +kernel⟩
abbrev s_init_BadText : Stmt := subS (topS 22) 0
theorem sc_init_BadText : FnScope ["self", "line"] ["self", "line"] (defScope s_init_BadText) := ⟨rfl, rfl, rfl, by decide +kernel, rfl, by decide +kernel, by decide +kernel⟩
structure Txt (K : PySem.W.Frag) (mg : Str → Option Value) where
  a_law_source : Addr
  d_law_source : FuncData
  F_law_source : Fun K "_law_source" "_law_source" s_law_source a_law_source d_law_source
  g_law_source : mg "_law_source" = some (.ref a_law_source)
  b_law_source : Binds K d_law_source ["_law_script"] []
  a_law_draw : Addr
  d_law_draw : FuncData
  F_law_draw : Fun K "_law_draw" "_law_draw" s_law_draw a_law_draw d_law_draw
  g_law_draw : mg "_law_draw" = some (.ref a_law_draw)
  b_law_draw : Binds K d_law_draw ["_law_source_here", "_law_limit"] []
  a_law_first : Addr
  d_law_first : FuncData
  F_law_first : Fun K "_law_first" "_law_first" s_law_first a_law_first d_law_first
  g_law_first : mg "_law_first" = some (.ref a_law_first)
  b_law_first : Binds K d_law_first ["_law_which", "_law_text"] []
  a_law_second : Addr
  d_law_second : FuncData
  F_law_second : Fun K "_law_second" "_law_second" s_law_second a_law_second d_law_second
  g_law_second : mg "_law_second" = some (.ref a_law_second)
  b_law_second : Binds K d_law_second ["_law_which", "_law_text", "_law_number"] []
  a_law_hits : Addr
  d_law_hits : FuncData
  F_law_hits : Fun K "_law_hits" "_law_hits" s_law_hits a_law_hits d_law_hits
  g_law_hits : mg "_law_hits" = some (.ref a_law_hits)
  b_law_hits : Binds K d_law_hits ["_law_made"] []
  a_law : Addr
  d_law : FuncData
  F_law : Fun K "law" "law" s_law a_law d_law
  g_law : mg "law" = some (.ref a_law)
  b_law : Binds K d_law ["_law_script"] []
  z_ValueError : mg "ValueError" = none
  z_int : mg "int" = none
  z_isinstance : mg "isinstance" = none
  z_list : mg "list" = none
  z_range : mg "range" = none
  C_LaneError : Addr
  g_LaneError : mg "LaneError" = some (.ref C_LaneError)
  x_LaneError : PySem.W.excIn K C_LaneError [.type "ValueError", .type "Exception", .type "BaseException", .type "object"] "ValueError.__new__" = true
  k_LaneError : PySem.W.keepIn K (.ref C_LaneError) = true
  p_LaneError : PySem.W.subIn K (.ref C_LaneError) (.type "BaseException") = some true
  t_LaneError : PySem.W.typeIn K (.ref C_LaneError) = some (.type "type")
  i_LaneError : PySem.W.isClsIn K C_LaneError = true
  C_BadKind : Addr
  g_BadKind : mg "BadKind" = some (.ref C_BadKind)
  x_BadKind : PySem.W.excIn K C_BadKind [.type "ValueError", .type "Exception", .type "BaseException", .type "object"] "ValueError.__new__" = true
  k_BadKind : PySem.W.keepIn K (.ref C_BadKind) = true
  p_BadKind : PySem.W.subIn K (.ref C_BadKind) (.type "BaseException") = some true
  t_BadKind : PySem.W.typeIn K (.ref C_BadKind) = some (.type "type")
  i_BadKind : PySem.W.isClsIn K C_BadKind = true
  C_BadCount : Addr
  g_BadCount : mg "BadCount" = some (.ref C_BadCount)
  x_BadCount : PySem.W.excIn K C_BadCount [.type "ValueError", .type "Exception", .type "BaseException", .type "object"] "ValueError.__new__" = true
  k_BadCount : PySem.W.keepIn K (.ref C_BadCount) = true
  p_BadCount : PySem.W.subIn K (.ref C_BadCount) (.type "BaseException") = some true
  t_BadCount : PySem.W.typeIn K (.ref C_BadCount) = some (.type "type")
  i_BadCount : PySem.W.isClsIn K C_BadCount = true
  C_BadMark : Addr
  g_BadMark : mg "BadMark" = some (.ref C_BadMark)
  x_BadMark : PySem.W.excIn K C_BadMark [.type "ValueError", .type "Exception", .type "BaseException", .type "object"] "ValueError.__new__" = true
  k_BadMark : PySem.W.keepIn K (.ref C_BadMark) = true
  p_BadMark : PySem.W.subIn K (.ref C_BadMark) (.type "BaseException") = some true
  t_BadMark : PySem.W.typeIn K (.ref C_BadMark) = some (.type "type")
  i_BadMark : PySem.W.isClsIn K C_BadMark = true
  C_BadSize : Addr
  g_BadSize : mg "BadSize" = some (.ref C_BadSize)
  x_BadSize : PySem.W.excIn K C_BadSize [.type "ValueError", .type "Exception", .type "BaseException", .type "object"] "ValueError.__new__" = true
  k_BadSize : PySem.W.keepIn K (.ref C_BadSize) = true
  p_BadSize : PySem.W.subIn K (.ref C_BadSize) (.type "BaseException") = some true
  t_BadSize : PySem.W.typeIn K (.ref C_BadSize) = some (.type "type")
  i_BadSize : PySem.W.isClsIn K C_BadSize = true
  C_BadCounts : Addr
  g_BadCounts : mg "BadCounts" = some (.ref C_BadCounts)
  x_BadCounts : PySem.W.excIn K C_BadCounts [.type "ValueError", .type "Exception", .type "BaseException", .type "object"] "ValueError.__new__" = true
  k_BadCounts : PySem.W.keepIn K (.ref C_BadCounts) = true
  p_BadCounts : PySem.W.subIn K (.ref C_BadCounts) (.type "BaseException") = some true
  t_BadCounts : PySem.W.typeIn K (.ref C_BadCounts) = some (.type "type")
  i_BadCounts : PySem.W.isClsIn K C_BadCounts = true
  C_BadHouse : Addr
  g_BadHouse : mg "BadHouse" = some (.ref C_BadHouse)
  x_BadHouse : PySem.W.excIn K C_BadHouse [.type "ValueError", .type "Exception", .type "BaseException", .type "object"] "ValueError.__new__" = true
  k_BadHouse : PySem.W.keepIn K (.ref C_BadHouse) = true
  p_BadHouse : PySem.W.subIn K (.ref C_BadHouse) (.type "BaseException") = some true
  t_BadHouse : PySem.W.typeIn K (.ref C_BadHouse) = some (.type "type")
  i_BadHouse : PySem.W.isClsIn K C_BadHouse = true
  C_BadCase : Addr
  g_BadCase : mg "BadCase" = some (.ref C_BadCase)
  x_BadCase : PySem.W.excIn K C_BadCase [.type "ValueError", .type "Exception", .type "BaseException", .type "object"] "ValueError.__new__" = true
  k_BadCase : PySem.W.keepIn K (.ref C_BadCase) = true
  p_BadCase : PySem.W.subIn K (.ref C_BadCase) (.type "BaseException") = some true
  t_BadCase : PySem.W.typeIn K (.ref C_BadCase) = some (.type "type")
  i_BadCase : PySem.W.isClsIn K C_BadCase = true
  C_BadStep : Addr
  g_BadStep : mg "BadStep" = some (.ref C_BadStep)
  k_BadStep : PySem.W.keepIn K (.ref C_BadStep) = true
  p_BadStep : PySem.W.subIn K (.ref C_BadStep) (.type "BaseException") = some true
  t_BadStep : PySem.W.typeIn K (.ref C_BadStep) = some (.type "type")
  i_BadStep : PySem.W.isClsIn K C_BadStep = true
  C_BadQuestion : Addr
  g_BadQuestion : mg "BadQuestion" = some (.ref C_BadQuestion)
  x_BadQuestion : PySem.W.excIn K C_BadQuestion [.type "ValueError", .type "Exception", .type "BaseException", .type "object"] "ValueError.__new__" = true
  k_BadQuestion : PySem.W.keepIn K (.ref C_BadQuestion) = true
  p_BadQuestion : PySem.W.subIn K (.ref C_BadQuestion) (.type "BaseException") = some true
  t_BadQuestion : PySem.W.typeIn K (.ref C_BadQuestion) = some (.type "type")
  i_BadQuestion : PySem.W.isClsIn K C_BadQuestion = true
  C_BadKey : Addr
  g_BadKey : mg "BadKey" = some (.ref C_BadKey)
  x_BadKey : PySem.W.excIn K C_BadKey [.type "ValueError", .type "Exception", .type "BaseException", .type "object"] "ValueError.__new__" = true
  k_BadKey : PySem.W.keepIn K (.ref C_BadKey) = true
  p_BadKey : PySem.W.subIn K (.ref C_BadKey) (.type "BaseException") = some true
  t_BadKey : PySem.W.typeIn K (.ref C_BadKey) = some (.type "type")
  i_BadKey : PySem.W.isClsIn K C_BadKey = true
  C_BadPair : Addr
  g_BadPair : mg "BadPair" = some (.ref C_BadPair)
  x_BadPair : PySem.W.excIn K C_BadPair [.type "ValueError", .type "Exception", .type "BaseException", .type "object"] "ValueError.__new__" = true
  k_BadPair : PySem.W.keepIn K (.ref C_BadPair) = true
  p_BadPair : PySem.W.subIn K (.ref C_BadPair) (.type "BaseException") = some true
  t_BadPair : PySem.W.typeIn K (.ref C_BadPair) = some (.type "type")
  i_BadPair : PySem.W.isClsIn K C_BadPair = true
  C_BadRenaming : Addr
  g_BadRenaming : mg "BadRenaming" = some (.ref C_BadRenaming)
  x_BadRenaming : PySem.W.excIn K C_BadRenaming [.type "ValueError", .type "Exception", .type "BaseException", .type "object"] "ValueError.__new__" = true
  k_BadRenaming : PySem.W.keepIn K (.ref C_BadRenaming) = true
  p_BadRenaming : PySem.W.subIn K (.ref C_BadRenaming) (.type "BaseException") = some true
  t_BadRenaming : PySem.W.typeIn K (.ref C_BadRenaming) = some (.type "type")
  i_BadRenaming : PySem.W.isClsIn K C_BadRenaming = true
  C_BadSpot : Addr
  g_BadSpot : mg "BadSpot" = some (.ref C_BadSpot)
  x_BadSpot : PySem.W.excIn K C_BadSpot [.type "ValueError", .type "Exception", .type "BaseException", .type "object"] "ValueError.__new__" = true
  k_BadSpot : PySem.W.keepIn K (.ref C_BadSpot) = true
  p_BadSpot : PySem.W.subIn K (.ref C_BadSpot) (.type "BaseException") = some true
  t_BadSpot : PySem.W.typeIn K (.ref C_BadSpot) = some (.type "type")
  i_BadSpot : PySem.W.isClsIn K C_BadSpot = true
  C_TooMany : Addr
  g_TooMany : mg "TooMany" = some (.ref C_TooMany)
  x_TooMany : PySem.W.excIn K C_TooMany [.type "ValueError", .type "Exception", .type "BaseException", .type "object"] "ValueError.__new__" = true
  k_TooMany : PySem.W.keepIn K (.ref C_TooMany) = true
  p_TooMany : PySem.W.subIn K (.ref C_TooMany) (.type "BaseException") = some true
  t_TooMany : PySem.W.typeIn K (.ref C_TooMany) = some (.type "type")
  i_TooMany : PySem.W.isClsIn K C_TooMany = true
  C_NotEnough : Addr
  g_NotEnough : mg "NotEnough" = some (.ref C_NotEnough)
  x_NotEnough : PySem.W.excIn K C_NotEnough [.type "ValueError", .type "Exception", .type "BaseException", .type "object"] "ValueError.__new__" = true
  k_NotEnough : PySem.W.keepIn K (.ref C_NotEnough) = true
  p_NotEnough : PySem.W.subIn K (.ref C_NotEnough) (.type "BaseException") = some true
  t_NotEnough : PySem.W.typeIn K (.ref C_NotEnough) = some (.type "type")
  i_NotEnough : PySem.W.isClsIn K C_NotEnough = true
  C_BadScheme : Addr
  g_BadScheme : mg "BadScheme" = some (.ref C_BadScheme)
  x_BadScheme : PySem.W.excIn K C_BadScheme [.type "ValueError", .type "Exception", .type "BaseException", .type "object"] "ValueError.__new__" = true
  k_BadScheme : PySem.W.keepIn K (.ref C_BadScheme) = true
  p_BadScheme : PySem.W.subIn K (.ref C_BadScheme) (.type "BaseException") = some true
  t_BadScheme : PySem.W.typeIn K (.ref C_BadScheme) = some (.type "type")
  i_BadScheme : PySem.W.isClsIn K C_BadScheme = true
  C_NotWithin : Addr
  g_NotWithin : mg "NotWithin" = some (.ref C_NotWithin)
  x_NotWithin : PySem.W.excIn K C_NotWithin [.type "ValueError", .type "Exception", .type "BaseException", .type "object"] "ValueError.__new__" = true
  k_NotWithin : PySem.W.keepIn K (.ref C_NotWithin) = true
  p_NotWithin : PySem.W.subIn K (.ref C_NotWithin) (.type "BaseException") = some true
  t_NotWithin : PySem.W.typeIn K (.ref C_NotWithin) = some (.type "type")
  i_NotWithin : PySem.W.isClsIn K C_NotWithin = true
  C_BadLog : Addr
  g_BadLog : mg "BadLog" = some (.ref C_BadLog)
  x_BadLog : PySem.W.excIn K C_BadLog [.type "ValueError", .type "Exception", .type "BaseException", .type "object"] "ValueError.__new__" = true
  k_BadLog : PySem.W.keepIn K (.ref C_BadLog) = true
  p_BadLog : PySem.W.subIn K (.ref C_BadLog) (.type "BaseException") = some true
  t_BadLog : PySem.W.typeIn K (.ref C_BadLog) = some (.type "type")
  i_BadLog : PySem.W.isClsIn K C_BadLog = true
  C_BadLane : Addr
  g_BadLane : mg "BadLane" = some (.ref C_BadLane)
  x_BadLane : PySem.W.excIn K C_BadLane [.type "ValueError", .type "Exception", .type "BaseException", .type "object"] "ValueError.__new__" = true
  k_BadLane : PySem.W.keepIn K (.ref C_BadLane) = true
  p_BadLane : PySem.W.subIn K (.ref C_BadLane) (.type "BaseException") = some true
  t_BadLane : PySem.W.typeIn K (.ref C_BadLane) = some (.type "type")
  i_BadLane : PySem.W.isClsIn K C_BadLane = true
  C_NothingToUndo : Addr
  g_NothingToUndo : mg "NothingToUndo" = some (.ref C_NothingToUndo)
  x_NothingToUndo : PySem.W.excIn K C_NothingToUndo [.type "ValueError", .type "Exception", .type "BaseException", .type "object"] "ValueError.__new__" = true
  k_NothingToUndo : PySem.W.keepIn K (.ref C_NothingToUndo) = true
  p_NothingToUndo : PySem.W.subIn K (.ref C_NothingToUndo) (.type "BaseException") = some true
  t_NothingToUndo : PySem.W.typeIn K (.ref C_NothingToUndo) = some (.type "type")
  i_NothingToUndo : PySem.W.isClsIn K C_NothingToUndo = true
  C_BadText : Addr
  g_BadText : mg "BadText" = some (.ref C_BadText)
  k_BadText : PySem.W.keepIn K (.ref C_BadText) = true
  p_BadText : PySem.W.subIn K (.ref C_BadText) (.type "BaseException") = some true
  t_BadText : PySem.W.typeIn K (.ref C_BadText) = some (.type "type")
  i_BadText : PySem.W.isClsIn K C_BadText = true
  C_BadCommand : Addr
  g_BadCommand : mg "BadCommand" = some (.ref C_BadCommand)
  x_BadCommand : PySem.W.excIn K C_BadCommand [.type "ValueError", .type "Exception", .type "BaseException", .type "object"] "ValueError.__new__" = true
  k_BadCommand : PySem.W.keepIn K (.ref C_BadCommand) = true
  p_BadCommand : PySem.W.subIn K (.ref C_BadCommand) (.type "BaseException") = some true
  t_BadCommand : PySem.W.typeIn K (.ref C_BadCommand) = some (.type "type")
  i_BadCommand : PySem.W.isClsIn K C_BadCommand = true
  a_init_BadStep : Addr
  d_init_BadStep : FuncData
  F_init_BadStep : Fun K "__init__" "BadStep.__init__" s_init_BadStep a_init_BadStep d_init_BadStep
  bb_init_BadStep : ∀ (s : Shared) (us : List Value), us.length = 2 → BindsTo s d_init_BadStep ⟨us, []⟩ ((["self", "place"] : List Str).zip us)
  kb_init_BadStep : ∀ (s : Shared) (a : Addr) (ws : List Value), ws.length = 1 → BindsTo s d_init_BadStep ⟨[.ref a], ([("place" : Str)]).zip ws⟩ ((["self", "place"] : List Str).zip (.ref a :: ws))
  ox_BadStep : OexC K C_BadStep
  ic_BadStep : PySem.W.findIn K (.ref C_BadStep) "__init__" = some (some (.ref a_init_BadStep))
  ti_BadStep : PySem.W.typeIn K (.ref a_init_BadStep) = some (.type "function")
  xf_BadStep : L2.XfC K C_BadStep
  no_BadStep : PySem.W.findIn K (.ref C_BadStep) "place" = some none
  a_init_BadText : Addr
  d_init_BadText : FuncData
  F_init_BadText : Fun K "__init__" "BadText.__init__" s_init_BadText a_init_BadText d_init_BadText
  bb_init_BadText : ∀ (s : Shared) (us : List Value), us.length = 2 → BindsTo s d_init_BadText ⟨us, []⟩ ((["self", "line"] : List Str).zip us)
  kb_init_BadText : ∀ (s : Shared) (a : Addr) (ws : List Value), ws.length = 1 → BindsTo s d_init_BadText ⟨[.ref a], ([("line" : Str)]).zip ws⟩ ((["self", "line"] : List Str).zip (.ref a :: ws))
  ox_BadText : OexC K C_BadText
  ic_BadText : PySem.W.findIn K (.ref C_BadText) "__init__" = some (some (.ref a_init_BadText))
  ti_BadText : PySem.W.typeIn K (.ref a_init_BadText) = some (.type "function")
  xf_BadText : L2.XfC K C_BadText
  no_BadText : PySem.W.findIn K (.ref C_BadText) "line" = some none
  m_BadKind : Ecl K C_BadKind [.ref C_BadKind, .ref C_LaneError, .type "ValueError", .type "Exception", .type "BaseException", .type "object"]
  m_BadCount : Ecl K C_BadCount [.ref C_BadCount, .ref C_LaneError, .type "ValueError", .type "Exception", .type "BaseException", .type "object"]
  m_BadMark : Ecl K C_BadMark [.ref C_BadMark, .ref C_LaneError, .type "ValueError", .type "Exception", .type "BaseException", .type "object"]
  m_BadSize : Ecl K C_BadSize [.ref C_BadSize, .ref C_LaneError, .type "ValueError", .type "Exception", .type "BaseException", .type "object"]
  m_BadCounts : Ecl K C_BadCounts [.ref C_BadCounts, .ref C_LaneError, .type "ValueError", .type "Exception", .type "BaseException", .type "object"]
  m_BadHouse : Ecl K C_BadHouse [.ref C_BadHouse, .ref C_LaneError, .type "ValueError", .type "Exception", .type "BaseException", .type "object"]
  m_BadCase : Ecl K C_BadCase [.ref C_BadCase, .ref C_LaneError, .type "ValueError", .type "Exception", .type "BaseException", .type "object"]
  m_BadQuestion : Ecl K C_BadQuestion [.ref C_BadQuestion, .ref C_LaneError, .type "ValueError", .type "Exception", .type "BaseException", .type "object"]
  m_BadKey : Ecl K C_BadKey [.ref C_BadKey, .ref C_LaneError, .type "ValueError", .type "Exception", .type "BaseException", .type "object"]
  m_BadPair : Ecl K C_BadPair [.ref C_BadPair, .ref C_LaneError, .type "ValueError", .type "Exception", .type "BaseException", .type "object"]
  m_BadRenaming : Ecl K C_BadRenaming [.ref C_BadRenaming, .ref C_LaneError, .type "ValueError", .type "Exception", .type "BaseException", .type "object"]
  m_BadSpot : Ecl K C_BadSpot [.ref C_BadSpot, .ref C_LaneError, .type "ValueError", .type "Exception", .type "BaseException", .type "object"]
  m_TooMany : Ecl K C_TooMany [.ref C_TooMany, .ref C_LaneError, .type "ValueError", .type "Exception", .type "BaseException", .type "object"]
  m_NotEnough : Ecl K C_NotEnough [.ref C_NotEnough, .ref C_LaneError, .type "ValueError", .type "Exception", .type "BaseException", .type "object"]
  m_BadScheme : Ecl K C_BadScheme [.ref C_BadScheme, .ref C_LaneError, .type "ValueError", .type "Exception", .type "BaseException", .type "object"]
  m_NotWithin : Ecl K C_NotWithin [.ref C_NotWithin, .ref C_LaneError, .type "ValueError", .type "Exception", .type "BaseException", .type "object"]
  m_BadLog : Ecl K C_BadLog [.ref C_BadLog, .ref C_LaneError, .type "ValueError", .type "Exception", .type "BaseException", .type "object"]
  m_BadLane : Ecl K C_BadLane [.ref C_BadLane, .ref C_LaneError, .type "ValueError", .type "Exception", .type "BaseException", .type "object"]
  m_NothingToUndo : Ecl K C_NothingToUndo [.ref C_NothingToUndo, .ref C_LaneError, .type "ValueError", .type "Exception", .type "BaseException", .type "object"]
  m_BadCommand : Ecl K C_BadCommand [.ref C_BadCommand, .ref C_LaneError, .type "ValueError", .type "Exception", .type "BaseException", .type "object"]
  m_BadStep : Ecl K C_BadStep [.ref C_BadStep, .ref C_LaneError, .type "ValueError", .type "Exception", .type "BaseException", .type "object"]
  m_BadText : Ecl K C_BadText [.ref C_BadText, .ref C_LaneError, .type "ValueError", .type "Exception", .type "BaseException", .type "object"]
  nd : [C_BadKind, C_BadCount, C_BadMark, C_BadSize, C_BadCounts, C_BadHouse, C_BadCase, C_BadQuestion, C_BadKey, C_BadPair, C_BadRenaming, C_BadSpot, C_TooMany, C_NotEnough, C_BadScheme, C_NotWithin, C_BadLog, C_BadLane, C_NothingToUndo, C_BadCommand, C_BadStep, C_BadText].Nodup
  nr : C_LaneError ∉ [C_BadKind, C_BadCount, C_BadMark, C_BadSize, C_BadCounts, C_BadHouse, C_BadCase, C_BadQuestion, C_BadKey, C_BadPair, C_BadRenaming, C_BadSpot, C_TooMany, C_NotEnough, C_BadScheme, C_NotWithin, C_BadLog, C_BadLane, C_NothingToUndo, C_BadCommand, C_BadStep, C_BadText]
  hn : PySem.W.specialIn K (.builtin "object.__class__") "__get__" = some (some (.builtin "getset_descriptor.__get__"))
  ht : PySem.W.takesIn K (.builtin "object.__class__") = some true
  h1 : PySem.W.specialIn K (.ref C_LaneError) "__getattribute__" = some (some (.builtin "type.__getattribute__"))
  h3 : PySem.W.readsIn K C_LaneError (.type "type") = true
  h4 : PySem.W.findCls K (.ref C_LaneError) (.type "type") "__init__" = some (.val (.builtin "ValueError.__init__"))
def Txt.exc {K : PySem.W.Frag} {mg : Str → Option Value} (T : Txt K mg) (n : String) : Addr := if n = "LaneError" then T.C_LaneError else if n = "BadKind" then T.C_BadKind else if n = "BadCount" then T.C_BadCount else if n = "BadMark" then T.C_BadMark else if n = "BadSize" then T.C_BadSize else if n = "BadCounts" then T.C_BadCounts else if n = "BadHouse" then T.C_BadHouse else if n = "BadCase" then T.C_BadCase else if n = "BadStep" then T.C_BadStep else if n = "BadQuestion" then T.C_BadQuestion else if n = "BadKey" then T.C_BadKey else if n = "BadPair" then T.C_BadPair else if n = "BadRenaming" then T.C_BadRenaming else if n = "BadSpot" then T.C_BadSpot else if n = "TooMany" then T.C_TooMany else if n = "NotEnough" then T.C_NotEnough else if n = "BadScheme" then T.C_BadScheme else if n = "NotWithin" then T.C_NotWithin else if n = "BadLog" then T.C_BadLog else if n = "BadLane" then T.C_BadLane else if n = "NothingToUndo" then T.C_NothingToUndo else if n = "BadText" then T.C_BadText else if n = "BadCommand" then T.C_BadCommand else 0
section
variable {P : Program} {w : World} {K : PySem.W.Frag} {mg : Str → Option Value} {base : Heap}
theorem ok_law_source (T : Txt K mg) : FnOk P w K mg base CX0 1 T.a_law_source T.d_law_source ["_law_script"] (spSource K) := by
  refine T.F_law_source.ok sc_law_source (fun vs H Q E h => ?_) (fun cdv A outer s H vs Q E hr h => ?_)
  · obtain ⟨a, ns, rfl, _⟩ := h
    rfl
  · obtain ⟨a, ns, rfl, hS, hlen, hb, q⟩ := h
    refine ⟨_, (pss_one (ps_ret (pe_lst (pa_cons (pe_callTy call_list_of (by rfl) T.z_list (by decide +kernel) (pa_cons (pv 0) pa_nil)) (pa_cons pe_int (pa_cons pe_int (pa_cons pe_int pa_nil))))))), ?_⟩
    refine ⟨.ref a, rfl, a, _, rfl, .inl hS, fun l hl => ⟨(by show 4 ≤ sizeLine; decide), fun p hp => ?_⟩⟩
    have hpl : l ≠ p := ne_of_none upd_same hp
    have hp0 : H p = none := by rw [← upd_ne (H := H) (o := .lst (ns.map V.int)) hpl.symm]; exact hp
    refine q p _ hp0 ⟨l, ns, 0, 1, 0, upd_same, (by rw [upd_ne hpl]; exact upd_same), fun k hk => bits_log (hb k hk), hlen, by decide, by decide, by decide, by decide, by decide, by decide⟩ ((same_upd hl).trans (same_upd hp))
theorem ok_law_draw (T : Txt K mg) : FnOk P w K mg base CX0 1 T.a_law_draw T.d_law_draw ["_law_source_here", "_law_limit"] spDraw := by
  refine T.F_law_draw.ok sc_law_draw (fun vs H Q E h => ?_) (fun cdv A outer s H vs Q E hr h => ?_)
  · obtain ⟨a, n, lim, rfl, _⟩ := h
    rfl
  · obtain ⟨a, n, lim, rfl, S, hn, l1, l2, q⟩ := h
    refine ⟨_, (pss_cons (ps_if (PW.pt (pw_and (pt_cmpR op_lt (pe_ix (ixL K) (pv 0) pe_int (fun _ _ => rfl)) (pv 1) (nomark _)) (pw_and1 (pt_truth (pe_ix (ixL K) (pv 0) pe_int (fun _ _ => rfl)) (by intro _; rfl)))))
      (pss_cons (ps_set (i := 2) sc_law_draw.nd rfl (Or.inl rfl) (pe_ix (ixL K) (pe_ix (ixL K) (pv 0) pe_int (fun _ _ => rfl)) pe_int (fun _ _ => rfl)))
      (pss_cons (ps_asg (pe_slice sl_list (pe_ix (ixL K) (pv 0) pe_int (fun _ _ => rfl)) (po_some pe_int) po_none) (pg_sub (pv 0) pe_int set_list))
      (pss_one (ps_if (pt_cmpR op_ge (pv 2) (pe_op op_pow pe_int pe_int) (nomark _))
      (pss_one (ps_asg (pv 2) (pg_sub (pv 0) pe_int set_list)))
      (pss_one (ps_asg (pe_op op_mod (pe_callTy call_int1 (by rfl) T.z_int (by decide +kernel) (pa_cons (pe_op op_add (pe_op op_add (pe_op Lc.op_mulX (pe_ix (ixL K) (pv 0) pe_int (fun _ _ => rfl)) pe_int) (pe_op Lc.op_mulX (pv 2) pe_int)) pe_int) pa_nil)) pe_int) (pg_sub (pv 0) pe_int set_list)))))))
      pss_nil)
      (pss_cons (ps_if (pt_cmpR op_ge (pe_ix (ixL K) (pv 0) pe_int (fun _ _ => rfl)) (pv 1) (nomark _))
      (pss_cons (ps_set (i := 3) sc_law_draw.nd rfl (Or.inl rfl) (pe_op op_mod (pe_callTy call_int1 (by rfl) T.z_int (by decide +kernel) (pa_cons (pe_ix (ixL K) (pv 0) pe_int (fun _ _ => rfl)) pa_nil)) (pv 1)))
      (pss_cons (ps_asg (pe_op op_fdivW (pe_ix (ixL K) (pv 0) pe_int (fun _ _ => rfl)) (pv 1)) (pg_sub (pv 0) pe_int set_list))
      (pss_one (ps_ret (pv 3)))))
      pss_nil)
      (pss_cons (ps_asg (pe_op op_add (pe_ix (ixL K) (pv 0) pe_int (fun _ _ => rfl)) pe_int) (pg_sub (pv 0) pe_int set_list))
      (pss_cons (ps_set (i := 4) sc_law_draw.nd rfl (Or.inl rfl) (pe_op op_mod (pe_callTy call_int1 (by rfl) T.z_int (by decide +kernel) (pa_cons (pe_op op_add (pe_ix (ixL K) (pv 0) pe_int (fun _ _ => rfl)) (pe_op Lc.op_mulX (pe_ix (ixL K) (pv 0) pe_int (fun _ _ => rfl)) pe_int)) pa_nil)) pe_int))
      (pss_one (ps_ret (pe_op op_mod (pe_op op_mod (pe_callTy call_int1 (by rfl) T.z_int (by decide +kernel) (pa_cons (pe_op op_add (pe_op op_add (pe_op Lc.op_mulX (pv 4) (pv 4)) (pe_op Lc.op_mulX (pe_ix (ixL K) (pv 0) pe_int (fun _ _ => rfl)) pe_int)) (pe_ix (ixL K) (pv 0) pe_int (fun _ _ => rfl))) pa_nil)) pe_int) (pv 1)))))))), ?_⟩
    refine seq_cut (fun σ' H' => ∃ c, σ' = [some (.ref a), some (.int lim), c, none, none] ∧ Src H' a n ∧ But a H H') ?_ (fun K1 => ?_)
    · rintro σ' H' ⟨c, rfl, S', B'⟩
      obtain ⟨l, ns, x, y, z, ha, hl, hb, hlen, x0, xb, y0, y1, z0, z1⟩ := S'.ex
      have nla : l ≠ a := fun e => by
        subst e; rw [ha] at hl
        have e2 := HO.lst.inj (Option.some.inj hl)
        cases ns with
        | nil => exact nomatch e2
        | cons k r => exact nomatch (List.cons.inj e2).1
      refine ⟨.ref a, rfl, a, _, 1, .int x, rfl, rfl, SqL.of ha, atI_nat (j := 1) rfl, .int lim, rfl, x, lim, rfl, rfl, _, rfl, ite2 (fun e => ?_) (fun e => ?_)⟩
      · have e1 : lim ≤ x := of_decide_eq_true e
        refine ⟨.ref a, rfl, a, _, 1, .int x, rfl, rfl, SqL.of ha, atI_nat (j := 1) rfl, .inl ⟨x, rfl, .int lim, rfl, x, lim, rfl, rfl, (by show 0 < lim; omega), ?_⟩⟩
        refine ⟨.ref a, rfl, a, _, 1, .int x, rfl, rfl, SqL.of ha, atI_nat (j := 1) rfl, .int lim, rfl, x, lim, rfl, rfl, divX (by omega) (Nat.lt_of_lt_of_le (by omega : lim.natAbs < 2 ^ 64) (Nat.pow_le_pow_right (by decide) (by decide))), .ref a, rfl, a, _, 1, 1, rfl, rfl, ha, rfl, ?_⟩
        refine ⟨.int (x % lim), rfl, q _ _ (Int.emod_nonneg x (by omega)) (Int.emod_lt_of_pos x (by omega)) ?_ B'.upd⟩
        exact ⟨l, ns, x / lim, y, z, upd_same, (by rw [upd_ne nla]; exact hl), hb, hlen, Int.ediv_nonneg x0 (by omega), idiv_log x0 l1 xb, y0, y1, z0, by omega⟩
      · refine ⟨.ref a, rfl, a, _, 3, .int z, rfl, rfl, SqL.of ha, atI_nat (j := 3) rfl, z, 1, rfl, rfl, .ref a, rfl, a, _, 3, 3, rfl, rfl, ha, rfl, ?_⟩
        have ha2 : (upd H' a (.lst [.ref l, .int x, .int y, .int (z + 1)])) a = some (.lst [.ref l, .int x, .int y, .int (z + 1)]) := upd_same
        have fz : Few (z + 1) := few_le (b := 1000000) (by omega) (by omega) (by decide)
        refine ⟨.ref a, rfl, a, _, 2, .int y, rfl, rfl, SqL.of ha2, atI_nat (j := 2) rfl, .ref a, rfl, a, _, 3, .int (z + 1), rfl, rfl, SqL.of ha2, atI_nat (j := 3) rfl, z + 1, 40692, rfl, rfl, mulX fz (few_le (b := 40692) (by decide) (by decide) (by decide)), y, _, rfl, rfl, .inl ⟨_, rfl, _, _, rfl, rfl, (by show (0 : Int) < 2147483399; decide), ?_⟩⟩
        have m0 : 0 ≤ (y + (z + 1) * 40692) % 2147483399 := Int.emod_nonneg _ (by decide)
        have m1 : (y + (z + 1) * 40692) % 2147483399 < 2147483399 := Int.emod_lt_of_pos _ (by decide)
        have fm := few_le (b := 2147483399) m0 (Int.le_of_lt m1) (by decide)
        refine ⟨_, rfl, _, rfl, _, _, rfl, rfl, mulX fm fm, .ref a, rfl, a, _, 3, .int (z + 1), rfl, rfl, SqL.of ha2, atI_nat (j := 3) rfl, z + 1, 3791, rfl, rfl, mulX fz (few_le (b := 3791) (by decide) (by decide) (by decide)), _, _, rfl, rfl, .ref a, rfl, a, _, 2, .int y, rfl, rfl, SqL.of ha2, atI_nat (j := 2) rfl, _, y, rfl, rfl, .inl ⟨_, rfl, _, _, rfl, rfl, (by show (0 : Int) < 2147483647; decide), .int lim, rfl, _, lim, rfl, rfl, (by show 0 < lim; omega), ?_⟩⟩
        refine q _ _ (Int.emod_nonneg _ (by omega)) (Int.emod_lt_of_pos _ (by omega)) ?_ B'.upd
        exact ⟨l, ns, x, y, z + 1, upd_same, (by rw [upd_ne nla]; exact hl), hb, hlen, x0, xb, y0, y1, by omega, by omega⟩
    · obtain ⟨l, ns, x, y, z, ha, hl, hb, hlen, x0, xb, y0, y1, z0, z1⟩ := S.ex
      refine ⟨.ref a, rfl, a, _, 1, .int x, rfl, rfl, SqL.of ha, atI_nat (j := 1) rfl, .int lim, rfl, x, lim, rfl, rfl, _, rfl, ite2 (fun e => ?_) (fun e => ?_)⟩
      · refine ⟨.ref a, rfl, a, _, 0, .ref l, rfl, rfl, SqL.of ha, atI_nat (j := 0) rfl, _, .inl ⟨_, SqL.of hl, rfl⟩, ?_⟩
        cases ns with
        | nil => exact iteF (K1 _ _ ⟨none, rfl, S, But.refl _ _⟩)
        | cons k r =>
          refine iteT ?_
          refine ⟨.ref a, rfl, a, _, 0, .ref l, rfl, rfl, SqL.of ha, atI_nat (j := 0) rfl, l, _, 0, .int k, rfl, rfl, SqL.of hl, atI_nat (j := 0) rfl, ?_⟩
          refine ⟨.ref a, rfl, a, _, 0, .ref l, rfl, rfl, SqL.of ha, atI_nat (j := 0) rfl, 1, rfl, l, _, rfl, SqL.of hl, fun p hp => ?_⟩
          have npa : a ≠ p := ne_of_none ha hp
          have ha1 : (upd H p (.lst (cutV ((k :: r).map V.int) (some 1) none))) a = some (.lst [.ref l, .int x, .int y, .int z]) := by
            rw [upd_ne npa]; exact ha
          refine ⟨.ref a, rfl, a, _, 0, 0, rfl, rfl, ha1, rfl, ?_⟩
          have ec : cutV ((k :: r).map V.int) (some 1) none = r.map V.int := by rw [cut1]; rfl
          rw [ec]
          have ha2 : (upd (upd H p (.lst (r.map V.int))) a (.lst [.ref p, .int x, .int y, .int z])) a = some (.lst [.ref p, .int x, .int y, .int z]) := upd_same
          have hp2 : (upd (upd H p (.lst (r.map V.int))) a (.lst [.ref p, .int x, .int y, .int z])) p = some (.lst (r.map V.int)) := by
            rw [upd_ne npa.symm]; exact upd_same
          have B2 : But a H (upd (upd H p (.lst (r.map V.int))) a (.lst [.ref p, .int x, .int y, .int z])) := (Same.but (same_upd hp)).upd
          have hk : k.natAbs.log2 ≤ 1048576 := hb k List.mem_cons_self
          have hr' : ∀ j ∈ r, j.natAbs.log2 ≤ 1048576 := fun j hj => hb j (List.mem_cons_of_mem _ hj)
          have hlr : r.length ≤ 63 := by rw [List.length_cons] at hlen; omega
          refine ⟨.int k, rfl, 10, 18, rfl, rfl, ⟨by decide, by decide, by decide⟩, k, _, rfl, rfl, _, rfl, ite2 (fun e => ?_) (fun e => ?_)⟩
          · have e1 : (10 : Int) ^ 18 ≤ k := of_decide_eq_true e
            refine ⟨.int k, rfl, .ref a, rfl, a, _, 1, 1, rfl, rfl, ha2, rfl, ?_⟩
            refine K1 _ _ ⟨some (.int k), rfl, ⟨p, r, k, y, z, upd_same, ?_, hr', hlr, by omega, hk, y0, y1, z0, z1⟩, B2.upd⟩
            rw [upd_ne npa.symm]; exact hp2
          · refine ⟨.ref a, rfl, a, _, 2, .int y, rfl, rfl, SqL.of ha2, atI_nat (j := 2) rfl, y, 48271, rfl, rfl, mulX (few_le (b := 2147483647) y0 (by omega) (by decide)) (few_le (b := 48271) (by decide) (by decide) (by decide)), .int k, rfl, k, 69621, rfl, rfl, mulX (few_bits hk) (few_le (b := 69621) (by decide) (by decide) (by decide)), _, _, rfl, rfl, _, 7, rfl, rfl, .inl ⟨_, rfl, _, _, rfl, rfl, (by show (0 : Int) < 2147483647; decide), .ref a, rfl, a, _, 2, 2, rfl, rfl, ha2, rfl, ?_⟩⟩
            refine K1 _ _ ⟨some (.int k), rfl, ⟨p, r, x, _, z, upd_same, ?_, hr', hlr, x0, xb, Int.emod_nonneg _ (by decide), Int.emod_lt_of_pos _ (by decide), z0, z1⟩, B2.upd⟩
            rw [upd_ne npa.symm]; exact hp2
      · exact iteF (K1 _ _ ⟨none, rfl, S, But.refl _ _⟩)
end

theorem fmt_short {n : Int} (h : n.natAbs.log2 < 1920) : (toString n : Str).length ≤ 2000 := by
  have e := PySem.int_text_length_le (k := 1920) (by decide) h
  have e2 : (Str.ofString (toString n)).length ≤ 2000 := by
    rw [PySem.ofString_length]; omega
  exact e2
theorem fmt_le {n : Int} {s : Str} (h : n.natAbs.log2 < 1920) (hs : s.length ≤ 100) : (s ++ (toString n : Str)).length ≤ sizeLine := by
  have e := fmt_short h
  rw [PySem.strLen_append, sizeLine_eq]; omega
theorem fmt_le2 {n : Int} {s u : Str} (h : n.natAbs.log2 < 1920) (hs : s.length ≤ 100) (hu : u.length ≤ 100) : ((s ++ (toString n : Str)) ++ u).length ≤ sizeLine := by
  have e := fmt_short h
  rw [PySem.strLen_append, PySem.strLen_append, sizeLine_eq]; omega

section
variable {P : Program} {w : World} {K : PySem.W.Frag} {mg : Str → Option Value} {base : Heap}
def clsL (T : Txt K mg) : List Addr := [T.C_BadKind, T.C_BadCount, T.C_BadMark, T.C_BadSize, T.C_BadCounts, T.C_BadHouse, T.C_BadCase, T.C_BadQuestion, T.C_BadKey, T.C_BadPair, T.C_BadRenaming, T.C_BadSpot, T.C_TooMany, T.C_NotEnough, T.C_BadScheme, T.C_NotWithin, T.C_BadLog, T.C_BadLane, T.C_NothingToUndo, T.C_BadCommand, T.C_BadStep, T.C_BadText]
def mroL (T : Txt K mg) (C : Addr) : List Value := [.ref C, .ref T.C_LaneError, .type "ValueError", .type "Exception", .type "BaseException", .type "object"]
structure Kc (K : PySem.W.Frag) (mro : List Value) (C : Addr) : Prop where
  e : Ecl K C mro
  i : PySem.W.isClsIn K C = true
  t : PySem.W.typeIn K (.ref C) = some (.type "type")
theorem kc_of (T : Txt K mg) : ∀ {j : Nat} {C : Addr}, (clsL T)[j]? = some C → Kc K (mroL T C) C
  | 0, _, h => by
    cases Option.some.inj h
    exact ⟨T.m_BadKind, T.i_BadKind, T.t_BadKind⟩
  | 1, _, h => by
    cases Option.some.inj h
    exact ⟨T.m_BadCount, T.i_BadCount, T.t_BadCount⟩
  | 2, _, h => by
    cases Option.some.inj h
    exact ⟨T.m_BadMark, T.i_BadMark, T.t_BadMark⟩
  | 3, _, h => by
    cases Option.some.inj h
    exact ⟨T.m_BadSize, T.i_BadSize, T.t_BadSize⟩
  | 4, _, h => by
    cases Option.some.inj h
    exact ⟨T.m_BadCounts, T.i_BadCounts, T.t_BadCounts⟩
  | 5, _, h => by
    cases Option.some.inj h
    exact ⟨T.m_BadHouse, T.i_BadHouse, T.t_BadHouse⟩
  | 6, _, h => by
    cases Option.some.inj h
    exact ⟨T.m_BadCase, T.i_BadCase, T.t_BadCase⟩
  | 7, _, h => by
    cases Option.some.inj h
    exact ⟨T.m_BadQuestion, T.i_BadQuestion, T.t_BadQuestion⟩
  | 8, _, h => by
    cases Option.some.inj h
    exact ⟨T.m_BadKey, T.i_BadKey, T.t_BadKey⟩
  | 9, _, h => by
    cases Option.some.inj h
    exact ⟨T.m_BadPair, T.i_BadPair, T.t_BadPair⟩
  | 10, _, h => by
    cases Option.some.inj h
    exact ⟨T.m_BadRenaming, T.i_BadRenaming, T.t_BadRenaming⟩
  | 11, _, h => by
    cases Option.some.inj h
    exact ⟨T.m_BadSpot, T.i_BadSpot, T.t_BadSpot⟩
  | 12, _, h => by
    cases Option.some.inj h
    exact ⟨T.m_TooMany, T.i_TooMany, T.t_TooMany⟩
  | 13, _, h => by
    cases Option.some.inj h
    exact ⟨T.m_NotEnough, T.i_NotEnough, T.t_NotEnough⟩
  | 14, _, h => by
    cases Option.some.inj h
    exact ⟨T.m_BadScheme, T.i_BadScheme, T.t_BadScheme⟩
  | 15, _, h => by
    cases Option.some.inj h
    exact ⟨T.m_NotWithin, T.i_NotWithin, T.t_NotWithin⟩
  | 16, _, h => by
    cases Option.some.inj h
    exact ⟨T.m_BadLog, T.i_BadLog, T.t_BadLog⟩
  | 17, _, h => by
    cases Option.some.inj h
    exact ⟨T.m_BadLane, T.i_BadLane, T.t_BadLane⟩
  | 18, _, h => by
    cases Option.some.inj h
    exact ⟨T.m_NothingToUndo, T.i_NothingToUndo, T.t_NothingToUndo⟩
  | 19, _, h => by
    cases Option.some.inj h
    exact ⟨T.m_BadCommand, T.i_BadCommand, T.t_BadCommand⟩
  | 20, _, h => by
    cases Option.some.inj h
    exact ⟨T.m_BadStep, T.i_BadStep, T.t_BadStep⟩
  | 21, _, h => by
    cases Option.some.inj h
    exact ⟨T.m_BadText, T.i_BadText, T.t_BadText⟩
  | n + 22, _, h => by
    have z : (clsL T)[n + 22]? = none := List.getElem?_eq_none (by show 22 ≤ n + 22; omega)
    rw [z] at h; cases h
theorem cls_inj (T : Txt K mg) {i j : Nat} {C D : Addr} (hi : (clsL T)[i]? = some C) (hj : (clsL T)[j]? = some D) : (C = D) ↔ i = j := by
  obtain ⟨li, ei⟩ := List.getElem?_eq_some_iff.mp hi
  obtain ⟨lj, ej⟩ := List.getElem?_eq_some_iff.mp hj
  constructor
  · intro e
    exact (List.getElem_inj (show (clsL T).Nodup from T.nd)).mp (ei.trans (e.trans ej.symm))
  · intro e
    subst e
    exact Option.some.inj (hi.symm.trans hj)
theorem kit_ref {C D : Addr} {b : Bool} (i : PySem.W.isClsIn K D = true) (t : PySem.W.typeIn K (.ref D) = some (.type "type")) (q : PySem.W.subIn K (.ref C) (.ref D) = some b) (hb : C = D → b = true) : PySem.W.kitOne K (.ref C) (.ref D) = some b := by
  have i' : (PySem.W.clsIn K D).isSome = true := i
  unfold PySem.W.kitOne PySem.W.kitCls
  by_cases e : C = D
  · rw [hb e, if_pos (show (Value.ref C == Value.ref D) = true by rw [e]; exact beq_self_eq_true _)]
  · rw [if_neg (show ¬ (Value.ref C == Value.ref D) = true from fun z => e (Value.ref.inj (eq_of_beq z)))]
    dsimp only
    rw [i', t]
    exact q
theorem isv_any (T : Txt K mg) {a C : Addr} {o : Option (Str × Int)} {w : Nat} {H : Hp} {Q : VK} {c : V} {cv : Value} (hC : (clsL T)[w]? = some C) (hd : Held H a C o) (hc : ∀ u, RelV c u → u = cv) (hk : PySem.W.kitOne K (.ref C) cv = some b) (q : Q (.bl b) H) : rIsV K [.ref a, c] H Q :=
  ⟨a, C, o, _, c, cv, b, rfl, hc, (kc_of T hC).e, by unfold mroL; simp, by unfold mroL; simp, T.hn, T.ht, hd, hk, q⟩
theorem isv_cls (T : Txt K mg) {a C D : Addr} {o : Option (Str × Int)} {w k : Nat} {H : Hp} {Q : VK} (hC : (clsL T)[w]? = some C) (hD : (clsL T)[k]? = some D) (hd : Held H a C o) (q : Q (.bl (decide (k = w))) H) : rIsV K [.ref a, .ref D] H Q := by
  have hs := (kc_of T hC).e.sub (by unfold mroL; simp) (.ref D)
  have dL : D ≠ T.C_LaneError := fun z => T.nr (by rw [← z]; exact List.mem_of_getElem? hD)
  have e : (mroL T C).contains (.ref D) = decide (k = w) := by
    have ij := cls_inj T hC hD
    unfold mroL
    by_cases z : C = D
    · have kw := (ij.mp z).symm
      rw [decide_eq_true kw, z]; simp
    · have kw : ¬ k = w := fun y => z (ij.mpr y.symm)
      rw [decide_eq_false kw]
      have z2 : ¬ D = C := fun y => z y.symm
      simp [z2, dL]
  rw [e] at hs
  exact isv_any T hC hd (fun u h => h) (kit_ref (kc_of T hD).i (kc_of T hD).t hs fun z => decide_eq_true ((cls_inj T hC hD).mp z).symm) q
theorem isv_lane (T : Txt K mg) {a C : Addr} {o : Option (Str × Int)} {w : Nat} {H : Hp} {Q : VK} (hC : (clsL T)[w]? = some C) (hd : Held H a C o) (q : Q (.bl true) H) : rIsV K [.ref a, .ref T.C_LaneError] H Q := by
  have hs := (kc_of T hC).e.sub (by unfold mroL; simp) (.ref T.C_LaneError)
  have e : (mroL T C).contains (.ref T.C_LaneError) = true := by unfold mroL; simp
  rw [e] at hs
  exact isv_any T hC hd (fun u h => h) (kit_ref T.i_LaneError T.t_LaneError hs fun _ => rfl) q
theorem isv_ve (T : Txt K mg) {a C : Addr} {o : Option (Str × Int)} {w : Nat} {H : Hp} {Q : VK} (hC : (clsL T)[w]? = some C) (hd : Held H a C o) (q : Q (.bl true) H) : rIsV K [.ref a, .ty "ValueError"] H Q := by
  have hs := (kc_of T hC).e.sub (by unfold mroL; simp) (.type "ValueError")
  have e : (mroL T C).contains (.type "ValueError") = true := by unfold mroL; simp
  rw [e] at hs
  exact isv_any T hC hd (fun u h => h) (kit_ve hs) q
def spInit (K : PySem.W.Frag) (f : Str) : Sp := fun vs H Q _ => ∃ (a C : Addr) (n : Int), vs = [.ref a, .int n] ∧ n.natAbs.log2 < 1920 ∧ H a = some (exo a C none) ∧ OexC K C ∧ PySem.W.findIn K (.ref C) f = some none ∧
  ∀ d, H d = none → d ≠ a → Q .non (upd (upd H d (exd d [(f, .int n)])) a (exo a C (some d)))
theorem ok_init_BadStep (T : Txt K mg) : FnOk P w K mg base CX0 1 T.a_init_BadStep T.d_init_BadStep ["self", "place"] (spInit K "place") := by
  refine T.F_init_BadStep.ok sc_init_BadStep (fun vs H Q E h => ?_) (fun cdv A outer s H vs Q E hr h => ?_)
  · obtain ⟨a, C, n, rfl, _⟩ := h
    rfl
  · obtain ⟨a, C, n, rfl, hl, ea, ox, no, q⟩ := h
    refine ⟨_, (pss_cons (ps_expr (pe_cinit (by rfl) T.g_LaneError T.h1 T.t_LaneError T.h3 T.h4 (pa_cons (pv 0) (pa_cons (pe_joined (.cons pe_str (.cons (pe_fmt (pv 1)) (.cons pe_str .nil)))) pa_nil))))
      (pss_one (ps_ost (pv 0) (pv 1)))), ?_⟩
    refine ⟨.ref a, rfl, _, rfl, by decide +kernel, .int n, rfl, .inr ⟨n, rfl, hl, _, rfl, fmt_le hl (by decide +kernel), _, rfl, fmt_le2 hl (by decide +kernel) (by decide +kernel), a, C, _, rfl, (by show 1 ≤ 1000; decide), ox, ea, ?_⟩⟩
    exact ⟨.int n, rfl, .ref a, rfl, a, C, rfl, ox, no, .inl ⟨ea, fun d hd dne => q d hd dne⟩⟩
theorem ok_init_BadText (T : Txt K mg) : FnOk P w K mg base CX0 1 T.a_init_BadText T.d_init_BadText ["self", "line"] (spInit K "line") := by
  refine T.F_init_BadText.ok sc_init_BadText (fun vs H Q E h => ?_) (fun cdv A outer s H vs Q E hr h => ?_)
  · obtain ⟨a, C, n, rfl, _⟩ := h
    rfl
  · obtain ⟨a, C, n, rfl, hl, ea, ox, no, q⟩ := h
    refine ⟨_, (pss_cons (ps_expr (pe_cinit (by rfl) T.g_LaneError T.h1 T.t_LaneError T.h3 T.h4 (pa_cons (pv 0) (pa_cons (pe_joined (.cons pe_str (.cons (pe_fmt (pv 1)) (.cons pe_str .nil)))) pa_nil))))
      (pss_one (ps_ost (pv 0) (pv 1)))), ?_⟩
    refine ⟨.ref a, rfl, _, rfl, by decide +kernel, .int n, rfl, .inr ⟨n, rfl, hl, _, rfl, fmt_le hl (by decide +kernel), _, rfl, fmt_le2 hl (by decide +kernel) (by decide +kernel), a, C, _, rfl, (by show 1 ≤ 1000; decide), ox, ea, ?_⟩⟩
    exact ⟨.int n, rfl, .ref a, rfl, a, C, rfl, ox, no, .inl ⟨ea, fun d hd dne => q d hd dne⟩⟩
theorem held_new {H : Hp} {a d C : Addr} {f : Str} {n : Int} {z : HO} (ha : H a = none) (hd : upd H a z d = none) (dne : d ≠ a) : Same H (upd (upd (upd H a z) d (exd d [(f, .int n)])) a (exo a C (some d))) ∧ Held (upd (upd (upd H a z) d (exd d [(f, .int n)])) a (exo a C (some d))) a C (some (f, n)) := by
  refine ⟨fun b o e => ?_, d, upd_same, ?_⟩
  · have b1 : b ≠ a := ne_of_none e ha
    have b2 : b ≠ d := fun z => by
      subst z
      rw [upd_ne b1] at hd
      rw [hd] at e; cases e
    rw [upd_ne b1, upd_ne b2, upd_ne b1]; exact e
  · rw [upd_ne dne]; exact upd_same
def spFirst (T : Txt K mg) : Sp := fun vs H Q _ => ∃ (w : Int) (t : Str), vs = [.int w, .str t] ∧ 0 ≤ w ∧ w < 10 ∧ ∀ a C H', (clsL T)[w.toNat]? = some C → Same H H' → Held H' a C none → Q (.ref a) H'
def OkO (w n : Int) (o : Option (Str × Int)) : Prop := (w < 20 → o = none) ∧ (w = 20 → o = some (("place" : Str), n)) ∧ (w = 21 → o = some (("line" : Str), n))
def spSecond (T : Txt K mg) : Sp := fun vs H Q _ => ∃ (w n : Int) (t : Str), vs = [.int w, .str t, .int n] ∧ n.natAbs.log2 < 1920 ∧ 10 ≤ w ∧ w < 22 ∧ ∀ a C H' o, (clsL T)[w.toNat]? = some C → Same H H' → Held H' a C o → OkO w n o → Q (.ref a) H'
theorem ok_law_first (T : Txt K mg) : FnOk P w K mg base CX0 1 T.a_law_first T.d_law_first ["_law_which", "_law_text"] (spFirst T) := by
  refine T.F_law_first.ok sc_law_first (fun vs H Q E h => ?_) (fun cdv A outer s H vs Q E hr h => ?_)
  · obtain ⟨w, t, rfl, _⟩ := h
    rfl
  · obtain ⟨w, t, rfl, w0, w1, q⟩ := h
    refine ⟨_, (pss_cons (ps_if (pt_cmpR op_eq (pv 0) pe_int (nomark _))
      (pss_one (ps_ret (pe_exc1 PySem.F.excBase_ValueError T.x_BadKind T.g_BadKind T.k_BadKind (by rfl) (pv 1))))
      pss_nil)
      (pss_cons (ps_if (pt_cmpR op_eq (pv 0) pe_int (nomark _))
      (pss_one (ps_ret (pe_exc1 PySem.F.excBase_ValueError T.x_BadCount T.g_BadCount T.k_BadCount (by rfl) (pv 1))))
      pss_nil)
      (pss_cons (ps_if (pt_cmpR op_eq (pv 0) pe_int (nomark _))
      (pss_one (ps_ret (pe_exc1 PySem.F.excBase_ValueError T.x_BadMark T.g_BadMark T.k_BadMark (by rfl) (pv 1))))
      pss_nil)
      (pss_cons (ps_if (pt_cmpR op_eq (pv 0) pe_int (nomark _))
      (pss_one (ps_ret (pe_exc1 PySem.F.excBase_ValueError T.x_BadSize T.g_BadSize T.k_BadSize (by rfl) (pv 1))))
      pss_nil)
      (pss_cons (ps_if (pt_cmpR op_eq (pv 0) pe_int (nomark _))
      (pss_one (ps_ret (pe_exc1 PySem.F.excBase_ValueError T.x_BadCounts T.g_BadCounts T.k_BadCounts (by rfl) (pv 1))))
      pss_nil)
      (pss_cons (ps_if (pt_cmpR op_eq (pv 0) pe_int (nomark _))
      (pss_one (ps_ret (pe_exc1 PySem.F.excBase_ValueError T.x_BadHouse T.g_BadHouse T.k_BadHouse (by rfl) (pv 1))))
      pss_nil)
      (pss_cons (ps_if (pt_cmpR op_eq (pv 0) pe_int (nomark _))
      (pss_one (ps_ret (pe_exc1 PySem.F.excBase_ValueError T.x_BadCase T.g_BadCase T.k_BadCase (by rfl) (pv 1))))
      pss_nil)
      (pss_cons (ps_if (pt_cmpR op_eq (pv 0) pe_int (nomark _))
      (pss_one (ps_ret (pe_exc1 PySem.F.excBase_ValueError T.x_BadQuestion T.g_BadQuestion T.k_BadQuestion (by rfl) (pv 1))))
      pss_nil)
      (pss_cons (ps_if (pt_cmpR op_eq (pv 0) pe_int (nomark _))
      (pss_one (ps_ret (pe_exc1 PySem.F.excBase_ValueError T.x_BadKey T.g_BadKey T.k_BadKey (by rfl) (pv 1))))
      pss_nil)
      (pss_one (ps_ret (pe_exc1 PySem.F.excBase_ValueError T.x_BadPair T.g_BadPair T.k_BadPair (by rfl) (pv 1))))))))))))), ?_⟩
    refine ⟨_, rfl, rfl, _, rfl, ite2 (fun e => ?_) (fun e0 => ?_)⟩
    · have e2 : w = 0 := V.int.inj (of_decide_eq_true e)
      subst e2
      exact ⟨_, rfl, fun a ha => q a _ _ rfl (same_upd ha) upd_same⟩
    refine ⟨_, rfl, rfl, _, rfl, ite2 (fun e => ?_) (fun e1 => ?_)⟩
    · have e2 : w = 1 := V.int.inj (of_decide_eq_true e)
      subst e2
      exact ⟨_, rfl, fun a ha => q a _ _ rfl (same_upd ha) upd_same⟩
    refine ⟨_, rfl, rfl, _, rfl, ite2 (fun e => ?_) (fun e2 => ?_)⟩
    · have e2 : w = 2 := V.int.inj (of_decide_eq_true e)
      subst e2
      exact ⟨_, rfl, fun a ha => q a _ _ rfl (same_upd ha) upd_same⟩
    refine ⟨_, rfl, rfl, _, rfl, ite2 (fun e => ?_) (fun e3 => ?_)⟩
    · have e2 : w = 3 := V.int.inj (of_decide_eq_true e)
      subst e2
      exact ⟨_, rfl, fun a ha => q a _ _ rfl (same_upd ha) upd_same⟩
    refine ⟨_, rfl, rfl, _, rfl, ite2 (fun e => ?_) (fun e4 => ?_)⟩
    · have e2 : w = 4 := V.int.inj (of_decide_eq_true e)
      subst e2
      exact ⟨_, rfl, fun a ha => q a _ _ rfl (same_upd ha) upd_same⟩
    refine ⟨_, rfl, rfl, _, rfl, ite2 (fun e => ?_) (fun e5 => ?_)⟩
    · have e2 : w = 5 := V.int.inj (of_decide_eq_true e)
      subst e2
      exact ⟨_, rfl, fun a ha => q a _ _ rfl (same_upd ha) upd_same⟩
    refine ⟨_, rfl, rfl, _, rfl, ite2 (fun e => ?_) (fun e6 => ?_)⟩
    · have e2 : w = 6 := V.int.inj (of_decide_eq_true e)
      subst e2
      exact ⟨_, rfl, fun a ha => q a _ _ rfl (same_upd ha) upd_same⟩
    refine ⟨_, rfl, rfl, _, rfl, ite2 (fun e => ?_) (fun e7 => ?_)⟩
    · have e2 : w = 7 := V.int.inj (of_decide_eq_true e)
      subst e2
      exact ⟨_, rfl, fun a ha => q a _ _ rfl (same_upd ha) upd_same⟩
    refine ⟨_, rfl, rfl, _, rfl, ite2 (fun e => ?_) (fun e8 => ?_)⟩
    · have e2 : w = 8 := V.int.inj (of_decide_eq_true e)
      subst e2
      exact ⟨_, rfl, fun a ha => q a _ _ rfl (same_upd ha) upd_same⟩
    have e2 : w = 9 := by
      have z0 : w ≠ 0 := fun z => e0 (decide_eq_true (by rw [z]))
      have z1 : w ≠ 1 := fun z => e1 (decide_eq_true (by rw [z]))
      have z2 : w ≠ 2 := fun z => e2 (decide_eq_true (by rw [z]))
      have z3 : w ≠ 3 := fun z => e3 (decide_eq_true (by rw [z]))
      have z4 : w ≠ 4 := fun z => e4 (decide_eq_true (by rw [z]))
      have z5 : w ≠ 5 := fun z => e5 (decide_eq_true (by rw [z]))
      have z6 : w ≠ 6 := fun z => e6 (decide_eq_true (by rw [z]))
      have z7 : w ≠ 7 := fun z => e7 (decide_eq_true (by rw [z]))
      have z8 : w ≠ 8 := fun z => e8 (decide_eq_true (by rw [z]))
      omega
    subst e2
    exact ⟨_, rfl, fun a ha => q a _ _ rfl (same_upd ha) upd_same⟩
theorem ok_law_second (T : Txt K mg) : FnOk P w K mg base CX0 3 T.a_law_second T.d_law_second ["_law_which", "_law_text", "_law_number"] (spSecond T) := by
  refine T.F_law_second.ok sc_law_second (fun vs H Q E h => ?_) (fun cdv A outer s H vs Q E hr h => ?_)
  · obtain ⟨w, n, t, rfl, _⟩ := h
    rfl
  · obtain ⟨w, n, t, rfl, hn, w0, w1, q⟩ := h
    refine ⟨_, (pss_cons (ps_if (pt_cmpR op_eq (pv 0) pe_int (nomark _))
      (pss_one (ps_ret (pe_exc1 PySem.F.excBase_ValueError T.x_BadRenaming T.g_BadRenaming T.k_BadRenaming (by rfl) (pv 1))))
      pss_nil)
      (pss_cons (ps_if (pt_cmpR op_eq (pv 0) pe_int (nomark _))
      (pss_one (ps_ret (pe_exc1 PySem.F.excBase_ValueError T.x_BadSpot T.g_BadSpot T.k_BadSpot (by rfl) (pv 1))))
      pss_nil)
      (pss_cons (ps_if (pt_cmpR op_eq (pv 0) pe_int (nomark _))
      (pss_one (ps_ret (pe_exc1 PySem.F.excBase_ValueError T.x_TooMany T.g_TooMany T.k_TooMany (by rfl) (pv 1))))
      pss_nil)
      (pss_cons (ps_if (pt_cmpR op_eq (pv 0) pe_int (nomark _))
      (pss_one (ps_ret (pe_exc1 PySem.F.excBase_ValueError T.x_NotEnough T.g_NotEnough T.k_NotEnough (by rfl) (pv 1))))
      pss_nil)
      (pss_cons (ps_if (pt_cmpR op_eq (pv 0) pe_int (nomark _))
      (pss_one (ps_ret (pe_exc1 PySem.F.excBase_ValueError T.x_BadScheme T.g_BadScheme T.k_BadScheme (by rfl) (pv 1))))
      pss_nil)
      (pss_cons (ps_if (pt_cmpR op_eq (pv 0) pe_int (nomark _))
      (pss_one (ps_ret (pe_exc1 PySem.F.excBase_ValueError T.x_NotWithin T.g_NotWithin T.k_NotWithin (by rfl) (pv 1))))
      pss_nil)
      (pss_cons (ps_if (pt_cmpR op_eq (pv 0) pe_int (nomark _))
      (pss_one (ps_ret (pe_exc1 PySem.F.excBase_ValueError T.x_BadLog T.g_BadLog T.k_BadLog (by rfl) (pv 1))))
      pss_nil)
      (pss_cons (ps_if (pt_cmpR op_eq (pv 0) pe_int (nomark _))
      (pss_one (ps_ret (pe_exc1 PySem.F.excBase_ValueError T.x_BadLane T.g_BadLane T.k_BadLane (by rfl) (pv 1))))
      pss_nil)
      (pss_cons (ps_if (pt_cmpR op_eq (pv 0) pe_int (nomark _))
      (pss_one (ps_ret (pe_exc1 PySem.F.excBase_ValueError T.x_NothingToUndo T.g_NothingToUndo T.k_NothingToUndo (by rfl) (pv 1))))
      pss_nil)
      (pss_cons (ps_if (pt_cmpR op_eq (pv 0) pe_int (nomark _))
      (pss_one (ps_ret (pe_exc1 PySem.F.excBase_ValueError T.x_BadCommand T.g_BadCommand T.k_BadCommand (by rfl) (pv 1))))
      pss_nil)
      (pss_cons (ps_if (pt_cmpR op_eq (pv 0) pe_int (nomark _))
      (pss_one (ps_ret (pe_mkVK (ks := [("place" : Str)]) T.ox_BadStep T.ic_BadStep T.ti_BadStep (ok_init_BadStep T) (hr.mono (by decide)) T.kb_init_BadStep pass0 (by rfl) T.g_BadStep (pk_cons (pv 2) pk_nil) (by decide))))
      pss_nil)
      (pss_one (ps_ret (pe_mkVK (ks := [("line" : Str)]) T.ox_BadText T.ic_BadText T.ti_BadText (ok_init_BadText T) (hr.mono (by decide)) T.kb_init_BadText pass0 (by rfl) T.g_BadText (pk_cons (pv 2) pk_nil) (by decide))))))))))))))), ?_⟩
    refine ⟨_, rfl, rfl, _, rfl, ite2 (fun e => ?_) (fun e10 => ?_)⟩
    · have e2 : w = 10 := V.int.inj (of_decide_eq_true e)
      subst e2
      exact ⟨_, rfl, fun a ha => q a _ _ none rfl (same_upd ha) upd_same ⟨fun _ => rfl, fun z => absurd z (by decide), fun z => absurd z (by decide)⟩⟩
    refine ⟨_, rfl, rfl, _, rfl, ite2 (fun e => ?_) (fun e11 => ?_)⟩
    · have e2 : w = 11 := V.int.inj (of_decide_eq_true e)
      subst e2
      exact ⟨_, rfl, fun a ha => q a _ _ none rfl (same_upd ha) upd_same ⟨fun _ => rfl, fun z => absurd z (by decide), fun z => absurd z (by decide)⟩⟩
    refine ⟨_, rfl, rfl, _, rfl, ite2 (fun e => ?_) (fun e12 => ?_)⟩
    · have e2 : w = 12 := V.int.inj (of_decide_eq_true e)
      subst e2
      exact ⟨_, rfl, fun a ha => q a _ _ none rfl (same_upd ha) upd_same ⟨fun _ => rfl, fun z => absurd z (by decide), fun z => absurd z (by decide)⟩⟩
    refine ⟨_, rfl, rfl, _, rfl, ite2 (fun e => ?_) (fun e13 => ?_)⟩
    · have e2 : w = 13 := V.int.inj (of_decide_eq_true e)
      subst e2
      exact ⟨_, rfl, fun a ha => q a _ _ none rfl (same_upd ha) upd_same ⟨fun _ => rfl, fun z => absurd z (by decide), fun z => absurd z (by decide)⟩⟩
    refine ⟨_, rfl, rfl, _, rfl, ite2 (fun e => ?_) (fun e14 => ?_)⟩
    · have e2 : w = 14 := V.int.inj (of_decide_eq_true e)
      subst e2
      exact ⟨_, rfl, fun a ha => q a _ _ none rfl (same_upd ha) upd_same ⟨fun _ => rfl, fun z => absurd z (by decide), fun z => absurd z (by decide)⟩⟩
    refine ⟨_, rfl, rfl, _, rfl, ite2 (fun e => ?_) (fun e15 => ?_)⟩
    · have e2 : w = 15 := V.int.inj (of_decide_eq_true e)
      subst e2
      exact ⟨_, rfl, fun a ha => q a _ _ none rfl (same_upd ha) upd_same ⟨fun _ => rfl, fun z => absurd z (by decide), fun z => absurd z (by decide)⟩⟩
    refine ⟨_, rfl, rfl, _, rfl, ite2 (fun e => ?_) (fun e16 => ?_)⟩
    · have e2 : w = 16 := V.int.inj (of_decide_eq_true e)
      subst e2
      exact ⟨_, rfl, fun a ha => q a _ _ none rfl (same_upd ha) upd_same ⟨fun _ => rfl, fun z => absurd z (by decide), fun z => absurd z (by decide)⟩⟩
    refine ⟨_, rfl, rfl, _, rfl, ite2 (fun e => ?_) (fun e17 => ?_)⟩
    · have e2 : w = 17 := V.int.inj (of_decide_eq_true e)
      subst e2
      exact ⟨_, rfl, fun a ha => q a _ _ none rfl (same_upd ha) upd_same ⟨fun _ => rfl, fun z => absurd z (by decide), fun z => absurd z (by decide)⟩⟩
    refine ⟨_, rfl, rfl, _, rfl, ite2 (fun e => ?_) (fun e18 => ?_)⟩
    · have e2 : w = 18 := V.int.inj (of_decide_eq_true e)
      subst e2
      exact ⟨_, rfl, fun a ha => q a _ _ none rfl (same_upd ha) upd_same ⟨fun _ => rfl, fun z => absurd z (by decide), fun z => absurd z (by decide)⟩⟩
    refine ⟨_, rfl, rfl, _, rfl, ite2 (fun e => ?_) (fun e19 => ?_)⟩
    · have e2 : w = 19 := V.int.inj (of_decide_eq_true e)
      subst e2
      exact ⟨_, rfl, fun a ha => q a _ _ none rfl (same_upd ha) upd_same ⟨fun _ => rfl, fun z => absurd z (by decide), fun z => absurd z (by decide)⟩⟩
    refine ⟨_, rfl, rfl, _, rfl, ite2 (fun e => ?_) (fun e20 => ?_)⟩
    · have e2 : w = 20 := V.int.inj (of_decide_eq_true e)
      subst e2
      exact ⟨_, rfl, (by show 1 ≤ 1000; decide), fun a ha => ⟨a, _, n, rfl, hn, upd_same, T.ox_BadStep, T.no_BadStep, fun d hd dne => ⟨rfl, q a _ _ _ rfl (held_new ha hd dne).1 (held_new ha hd dne).2 ⟨fun z => absurd z (by decide), fun _ => rfl, fun z => absurd z (by decide)⟩⟩⟩⟩
    have e2 : w = 21 := by
      have z10 : w ≠ 10 := fun z => e10 (decide_eq_true (by rw [z]))
      have z11 : w ≠ 11 := fun z => e11 (decide_eq_true (by rw [z]))
      have z12 : w ≠ 12 := fun z => e12 (decide_eq_true (by rw [z]))
      have z13 : w ≠ 13 := fun z => e13 (decide_eq_true (by rw [z]))
      have z14 : w ≠ 14 := fun z => e14 (decide_eq_true (by rw [z]))
      have z15 : w ≠ 15 := fun z => e15 (decide_eq_true (by rw [z]))
      have z16 : w ≠ 16 := fun z => e16 (decide_eq_true (by rw [z]))
      have z17 : w ≠ 17 := fun z => e17 (decide_eq_true (by rw [z]))
      have z18 : w ≠ 18 := fun z => e18 (decide_eq_true (by rw [z]))
      have z19 : w ≠ 19 := fun z => e19 (decide_eq_true (by rw [z]))
      have z20 : w ≠ 20 := fun z => e20 (decide_eq_true (by rw [z]))
      omega
    subst e2
    exact ⟨_, rfl, (by show 1 ≤ 1000; decide), fun a ha => ⟨a, _, n, rfl, hn, upd_same, T.ox_BadText, T.no_BadText, fun d hd dne => ⟨rfl, q a _ _ _ rfl (held_new ha hd dne).1 (held_new ha hd dne).2 ⟨fun z => absurd z (by decide), fun z => absurd z (by decide), fun _ => rfl⟩⟩⟩⟩
def hitsL (w n : Nat) : List V := (List.range n).map fun k => V.bl (decide (k = w))
theorem hits_len (w n : Nat) : (hitsL w n).length = n := by unfold hitsL; simp
def spHits (T : Txt K mg) : Sp := fun vs H Q _ => ∃ (a C : Addr) (o : Option (Str × Int)) (w : Nat), vs = [.ref a] ∧ (clsL T)[w]? = some C ∧ Held H a C o ∧ ∀ p H', Same H H' → H' p = some (.lst (hitsL w 22)) → Q (.ref p) H'
theorem held_same {H H' : Hp} {a C : Addr} {o : Option (Str × Int)} (h : Held H a C o) (k : Same H H') : Held H' a C o := by
  cases o with
  | none => exact k _ _ h
  | some fn =>
    obtain ⟨f, n⟩ := fn
    obtain ⟨d, h1, h2⟩ := h
    exact ⟨d, k _ _ h1, k _ _ h2⟩
theorem ok_law_hits (T : Txt K mg) : FnOk P w K mg base CX0 1 T.a_law_hits T.d_law_hits ["_law_made"] (spHits T) := by
  refine T.F_law_hits.ok sc_law_hits (fun vs H Q E h => ?_) (fun cdv A outer s H vs Q E hr h => ?_)
  · obtain ⟨a, C, o, w, rfl, _⟩ := h
    rfl
  · obtain ⟨a, C, o, w, rfl, hC, hd, q⟩ := h
    refine ⟨_, (pss_cons (ps_set (i := 1) sc_law_hits.nd rfl (Or.inl rfl) (pe_lst (pa_cons (pe_callB (call_isV K) (by rfl) T.z_isinstance (by decide +kernel) (pa_cons (pv 0) (pa_cons (pe_glob (v := .ref T.C_BadKind) rfl T.g_BadKind rfl) pa_nil))) (pa_cons (pe_callB (call_isV K) (by rfl) T.z_isinstance (by decide +kernel) (pa_cons (pv 0) (pa_cons (pe_glob (v := .ref T.C_BadCount) rfl T.g_BadCount rfl) pa_nil))) (pa_cons (pe_callB (call_isV K) (by rfl) T.z_isinstance (by decide +kernel) (pa_cons (pv 0) (pa_cons (pe_glob (v := .ref T.C_BadMark) rfl T.g_BadMark rfl) pa_nil))) pa_nil)))))
      (pss_cons (ps_set (i := 1) sc_law_hits.nd rfl (Or.inl rfl) (pe_op op_cat (pv 1) (pe_lst (pa_cons (pe_callB (call_isV K) (by rfl) T.z_isinstance (by decide +kernel) (pa_cons (pv 0) (pa_cons (pe_glob (v := .ref T.C_BadSize) rfl T.g_BadSize rfl) pa_nil))) (pa_cons (pe_callB (call_isV K) (by rfl) T.z_isinstance (by decide +kernel) (pa_cons (pv 0) (pa_cons (pe_glob (v := .ref T.C_BadCounts) rfl T.g_BadCounts rfl) pa_nil))) (pa_cons (pe_callB (call_isV K) (by rfl) T.z_isinstance (by decide +kernel) (pa_cons (pv 0) (pa_cons (pe_glob (v := .ref T.C_BadHouse) rfl T.g_BadHouse rfl) pa_nil))) pa_nil))))))
      (pss_cons (ps_set (i := 1) sc_law_hits.nd rfl (Or.inl rfl) (pe_op op_cat (pv 1) (pe_lst (pa_cons (pe_callB (call_isV K) (by rfl) T.z_isinstance (by decide +kernel) (pa_cons (pv 0) (pa_cons (pe_glob (v := .ref T.C_BadCase) rfl T.g_BadCase rfl) pa_nil))) (pa_cons (pe_callB (call_isV K) (by rfl) T.z_isinstance (by decide +kernel) (pa_cons (pv 0) (pa_cons (pe_glob (v := .ref T.C_BadQuestion) rfl T.g_BadQuestion rfl) pa_nil))) (pa_cons (pe_callB (call_isV K) (by rfl) T.z_isinstance (by decide +kernel) (pa_cons (pv 0) (pa_cons (pe_glob (v := .ref T.C_BadKey) rfl T.g_BadKey rfl) pa_nil))) pa_nil))))))
      (pss_cons (ps_set (i := 1) sc_law_hits.nd rfl (Or.inl rfl) (pe_op op_cat (pv 1) (pe_lst (pa_cons (pe_callB (call_isV K) (by rfl) T.z_isinstance (by decide +kernel) (pa_cons (pv 0) (pa_cons (pe_glob (v := .ref T.C_BadPair) rfl T.g_BadPair rfl) pa_nil))) (pa_cons (pe_callB (call_isV K) (by rfl) T.z_isinstance (by decide +kernel) (pa_cons (pv 0) (pa_cons (pe_glob (v := .ref T.C_BadRenaming) rfl T.g_BadRenaming rfl) pa_nil))) (pa_cons (pe_callB (call_isV K) (by rfl) T.z_isinstance (by decide +kernel) (pa_cons (pv 0) (pa_cons (pe_glob (v := .ref T.C_BadSpot) rfl T.g_BadSpot rfl) pa_nil))) pa_nil))))))
      (pss_cons (ps_set (i := 1) sc_law_hits.nd rfl (Or.inl rfl) (pe_op op_cat (pv 1) (pe_lst (pa_cons (pe_callB (call_isV K) (by rfl) T.z_isinstance (by decide +kernel) (pa_cons (pv 0) (pa_cons (pe_glob (v := .ref T.C_TooMany) rfl T.g_TooMany rfl) pa_nil))) (pa_cons (pe_callB (call_isV K) (by rfl) T.z_isinstance (by decide +kernel) (pa_cons (pv 0) (pa_cons (pe_glob (v := .ref T.C_NotEnough) rfl T.g_NotEnough rfl) pa_nil))) (pa_cons (pe_callB (call_isV K) (by rfl) T.z_isinstance (by decide +kernel) (pa_cons (pv 0) (pa_cons (pe_glob (v := .ref T.C_BadScheme) rfl T.g_BadScheme rfl) pa_nil))) pa_nil))))))
      (pss_cons (ps_set (i := 1) sc_law_hits.nd rfl (Or.inl rfl) (pe_op op_cat (pv 1) (pe_lst (pa_cons (pe_callB (call_isV K) (by rfl) T.z_isinstance (by decide +kernel) (pa_cons (pv 0) (pa_cons (pe_glob (v := .ref T.C_NotWithin) rfl T.g_NotWithin rfl) pa_nil))) (pa_cons (pe_callB (call_isV K) (by rfl) T.z_isinstance (by decide +kernel) (pa_cons (pv 0) (pa_cons (pe_glob (v := .ref T.C_BadLog) rfl T.g_BadLog rfl) pa_nil))) (pa_cons (pe_callB (call_isV K) (by rfl) T.z_isinstance (by decide +kernel) (pa_cons (pv 0) (pa_cons (pe_glob (v := .ref T.C_BadLane) rfl T.g_BadLane rfl) pa_nil))) pa_nil))))))
      (pss_cons (ps_set (i := 1) sc_law_hits.nd rfl (Or.inl rfl) (pe_op op_cat (pv 1) (pe_lst (pa_cons (pe_callB (call_isV K) (by rfl) T.z_isinstance (by decide +kernel) (pa_cons (pv 0) (pa_cons (pe_glob (v := .ref T.C_NothingToUndo) rfl T.g_NothingToUndo rfl) pa_nil))) (pa_cons (pe_callB (call_isV K) (by rfl) T.z_isinstance (by decide +kernel) (pa_cons (pv 0) (pa_cons (pe_glob (v := .ref T.C_BadCommand) rfl T.g_BadCommand rfl) pa_nil))) (pa_cons (pe_callB (call_isV K) (by rfl) T.z_isinstance (by decide +kernel) (pa_cons (pv 0) (pa_cons (pe_glob (v := .ref T.C_BadStep) rfl T.g_BadStep rfl) pa_nil))) pa_nil))))))
      (pss_one (ps_ret (pe_op op_cat (pv 1) (pe_lst (pa_cons (pe_callB (call_isV K) (by rfl) T.z_isinstance (by decide +kernel) (pa_cons (pv 0) (pa_cons (pe_glob (v := .ref T.C_BadText) rfl T.g_BadText rfl) pa_nil))) pa_nil)))))))))))), ?_⟩
    dsimp only [tSeq, tAsg, tLst, tCons, tCB, tC, tNil, tOp]
    refine ⟨_, rfl, isv_cls T (k := 0) hC rfl hd ⟨_, rfl, isv_cls T (k := 1) hC rfl hd ⟨_, rfl, isv_cls T (k := 2) hC rfl hd ⟨by show 3 ≤ sizeLine; decide, fun p0 hp0 => ?_⟩⟩⟩⟩
    have k0 := same_upd (o := .lst [.bl (decide (0 = w)), .bl (decide (1 = w)), .bl (decide (2 = w))]) hp0
    have e0 : (upd H p0 (.lst [.bl (decide (0 = w)), .bl (decide (1 = w)), .bl (decide (2 = w))])) p0 = some (.lst (hitsL w 3)) := upd_same
    generalize upd H p0 (.lst [.bl (decide (0 = w)), .bl (decide (1 = w)), .bl (decide (2 = w))]) = H0 at k0 e0 ⊢
    dsimp only [gName, tSeq, tAsg, tLst, tCons, tCB, tC, tNil, tOp, tRet]
    refine ⟨_, rfl, ⟨_, rfl, isv_cls T (k := 3) hC rfl (held_same hd k0) ⟨_, rfl, isv_cls T (k := 4) hC rfl (held_same hd k0) ⟨_, rfl, isv_cls T (k := 5) hC rfl (held_same hd k0) ⟨by show 3 ≤ sizeLine; decide, fun q0 hq0 => ⟨p0, q0, _, _, rfl, rfl, same_upd hq0 _ _ e0, upd_same, by rw [hits_len]; show 3 + 3 ≤ sizeLine; decide, fun p1 hp1 => ?_⟩⟩⟩⟩⟩⟩
    have k1 := k0.trans ((same_upd (o := .lst [.bl (decide (3 = w)), .bl (decide (4 = w)), .bl (decide (5 = w))]) hq0).trans (same_upd (o := .lst (hitsL w 3 ++ [.bl (decide (3 = w)), .bl (decide (4 = w)), .bl (decide (5 = w))])) hp1))
    have e1 : (upd (upd H0 q0 (.lst [.bl (decide (3 = w)), .bl (decide (4 = w)), .bl (decide (5 = w))])) p1 (.lst (hitsL w 3 ++ [.bl (decide (3 = w)), .bl (decide (4 = w)), .bl (decide (5 = w))]))) p1 = some (.lst (hitsL w 6)) := upd_same
    generalize upd (upd H0 q0 (.lst [.bl (decide (3 = w)), .bl (decide (4 = w)), .bl (decide (5 = w))])) p1 (.lst (hitsL w 3 ++ [.bl (decide (3 = w)), .bl (decide (4 = w)), .bl (decide (5 = w))])) = H1 at k1 e1 ⊢
    dsimp only [gName, tSeq, tAsg, tLst, tCons, tCB, tC, tNil, tOp, tRet]
    refine ⟨_, rfl, ⟨_, rfl, isv_cls T (k := 6) hC rfl (held_same hd k1) ⟨_, rfl, isv_cls T (k := 7) hC rfl (held_same hd k1) ⟨_, rfl, isv_cls T (k := 8) hC rfl (held_same hd k1) ⟨by show 3 ≤ sizeLine; decide, fun q1 hq1 => ⟨p1, q1, _, _, rfl, rfl, same_upd hq1 _ _ e1, upd_same, by rw [hits_len]; show 6 + 3 ≤ sizeLine; decide, fun p2 hp2 => ?_⟩⟩⟩⟩⟩⟩
    have k2 := k1.trans ((same_upd (o := .lst [.bl (decide (6 = w)), .bl (decide (7 = w)), .bl (decide (8 = w))]) hq1).trans (same_upd (o := .lst (hitsL w 6 ++ [.bl (decide (6 = w)), .bl (decide (7 = w)), .bl (decide (8 = w))])) hp2))
    have e2 : (upd (upd H1 q1 (.lst [.bl (decide (6 = w)), .bl (decide (7 = w)), .bl (decide (8 = w))])) p2 (.lst (hitsL w 6 ++ [.bl (decide (6 = w)), .bl (decide (7 = w)), .bl (decide (8 = w))]))) p2 = some (.lst (hitsL w 9)) := upd_same
    generalize upd (upd H1 q1 (.lst [.bl (decide (6 = w)), .bl (decide (7 = w)), .bl (decide (8 = w))])) p2 (.lst (hitsL w 6 ++ [.bl (decide (6 = w)), .bl (decide (7 = w)), .bl (decide (8 = w))])) = H2 at k2 e2 ⊢
    dsimp only [gName, tSeq, tAsg, tLst, tCons, tCB, tC, tNil, tOp, tRet]
    refine ⟨_, rfl, ⟨_, rfl, isv_cls T (k := 9) hC rfl (held_same hd k2) ⟨_, rfl, isv_cls T (k := 10) hC rfl (held_same hd k2) ⟨_, rfl, isv_cls T (k := 11) hC rfl (held_same hd k2) ⟨by show 3 ≤ sizeLine; decide, fun q2 hq2 => ⟨p2, q2, _, _, rfl, rfl, same_upd hq2 _ _ e2, upd_same, by rw [hits_len]; show 9 + 3 ≤ sizeLine; decide, fun p3 hp3 => ?_⟩⟩⟩⟩⟩⟩
    have k3 := k2.trans ((same_upd (o := .lst [.bl (decide (9 = w)), .bl (decide (10 = w)), .bl (decide (11 = w))]) hq2).trans (same_upd (o := .lst (hitsL w 9 ++ [.bl (decide (9 = w)), .bl (decide (10 = w)), .bl (decide (11 = w))])) hp3))
    have e3 : (upd (upd H2 q2 (.lst [.bl (decide (9 = w)), .bl (decide (10 = w)), .bl (decide (11 = w))])) p3 (.lst (hitsL w 9 ++ [.bl (decide (9 = w)), .bl (decide (10 = w)), .bl (decide (11 = w))]))) p3 = some (.lst (hitsL w 12)) := upd_same
    generalize upd (upd H2 q2 (.lst [.bl (decide (9 = w)), .bl (decide (10 = w)), .bl (decide (11 = w))])) p3 (.lst (hitsL w 9 ++ [.bl (decide (9 = w)), .bl (decide (10 = w)), .bl (decide (11 = w))])) = H3 at k3 e3 ⊢
    dsimp only [gName, tSeq, tAsg, tLst, tCons, tCB, tC, tNil, tOp, tRet]
    refine ⟨_, rfl, ⟨_, rfl, isv_cls T (k := 12) hC rfl (held_same hd k3) ⟨_, rfl, isv_cls T (k := 13) hC rfl (held_same hd k3) ⟨_, rfl, isv_cls T (k := 14) hC rfl (held_same hd k3) ⟨by show 3 ≤ sizeLine; decide, fun q3 hq3 => ⟨p3, q3, _, _, rfl, rfl, same_upd hq3 _ _ e3, upd_same, by rw [hits_len]; show 12 + 3 ≤ sizeLine; decide, fun p4 hp4 => ?_⟩⟩⟩⟩⟩⟩
    have k4 := k3.trans ((same_upd (o := .lst [.bl (decide (12 = w)), .bl (decide (13 = w)), .bl (decide (14 = w))]) hq3).trans (same_upd (o := .lst (hitsL w 12 ++ [.bl (decide (12 = w)), .bl (decide (13 = w)), .bl (decide (14 = w))])) hp4))
    have e4 : (upd (upd H3 q3 (.lst [.bl (decide (12 = w)), .bl (decide (13 = w)), .bl (decide (14 = w))])) p4 (.lst (hitsL w 12 ++ [.bl (decide (12 = w)), .bl (decide (13 = w)), .bl (decide (14 = w))]))) p4 = some (.lst (hitsL w 15)) := upd_same
    generalize upd (upd H3 q3 (.lst [.bl (decide (12 = w)), .bl (decide (13 = w)), .bl (decide (14 = w))])) p4 (.lst (hitsL w 12 ++ [.bl (decide (12 = w)), .bl (decide (13 = w)), .bl (decide (14 = w))])) = H4 at k4 e4 ⊢
    dsimp only [gName, tSeq, tAsg, tLst, tCons, tCB, tC, tNil, tOp, tRet]
    refine ⟨_, rfl, ⟨_, rfl, isv_cls T (k := 15) hC rfl (held_same hd k4) ⟨_, rfl, isv_cls T (k := 16) hC rfl (held_same hd k4) ⟨_, rfl, isv_cls T (k := 17) hC rfl (held_same hd k4) ⟨by show 3 ≤ sizeLine; decide, fun q4 hq4 => ⟨p4, q4, _, _, rfl, rfl, same_upd hq4 _ _ e4, upd_same, by rw [hits_len]; show 15 + 3 ≤ sizeLine; decide, fun p5 hp5 => ?_⟩⟩⟩⟩⟩⟩
    have k5 := k4.trans ((same_upd (o := .lst [.bl (decide (15 = w)), .bl (decide (16 = w)), .bl (decide (17 = w))]) hq4).trans (same_upd (o := .lst (hitsL w 15 ++ [.bl (decide (15 = w)), .bl (decide (16 = w)), .bl (decide (17 = w))])) hp5))
    have e5 : (upd (upd H4 q4 (.lst [.bl (decide (15 = w)), .bl (decide (16 = w)), .bl (decide (17 = w))])) p5 (.lst (hitsL w 15 ++ [.bl (decide (15 = w)), .bl (decide (16 = w)), .bl (decide (17 = w))]))) p5 = some (.lst (hitsL w 18)) := upd_same
    generalize upd (upd H4 q4 (.lst [.bl (decide (15 = w)), .bl (decide (16 = w)), .bl (decide (17 = w))])) p5 (.lst (hitsL w 15 ++ [.bl (decide (15 = w)), .bl (decide (16 = w)), .bl (decide (17 = w))])) = H5 at k5 e5 ⊢
    dsimp only [gName, tSeq, tAsg, tLst, tCons, tCB, tC, tNil, tOp, tRet]
    refine ⟨_, rfl, ⟨_, rfl, isv_cls T (k := 18) hC rfl (held_same hd k5) ⟨_, rfl, isv_cls T (k := 19) hC rfl (held_same hd k5) ⟨_, rfl, isv_cls T (k := 20) hC rfl (held_same hd k5) ⟨by show 3 ≤ sizeLine; decide, fun q5 hq5 => ⟨p5, q5, _, _, rfl, rfl, same_upd hq5 _ _ e5, upd_same, by rw [hits_len]; show 18 + 3 ≤ sizeLine; decide, fun p6 hp6 => ?_⟩⟩⟩⟩⟩⟩
    have k6 := k5.trans ((same_upd (o := .lst [.bl (decide (18 = w)), .bl (decide (19 = w)), .bl (decide (20 = w))]) hq5).trans (same_upd (o := .lst (hitsL w 18 ++ [.bl (decide (18 = w)), .bl (decide (19 = w)), .bl (decide (20 = w))])) hp6))
    have e6 : (upd (upd H5 q5 (.lst [.bl (decide (18 = w)), .bl (decide (19 = w)), .bl (decide (20 = w))])) p6 (.lst (hitsL w 18 ++ [.bl (decide (18 = w)), .bl (decide (19 = w)), .bl (decide (20 = w))]))) p6 = some (.lst (hitsL w 21)) := upd_same
    generalize upd (upd H5 q5 (.lst [.bl (decide (18 = w)), .bl (decide (19 = w)), .bl (decide (20 = w))])) p6 (.lst (hitsL w 18 ++ [.bl (decide (18 = w)), .bl (decide (19 = w)), .bl (decide (20 = w))])) = H6 at k6 e6 ⊢
    dsimp only [gName, tSeq, tAsg, tLst, tCons, tCB, tC, tNil, tOp, tRet]
    refine ⟨_, rfl, ⟨_, rfl, isv_cls T (k := 21) hC rfl (held_same hd k6) ⟨by show 1 ≤ sizeLine; decide, fun q6 hq6 => ⟨p6, q6, _, _, rfl, rfl, same_upd hq6 _ _ e6, upd_same, by rw [hits_len]; show 21 + 1 ≤ sizeLine; decide, fun p7 hp7 => ?_⟩⟩⟩⟩
    have k7 := k6.trans ((same_upd (o := .lst [.bl (decide (21 = w))]) hq6).trans (same_upd (o := .lst (hitsL w 21 ++ [.bl (decide (21 = w))])) hp7))
    have e7 : (upd (upd H6 q6 (.lst [.bl (decide (21 = w))])) p7 (.lst (hitsL w 21 ++ [.bl (decide (21 = w))]))) p7 = some (.lst (hitsL w 22)) := upd_same
    generalize upd (upd H6 q6 (.lst [.bl (decide (21 = w))])) p7 (.lst (hitsL w 21 ++ [.bl (decide (21 = w))])) = H7 at k7 e7 ⊢
    exact q _ _ k7 e7
end

section
variable {P : Program} {w : World} {K : PySem.W.Frag} {mg : Str → Option Value} {base : Heap}
def spLaw (K : PySem.W.Frag) : Sp := fun vs H Q _ => ∃ (a : Addr) (ns : List Int), vs = [.ref a] ∧ SqL K H a (ns.map V.int) ∧ ns.length ≤ 63 ∧ (∀ z ∈ ns, Builtin.Int.intBits z ≤ 1048576) ∧ ∀ H', Q (.bl true) H'
def bitsD (w : Nat) : List PyData := (List.range 22).map fun k => .bool (decide (k = w))
theorem bits_refl : ∀ w, w < 22 → PyData.eqv (.list (bitsD w)) (.list (bitsD w)) = true := by decide +kernel
theorem bits_shape (w : Nat) : SeqAt.shaped (.list (bitsD w)) = true := by rfl
theorem bits_dp {H : Hp} (w : Nat) : DpAll K H (hitsL w 22) (bitsD w) := by
  unfold hitsL bitsD
  generalize List.range 22 = l
  induction l with
  | nil => exact .nil
  | cons k r ih => exact .cons (.bl _) ih
theorem if_no {c : Bool} {A B : Prop} (h : c = false) (q : B) : if c = true then A else B := by
  subst h; exact q
theorem if_yes {c : Bool} {A B : Prop} (h : c = true) (q : A) : if c = true then A else B := by
  subst h; exact q
theorem cls_some (T : Txt K mg) {j : Nat} (h : j < 22) : ∃ C, (clsL T)[j]? = some C := ⟨_, List.getElem?_eq_getElem (show j < (clsL T).length from h)⟩
theorem pw9_6 {i : Nat} (h : i ≤ 6) : pw9 i ≤ 10 ^ 54 := by
  match i, h with
  | 0, _ => decide
  | 1, _ => decide
  | 2, _ => decide
  | 3, _ => decide
  | 4, _ => decide
  | 5, _ => decide
  | 6, _ => decide
theorem ok_law (T : Txt K mg) : FnOk P w K mg base CX0 4 T.a_law T.d_law ["_law_script"] (spLaw K) := by
  refine T.F_law.ok sc_law (fun vs H Q E h => ?_) (fun cdv A outer s₀ H vs Q E hr h => ?_)
  · obtain ⟨a, ns, rfl, _⟩ := h
    rfl
  · obtain ⟨x, ns, rfl, hS, hlen, hb, q⟩ := h
    refine ⟨_, (pss_cons (ps_set (i := 1) sc_law.nd rfl (Or.inl rfl) (pe_call (ok_law_source T) (hr.mono (by decide)) rfl T.g_law_source T.F_law_source.kp T.b_law_source .nil pass0 (pa_cons (pv 0) pa_nil)))
      (pss_cons (ps_set (i := 2) sc_law.nd rfl (Or.inr rfl) (pe_call (ok_law_draw T) (hr.mono (by decide)) rfl T.g_law_draw T.F_law_draw.kp T.b_law_draw .nil pass0 (pa_cons (pv 1) (pa_cons pe_int pa_nil))))
      (pss_cons (ps_set (i := 3) sc_law.nd rfl (Or.inl rfl) pe_int)
      (pss_cons (ps_for PassesOwn.never rfl (pi_range1 rfl T.z_range (pa_cons (pe_call (ok_law_draw T) (hr.mono (by decide)) rfl T.g_law_draw T.F_law_draw.kp T.b_law_draw .nil pass0 (pa_cons (pv 1) (pa_cons pe_int pa_nil))) pa_nil)) (pg_name (i := 4) sc_law.nd rfl (Or.inl rfl))
      (pss_one (ps_set (i := 3) sc_law.nd rfl (Or.inl rfl) (pe_op op_add (pe_op Lc.op_mulX (pv 3) (pe_op op_pow pe_int pe_int)) (pe_call (ok_law_draw T) (hr.mono (by decide)) rfl T.g_law_draw T.F_law_draw.kp T.b_law_draw .nil pass0 (pa_cons (pv 1) (pa_cons (pe_op op_pow pe_int pe_int) pa_nil)))))))
      (pss_cons (ps_set (i := 5) sc_law.nd rfl (Or.inl rfl) (pe_ix (ixL K) (pe_lst (pa_cons pe_str (pa_cons pe_str (pa_cons pe_str pa_nil)))) (pe_call (ok_law_draw T) (hr.mono (by decide)) rfl T.g_law_draw T.F_law_draw.kp T.b_law_draw .nil pass0 (pa_cons (pv 1) (pa_cons pe_int pa_nil))) (fun _ _ => rfl)))
      (pss_cons (ps_if (pt_cmpR op_lt (pv 2) pe_int (nomark _))
      (pss_one (ps_set (i := 6) sc_law.nd rfl (Or.inl rfl) (pe_call (ok_law_first T) (hr.mono (by decide)) rfl T.g_law_first T.F_law_first.kp T.b_law_first .nil pass0 (pa_cons (pv 2) (pa_cons (pv 5) pa_nil)))))
      (pss_one (ps_set (i := 6) sc_law.nd rfl (Or.inl rfl) (pe_call (ok_law_second T) (hr.mono (by decide)) rfl T.g_law_second T.F_law_second.kp T.b_law_second .nil pass0 (pa_cons (pv 2) (pa_cons (pv 5) (pa_cons (pv 3) pa_nil)))))))
      (pss_cons (ps_if (PW.pt (pw_or (pt_not (pt_val (pe_callB (call_isV K) (by rfl) T.z_isinstance (by decide +kernel) (pa_cons (pv 6) (pa_cons (pe_glob (v := .ref T.C_LaneError) rfl T.g_LaneError rfl) pa_nil))))) (pw_or1 (pt_not (pt_val (pe_callB (call_isV K) (by rfl) T.z_isinstance (by decide +kernel) (pa_cons (pv 6) (pa_cons (pe_bltn (v := .ty "ValueError") (by rfl) T.z_ValueError (by decide +kernel) rfl) pa_nil))))))))
      (pss_one (ps_ret pe_bl))
      pss_nil)
      (pss_cons (ps_if (pt_cmpR (op_neD hr.units) (pe_call (ok_law_hits T) (hr.mono (by decide)) rfl T.g_law_hits T.F_law_hits.kp T.b_law_hits .nil pass0 (pa_cons (pv 6) pa_nil)) (pe_lc (own := [("_law_k", 4)]) (g := gName 4) (tt := tYes) (by rfl) sc_law.nd (pi_range1 rfl T.z_range (pa_cons pe_int pa_nil)) (blkOk_by (own := [("_law_k", 4)]) (N := ["_law_script", "_law_source_here", "_law_which", "_law_number", "_law_k", "_law_text", "_law_made", "_law_step", "_law_row", "_law_other"]) (sc := defScope s_law) (by decide +kernel)) (fun _ _ _ _ _ => (pg_name (i := 4) sc_law.nd rfl (Or.inl rfl))) (fun _ _ _ _ _ => pts_nil) (fun _ _ _ _ _ => (pe_cmpR op_eq (pv 4) (pv 2) (nomark _)))) (nomark _))
      (pss_one (ps_ret pe_bl))
      pss_nil)
      (pss_cons (ps_set (i := 7) sc_law.nd rfl (Or.inl rfl) (pe_mkV T.ox_BadStep T.ic_BadStep T.ti_BadStep (ok_init_BadStep T) (hr.mono (by decide)) T.bb_init_BadStep pass0 (by rfl) T.g_BadStep (pa_cons (pv 3) pa_nil)))
      (pss_cons (ps_set (i := 8) sc_law.nd rfl (Or.inl rfl) (pe_mkV T.ox_BadText T.ic_BadText T.ti_BadText (ok_init_BadText T) (hr.mono (by decide)) T.bb_init_BadText pass0 (by rfl) T.g_BadText (pa_cons (pe_op op_add (pv 3) pe_int) pa_nil)))
      (pss_cons (ps_set (i := 9) sc_law.nd rfl (Or.inl rfl) (pe_mkV T.ox_BadStep T.ic_BadStep T.ti_BadStep (ok_init_BadStep T) (hr.mono (by decide)) T.bb_init_BadStep pass0 (by rfl) T.g_BadStep (pa_cons (pe_op op_add (pv 3) pe_int) pa_nil)))
      (pss_cons (ps_if (PW.pt (pw_or (pt_not (pt_val (pe_callB call_isi (by rfl) T.z_isinstance (by decide +kernel) (pa_cons (pe_xo (pv 7)) (pa_cons (pe_bltn (v := .ty "int") (by rfl) T.z_int (by decide +kernel) rfl) pa_nil))))) (pw_or1 (pt_not (pt_val (pe_callB call_isi (by rfl) T.z_isinstance (by decide +kernel) (pa_cons (pe_xo (pv 8)) (pa_cons (pe_bltn (v := .ty "int") (by rfl) T.z_int (by decide +kernel) rfl) pa_nil))))))))
      (pss_one (ps_ret pe_bl))
      pss_nil)
      (pss_cons (ps_if (PW.pt (pw_or (PW.pt (pw_and (pt_cmpR op_eq (pv 2) pe_int (nomark _)) (pw_and1 (pt_cmpR op_ne (pe_xo (pv 6)) (pv 3) (nomark _))))) (pw_or1 (PW.pt (pw_and (pt_cmpR op_eq (pv 2) pe_int (nomark _)) (pw_and1 (pt_cmpR op_ne (pe_xo (pv 6)) (pv 3) (nomark _))))))))
      (pss_one (ps_ret pe_bl))
      pss_nil)
      (pss_one (ps_ret (pe_and (pe_cmpR op_eq (pe_xo (pv 7)) (pv 3) (nomark _)) (pe_and (pe_cmpR op_eq (pe_xo (pv 8)) (pe_op op_add (pv 3) pe_int) (nomark _)) (pe_one (pe_cmpR op_eq (pe_xo (pv 9)) (pe_op op_add (pv 3) pe_int) (nomark _)))))))))))))))))))), ?_⟩
    refine ⟨.ref x, rfl, x, ns, rfl, hS, hlen, hb, fun p H1 hp S1 k1 => ?_⟩
    refine ⟨.ref p, rfl, p, 0, 22, rfl, S1, by decide, by decide, by decide, fun wy H2 w0 w1 S2 _ => ?_⟩
    refine ⟨.ref p, rfl, p, 1, 7, rfl, S2, by decide, by decide, by decide, fun m H3 m0 m1 S3 _ => ?_⟩
    refine ⟨m, rfl, by omega, by omega, for_range (n := m.toNat) (fun i σ' H' => ∃ (t : Int) (c : Option V), σ' = [some (.ref x), some (.ref p), some (.int wy), some (.int t), c, none, none, none, none, none] ∧ 0 ≤ t ∧ t < pw9 i ∧ Src H' p (2 + i)) ⟨0, none, rfl, by decide, by decide, S3⟩ ?_ ?_⟩
    · rintro i σ' H' hi ⟨t, c, rfl, t0, t1, S'⟩
      have hp := pw9_le (show i ≤ 5 by omega)
      have ft : Few t := few_le (b := 10 ^ 60) t0 (by omega) (by decide)
      refine ⟨.int t, rfl, 10, 9, rfl, rfl, ⟨by decide, by decide, by decide⟩, t, _, rfl, rfl, mulX ft (few_of (by decide)), .ref p, rfl, 10, 9, rfl, rfl, ⟨by decide, by decide, by decide⟩, p, 2 + i, _, rfl, S', by omega, by decide, by decide, fun d H2 d0 d1 S2 B2 => ?_⟩
      have d1' : d < 1000000000 := d1
      refine ⟨_, d, rfl, rfl, t * 10 ^ (9 : Int).toNat + d, _, rfl, ?_, ?_, S2⟩
      · have : t * 10 ^ (9 : Int).toNat = t * 1000000000 := rfl
        omega
      · have e : t * 10 ^ (9 : Int).toNat = t * 1000000000 := rfl
        have e2 : pw9 (i + 1) = pw9 i * 1000000000 := rfl
        omega
    · rintro σ' H4 ⟨t, c, rfl, t0, t1, S4⟩
      have tb : t.natAbs < 2 ^ 200 := by
        have z := pw9_6 (show m.toNat ≤ 6 by omega)
        have z2 : t < 10 ^ 54 := by omega
        have z3 : (10 : Int) ^ 54 < 2 ^ 200 := by decide
        omega
      have tl : ∀ j : Int, 0 ≤ j → j ≤ 2 → (t + j).natAbs.log2 < 1920 := fun j h0 h1 => by
        have z := PySem.Flt.log2_lt_of (n := (t + j).natAbs) (k := 240) (by omega) (by have : (2 : Nat) ^ 200 + 2 < 2 ^ 240 := by decide
                                                                                       omega)
        omega
      have tl0 : t.natAbs.log2 < 1920 := by
        have z := tl 0 (by decide) (by decide)
        rw [Int.add_zero] at z; exact z
      refine ⟨(by show 3 ≤ sizeLine; decide), fun l hl => ⟨.ref p, rfl, p, _, 3, rfl, S4.same (same_upd hl), by omega, by decide, by decide, fun d H5 d0 d1 S5 B5 => ?_⟩⟩
      have el : H5 l = some (.lst [.str "", .str "no", .str "a text"]) := B5 _ _ (src_ne S4 hl) upd_same
      obtain ⟨tx, etx⟩ : ∃ tx : Str, atI [V.str "", V.str "no", V.str "a text"] d = some (.str tx) := by
        rw [atI_three d0 d1]
        split
        · exact ⟨_, rfl⟩
        · split
          · exact ⟨_, rfl⟩
          · exact ⟨_, rfl⟩
      refine ⟨l, _, d, _, rfl, rfl, SqL.of el, etx, ?_⟩
      obtain ⟨wn, ew⟩ : ∃ s : Nat, (s : Int) = wy := ⟨wy.toNat, Int.toNat_of_nonneg w0⟩
      have wl : wn < 22 := by omega
      obtain ⟨C, hC⟩ := cls_some T wl
      have hC' : (clsL T)[wy.toNat]? = some C := by rw [← ew]; exact hC
      try dsimp only [gName]
      refine if_cut (fun σ' H' => ∃ (e : Addr) (o : Option (Str × Int)), σ' = [some (.ref x), some (.ref p), some (.int wy), some (.int t), c, some (.str tx), some (.ref e), none, none, none] ∧ Held H' e C o ∧ OkO wy t o) ?_ (fun K1 => ?_)
      rotate_left
      · refine ⟨_, rfl, _, _, rfl, rfl, _, rfl, ite2 (fun e => ?_) (fun e => ?_)⟩
        · have e1 : wy < 10 := of_decide_eq_true e
          refine ⟨_, rfl, _, rfl, wy, tx, rfl, w0, e1, fun a C' H' h' _ hd => K1 _ _ ⟨a, none, rfl, ?_, ?_⟩⟩
          · rw [hC'] at h'; cases h'; exact hd
          · exact ⟨fun _ => rfl, fun z => by omega, fun z => by omega⟩
        · have e1 : ¬ wy < 10 := fun z => e (decide_eq_true z)
          refine ⟨_, rfl, _, rfl, _, rfl, wy, t, tx, rfl, tl0, by omega, w1, fun a C' H' o h' _ hd ho => K1 _ _ ⟨a, o, rfl, ?_, ho⟩⟩
          rw [hC'] at h'; cases h'; exact hd
      rintro σ' H6 ⟨e, o, rfl, hd, ho⟩
      dsimp only [tSeq, tIfS, tOr, tNot, tB, tCB, tCons, tC, tNil]
      refine ⟨_, rfl, isv_lane T hC hd ⟨_, rfl, ?_⟩⟩
      refine iteF ⟨_, rfl, isv_ve T hC hd ⟨_, rfl, iteF ?_⟩⟩
      try dsimp only [tSeq, tIfS, tTest, tOp, tCall]
      refine ⟨_, rfl, e, C, o, wn, rfl, hC, hd, fun r H7 k7 er => ?_⟩
      refine ⟨22, rfl, by decide, by decide, fun D hD => ?_⟩
      refine lc_range (lo := 0) (n := 22) (fun i H' => Same H7 H' ∧ H' D = some (.lst (hitsL wn i))) ⟨same_upd hD, upd_same⟩ ?_ ?_
      · rintro i H' hi ⟨k, ed⟩
        refine ⟨rfl, _, rfl, _, rfl, rfl, _, ed, ?_, fun c o ho => ?_, ?_⟩
        · rw [hits_len]
          exact Nat.lt_of_lt_of_le hi (by decide)
        · rw [upd_ne (ne_of_none ho hD)]; exact k c o ho
        · rw [upd_same]
          have e1 : decide (V.int (0 + (i : Nat)) = V.int wy) = decide (i = wn) := by
            rw [← ew]
            refine decide_eq_decide.mpr ⟨fun z => ?_, fun z => ?_⟩
            · have z2 := V.int.inj z
              omega
            · rw [z]; congr 1; omega
          rw [e1]
          unfold hitsL
          rw [List.range_succ, List.map_append]; rfl
      rintro H8 ⟨k8, ed⟩
      refine ⟨.list (bitsD wn), .list (bitsD wn), .lst (SqL.of (k8 _ _ er)) (bits_dp wn), .lst (SqL.of ed) (bits_dp wn), bits_shape wn, bits_shape wn, ?_⟩
      rw [bits_refl wn wl]
      refine ⟨_, rfl, iteF ?_⟩
      have hd8 := held_same hd (k7.trans k8)
      refine ⟨_, rfl, (by show 1 ≤ 1000; decide), fun s1 hs1 => ⟨s1, _, t, rfl, tl0, upd_same, T.ox_BadStep, T.no_BadStep, fun d1 hd1 n1 => ⟨rfl, ?_⟩⟩⟩
      have kA := (held_new (C := T.C_BadStep) (f := ("place" : Str)) (n := t) hs1 hd1 n1).1
      have hA := (held_new (C := T.C_BadStep) (f := ("place" : Str)) (n := t) hs1 hd1 n1).2
      refine ⟨_, rfl, _, _, rfl, rfl, (by show 1 ≤ 1000; decide), fun s2 hs2 => ⟨s2, _, t + 1, rfl, tl 1 (by decide) (by decide), upd_same, T.ox_BadText, T.no_BadText, fun d2 hd2 n2 => ⟨rfl, ?_⟩⟩⟩
      have kB := (held_new (C := T.C_BadText) (f := ("line" : Str)) (n := t + 1) hs2 hd2 n2).1
      have hB := (held_new (C := T.C_BadText) (f := ("line" : Str)) (n := t + 1) hs2 hd2 n2).2
      refine ⟨_, rfl, _, _, rfl, rfl, (by show 1 ≤ 1000; decide), fun s3 hs3 => ⟨s3, _, t + 2, rfl, tl 2 (by decide) (by decide), upd_same, T.ox_BadStep, T.no_BadStep, fun d3 hd3 n3 => ⟨rfl, ?_⟩⟩⟩
      have kC := (held_new (C := T.C_BadStep) (f := ("place" : Str)) (n := t + 2) hs3 hd3 n3).1
      have hC3 := (held_new (C := T.C_BadStep) (f := ("place" : Str)) (n := t + 2) hs3 hd3 n3).2
      have hA' := held_same (held_same hA kB) kC
      have hB' := held_same hB kC
      have hd' := held_same (held_same (held_same hd8 kA) kB) kC
      obtain ⟨x1, a1, a2⟩ := hA'
      obtain ⟨x2, b1, b2⟩ := hB'
      obtain ⟨x3, c1, c2⟩ := hC3
      have lk1 : ∀ n : Int, List.lookup ("place" : Str) [(("place" : Str), V.int n)] = some (V.int n) := fun n => by simp [List.lookup]
      have lk2 : ∀ n : Int, List.lookup ("line" : Str) [(("line" : Str), V.int n)] = some (V.int n) := fun n => by simp [List.lookup]
      refine ⟨_, rfl, s1, _, x1, _, .int t, rfl, T.xf_BadStep, T.no_BadStep, a1, a2, lk1 t, .int t, _, _, _, _, rfl, .ty _, (Arg.int (K := K) t).ty, (Arg.int (H := H) t).int?, ⟨_, rfl, iteF ?_⟩⟩
      refine ⟨_, rfl, s2, _, x2, _, .int (t + 1), rfl, T.xf_BadText, T.no_BadText, b1, b2, lk2 (t + 1), .int (t + 1), _, _, _, _, rfl, .ty _, (Arg.int (K := K) (t + 1)).ty, (Arg.int (H := H) (t + 1)).int?, ⟨_, rfl, iteF ?_⟩⟩
      dsimp only [tNext, gName]
      refine if_cut (fun σ' H' => σ' = [some (.ref x), some (.ref p), some (.int wy), some (.int t), c, some (.str tx), some (.ref e), some (.ref s1), some (.ref s2), some (.ref s3)] ∧
        (H' s1 = some (exo s1 T.C_BadStep (some x1)) ∧ H' x1 = some (exd x1 [(("place" : Str), .int t)])) ∧ (H' s2 = some (exo s2 T.C_BadText (some x2)) ∧ H' x2 = some (exd x2 [(("line" : Str), .int (t + 1))])) ∧
        (H' s3 = some (exo s3 T.C_BadStep (some x3)) ∧ H' x3 = some (exd x3 [(("place" : Str), .int (t + 2))]))) ?_ (fun K1 => ?_)
      rotate_left
      · have kk := K1 _ _ ⟨rfl, ⟨a1, a2⟩, ⟨b1, b2⟩, c1, c2⟩
        have second : ¬ wy = 20 ∨ True := .inr trivial
        refine ⟨_, rfl, rfl, _, rfl, ite2 (fun e1 => ?_) (fun e1 => ?_)⟩
        · have e2 : wy = 20 := V.int.inj (of_decide_eq_true e1)
          have e3 : wn = 20 := by omega
          subst e3
          have e4 : T.C_BadStep = C := Option.some.inj hC
          have e5 := ho.2.1 e2
          subst e5
          obtain ⟨de, g1, g2⟩ := hd'
          refine ⟨_, rfl, e, C, de, _, .int t, rfl, e4 ▸ T.xf_BadStep, e4 ▸ T.no_BadStep, g1, g2, lk1 t, _, rfl, rfl, _, rfl, ?_⟩
          refine if_no (by simp) ?_
          refine ⟨_, rfl, rfl, _, rfl, ite2 (fun e6 => ?_) (fun e6 => ?_)⟩
          · have e7 : wy = 21 := V.int.inj (of_decide_eq_true e6)
            omega
          · exact kk
        · refine ⟨_, rfl, rfl, _, rfl, ite2 (fun e6 => ?_) (fun e6 => ?_)⟩
          · have e2 : wy = 21 := V.int.inj (of_decide_eq_true e6)
            have e3 : wn = 21 := by omega
            subst e3
            have e4 : T.C_BadText = C := Option.some.inj hC
            have e5 := ho.2.2 e2
            subst e5
            obtain ⟨de, g1, g2⟩ := hd'
            refine ⟨_, rfl, e, C, de, _, .int t, rfl, e4 ▸ T.xf_BadText, e4 ▸ T.no_BadText, g1, g2, lk2 t, _, rfl, rfl, _, rfl, ?_⟩
            refine if_no (by simp) ?_
            exact kk
          · exact kk
      rintro σ' H9 ⟨rfl, ⟨a1, a2⟩, ⟨b1, b2⟩, c1, c2⟩
      refine ⟨_, rfl, s1, _, x1, _, .int t, rfl, T.xf_BadStep, T.no_BadStep, a1, a2, lk1 t, _, rfl, rfl, _, rfl, ?_⟩
      refine if_yes (by simp) ?_
      refine ⟨_, rfl, s2, _, x2, _, .int (t + 1), rfl, T.xf_BadText, T.no_BadText, b1, b2, lk2 (t + 1), _, rfl, _, _, rfl, rfl, rfl, _, rfl, ?_⟩
      refine if_yes (by simp) ?_
      refine ⟨_, rfl, s3, _, x3, _, .int (t + 2), rfl, T.xf_BadStep, T.no_BadStep, c1, c2, lk1 (t + 2), _, rfl, _, _, rfl, rfl, rfl, ?_⟩
      exact ends_true q (by simp)
end

theorem all_mk {P : Program} {w : World} {K : PySem.W.Frag} {h : Heap} {mg : Str → Option Value} {fa f_law_source f_law_draw f_law_first f_law_second f_law_hits C_LaneError C_BadKind C_BadCount C_BadMark C_BadSize C_BadCounts C_BadHouse C_BadCase C_BadStep C_BadQuestion C_BadKey C_BadPair C_BadRenaming C_BadSpot C_TooMany C_NotEnough C_BadScheme C_NotWithin C_BadLog C_BadLane C_NothingToUndo C_BadText C_BadCommand : Addr}
    (X : K.In h) (G : h.Ns mainGlobals mg) (hfa : mg "law" = some (.ref fa))
    {oc_law_source kV_law_source dc_law_source pm_law_source cd_law_source ct_law_source : Value} {od_law_source an_law_source : Option Addr} {sl_law_source : Array (Option Value)}
    (a_law_source : PySem.W.nsIn K mainGlobals "_law_source" = some (some (.ref f_law_source)))
    (l_law_source : K.lookup f_law_source = some ⟨oc_law_source, od_law_source, .func (PySem.W.fnOf "_law_source" "_law_source" (defArgs s_law_source) (defBody s_law_source) (defScope s_law_source) .none kV_law_source dc_law_source pm_law_source an_law_source cd_law_source ct_law_source), sl_law_source⟩)
    (c_law_source : PySem.W.codeIn K cd_law_source "_law_source" = true) (k_law_source : PySem.W.keepIn K (.ref f_law_source) = true)
    {oc_law_draw kV_law_draw dc_law_draw pm_law_draw cd_law_draw ct_law_draw : Value} {od_law_draw an_law_draw : Option Addr} {sl_law_draw : Array (Option Value)}
    (a_law_draw : PySem.W.nsIn K mainGlobals "_law_draw" = some (some (.ref f_law_draw)))
    (l_law_draw : K.lookup f_law_draw = some ⟨oc_law_draw, od_law_draw, .func (PySem.W.fnOf "_law_draw" "_law_draw" (defArgs s_law_draw) (defBody s_law_draw) (defScope s_law_draw) .none kV_law_draw dc_law_draw pm_law_draw an_law_draw cd_law_draw ct_law_draw), sl_law_draw⟩)
    (c_law_draw : PySem.W.codeIn K cd_law_draw "_law_draw" = true) (k_law_draw : PySem.W.keepIn K (.ref f_law_draw) = true)
    {oc_law_first kV_law_first dc_law_first pm_law_first cd_law_first ct_law_first : Value} {od_law_first an_law_first : Option Addr} {sl_law_first : Array (Option Value)}
    (a_law_first : PySem.W.nsIn K mainGlobals "_law_first" = some (some (.ref f_law_first)))
    (l_law_first : K.lookup f_law_first = some ⟨oc_law_first, od_law_first, .func (PySem.W.fnOf "_law_first" "_law_first" (defArgs s_law_first) (defBody s_law_first) (defScope s_law_first) .none kV_law_first dc_law_first pm_law_first an_law_first cd_law_first ct_law_first), sl_law_first⟩)
    (c_law_first : PySem.W.codeIn K cd_law_first "_law_first" = true) (k_law_first : PySem.W.keepIn K (.ref f_law_first) = true)
    {oc_law_second kV_law_second dc_law_second pm_law_second cd_law_second ct_law_second : Value} {od_law_second an_law_second : Option Addr} {sl_law_second : Array (Option Value)}
    (a_law_second : PySem.W.nsIn K mainGlobals "_law_second" = some (some (.ref f_law_second)))
    (l_law_second : K.lookup f_law_second = some ⟨oc_law_second, od_law_second, .func (PySem.W.fnOf "_law_second" "_law_second" (defArgs s_law_second) (defBody s_law_second) (defScope s_law_second) .none kV_law_second dc_law_second pm_law_second an_law_second cd_law_second ct_law_second), sl_law_second⟩)
    (c_law_second : PySem.W.codeIn K cd_law_second "_law_second" = true) (k_law_second : PySem.W.keepIn K (.ref f_law_second) = true)
    {oc_law_hits kV_law_hits dc_law_hits pm_law_hits cd_law_hits ct_law_hits : Value} {od_law_hits an_law_hits : Option Addr} {sl_law_hits : Array (Option Value)}
    (a_law_hits : PySem.W.nsIn K mainGlobals "_law_hits" = some (some (.ref f_law_hits)))
    (l_law_hits : K.lookup f_law_hits = some ⟨oc_law_hits, od_law_hits, .func (PySem.W.fnOf "_law_hits" "_law_hits" (defArgs s_law_hits) (defBody s_law_hits) (defScope s_law_hits) .none kV_law_hits dc_law_hits pm_law_hits an_law_hits cd_law_hits ct_law_hits), sl_law_hits⟩)
    (c_law_hits : PySem.W.codeIn K cd_law_hits "_law_hits" = true) (k_law_hits : PySem.W.keepIn K (.ref f_law_hits) = true)
    {f_law : Addr}
    {oc_law kV_law dc_law pm_law cd_law ct_law : Value} {od_law an_law : Option Addr} {sl_law : Array (Option Value)}
    (a_law : PySem.W.nsIn K mainGlobals "law" = some (some (.ref f_law)))
    (l_law : K.lookup f_law = some ⟨oc_law, od_law, .func (PySem.W.fnOf "law" "law" (defArgs s_law) (defBody s_law) (defScope s_law) .none kV_law dc_law pm_law an_law cd_law ct_law), sl_law⟩)
    (c_law : PySem.W.codeIn K cd_law "law" = true) (k_law : PySem.W.keepIn K (.ref f_law) = true)
    (z_ValueError : PySem.W.nsIn K mainGlobals "ValueError" = some none)
    (z_int : PySem.W.nsIn K mainGlobals "int" = some none)
    (z_isinstance : PySem.W.nsIn K mainGlobals "isinstance" = some none)
    (z_list : PySem.W.nsIn K mainGlobals "list" = some none)
    (z_range : PySem.W.nsIn K mainGlobals "range" = some none)
    (ag_LaneError : PySem.W.nsIn K mainGlobals "LaneError" = some (some (.ref C_LaneError)))
    (ax_LaneError : PySem.W.excIn K C_LaneError [.type "ValueError", .type "Exception", .type "BaseException", .type "object"] "ValueError.__new__" = true)
    (ak_LaneError : PySem.W.keepIn K (.ref C_LaneError) = true) (ap_LaneError : PySem.W.subIn K (.ref C_LaneError) (.type "BaseException") = some true) (at_LaneError : PySem.W.typeIn K (.ref C_LaneError) = some (.type "type")) (ai_LaneError : PySem.W.isClsIn K C_LaneError = true)
    (ag_BadKind : PySem.W.nsIn K mainGlobals "BadKind" = some (some (.ref C_BadKind)))
    (ax_BadKind : PySem.W.excIn K C_BadKind [.type "ValueError", .type "Exception", .type "BaseException", .type "object"] "ValueError.__new__" = true)
    (ak_BadKind : PySem.W.keepIn K (.ref C_BadKind) = true) (ap_BadKind : PySem.W.subIn K (.ref C_BadKind) (.type "BaseException") = some true) (at_BadKind : PySem.W.typeIn K (.ref C_BadKind) = some (.type "type")) (ai_BadKind : PySem.W.isClsIn K C_BadKind = true)
    (ag_BadCount : PySem.W.nsIn K mainGlobals "BadCount" = some (some (.ref C_BadCount)))
    (ax_BadCount : PySem.W.excIn K C_BadCount [.type "ValueError", .type "Exception", .type "BaseException", .type "object"] "ValueError.__new__" = true)
    (ak_BadCount : PySem.W.keepIn K (.ref C_BadCount) = true) (ap_BadCount : PySem.W.subIn K (.ref C_BadCount) (.type "BaseException") = some true) (at_BadCount : PySem.W.typeIn K (.ref C_BadCount) = some (.type "type")) (ai_BadCount : PySem.W.isClsIn K C_BadCount = true)
    (ag_BadMark : PySem.W.nsIn K mainGlobals "BadMark" = some (some (.ref C_BadMark)))
    (ax_BadMark : PySem.W.excIn K C_BadMark [.type "ValueError", .type "Exception", .type "BaseException", .type "object"] "ValueError.__new__" = true)
    (ak_BadMark : PySem.W.keepIn K (.ref C_BadMark) = true) (ap_BadMark : PySem.W.subIn K (.ref C_BadMark) (.type "BaseException") = some true) (at_BadMark : PySem.W.typeIn K (.ref C_BadMark) = some (.type "type")) (ai_BadMark : PySem.W.isClsIn K C_BadMark = true)
    (ag_BadSize : PySem.W.nsIn K mainGlobals "BadSize" = some (some (.ref C_BadSize)))
    (ax_BadSize : PySem.W.excIn K C_BadSize [.type "ValueError", .type "Exception", .type "BaseException", .type "object"] "ValueError.__new__" = true)
    (ak_BadSize : PySem.W.keepIn K (.ref C_BadSize) = true) (ap_BadSize : PySem.W.subIn K (.ref C_BadSize) (.type "BaseException") = some true) (at_BadSize : PySem.W.typeIn K (.ref C_BadSize) = some (.type "type")) (ai_BadSize : PySem.W.isClsIn K C_BadSize = true)
    (ag_BadCounts : PySem.W.nsIn K mainGlobals "BadCounts" = some (some (.ref C_BadCounts)))
    (ax_BadCounts : PySem.W.excIn K C_BadCounts [.type "ValueError", .type "Exception", .type "BaseException", .type "object"] "ValueError.__new__" = true)
    (ak_BadCounts : PySem.W.keepIn K (.ref C_BadCounts) = true) (ap_BadCounts : PySem.W.subIn K (.ref C_BadCounts) (.type "BaseException") = some true) (at_BadCounts : PySem.W.typeIn K (.ref C_BadCounts) = some (.type "type")) (ai_BadCounts : PySem.W.isClsIn K C_BadCounts = true)
    (ag_BadHouse : PySem.W.nsIn K mainGlobals "BadHouse" = some (some (.ref C_BadHouse)))
    (ax_BadHouse : PySem.W.excIn K C_BadHouse [.type "ValueError", .type "Exception", .type "BaseException", .type "object"] "ValueError.__new__" = true)
    (ak_BadHouse : PySem.W.keepIn K (.ref C_BadHouse) = true) (ap_BadHouse : PySem.W.subIn K (.ref C_BadHouse) (.type "BaseException") = some true) (at_BadHouse : PySem.W.typeIn K (.ref C_BadHouse) = some (.type "type")) (ai_BadHouse : PySem.W.isClsIn K C_BadHouse = true)
    (ag_BadCase : PySem.W.nsIn K mainGlobals "BadCase" = some (some (.ref C_BadCase)))
    (ax_BadCase : PySem.W.excIn K C_BadCase [.type "ValueError", .type "Exception", .type "BaseException", .type "object"] "ValueError.__new__" = true)
    (ak_BadCase : PySem.W.keepIn K (.ref C_BadCase) = true) (ap_BadCase : PySem.W.subIn K (.ref C_BadCase) (.type "BaseException") = some true) (at_BadCase : PySem.W.typeIn K (.ref C_BadCase) = some (.type "type")) (ai_BadCase : PySem.W.isClsIn K C_BadCase = true)
    (ag_BadStep : PySem.W.nsIn K mainGlobals "BadStep" = some (some (.ref C_BadStep)))
    (ak_BadStep : PySem.W.keepIn K (.ref C_BadStep) = true) (ap_BadStep : PySem.W.subIn K (.ref C_BadStep) (.type "BaseException") = some true) (at_BadStep : PySem.W.typeIn K (.ref C_BadStep) = some (.type "type")) (ai_BadStep : PySem.W.isClsIn K C_BadStep = true)
    (ag_BadQuestion : PySem.W.nsIn K mainGlobals "BadQuestion" = some (some (.ref C_BadQuestion)))
    (ax_BadQuestion : PySem.W.excIn K C_BadQuestion [.type "ValueError", .type "Exception", .type "BaseException", .type "object"] "ValueError.__new__" = true)
    (ak_BadQuestion : PySem.W.keepIn K (.ref C_BadQuestion) = true) (ap_BadQuestion : PySem.W.subIn K (.ref C_BadQuestion) (.type "BaseException") = some true) (at_BadQuestion : PySem.W.typeIn K (.ref C_BadQuestion) = some (.type "type")) (ai_BadQuestion : PySem.W.isClsIn K C_BadQuestion = true)
    (ag_BadKey : PySem.W.nsIn K mainGlobals "BadKey" = some (some (.ref C_BadKey)))
    (ax_BadKey : PySem.W.excIn K C_BadKey [.type "ValueError", .type "Exception", .type "BaseException", .type "object"] "ValueError.__new__" = true)
    (ak_BadKey : PySem.W.keepIn K (.ref C_BadKey) = true) (ap_BadKey : PySem.W.subIn K (.ref C_BadKey) (.type "BaseException") = some true) (at_BadKey : PySem.W.typeIn K (.ref C_BadKey) = some (.type "type")) (ai_BadKey : PySem.W.isClsIn K C_BadKey = true)
    (ag_BadPair : PySem.W.nsIn K mainGlobals "BadPair" = some (some (.ref C_BadPair)))
    (ax_BadPair : PySem.W.excIn K C_BadPair [.type "ValueError", .type "Exception", .type "BaseException", .type "object"] "ValueError.__new__" = true)
    (ak_BadPair : PySem.W.keepIn K (.ref C_BadPair) = true) (ap_BadPair : PySem.W.subIn K (.ref C_BadPair) (.type "BaseException") = some true) (at_BadPair : PySem.W.typeIn K (.ref C_BadPair) = some (.type "type")) (ai_BadPair : PySem.W.isClsIn K C_BadPair = true)
    (ag_BadRenaming : PySem.W.nsIn K mainGlobals "BadRenaming" = some (some (.ref C_BadRenaming)))
    (ax_BadRenaming : PySem.W.excIn K C_BadRenaming [.type "ValueError", .type "Exception", .type "BaseException", .type "object"] "ValueError.__new__" = true)
    (ak_BadRenaming : PySem.W.keepIn K (.ref C_BadRenaming) = true) (ap_BadRenaming : PySem.W.subIn K (.ref C_BadRenaming) (.type "BaseException") = some true) (at_BadRenaming : PySem.W.typeIn K (.ref C_BadRenaming) = some (.type "type")) (ai_BadRenaming : PySem.W.isClsIn K C_BadRenaming = true)
    (ag_BadSpot : PySem.W.nsIn K mainGlobals "BadSpot" = some (some (.ref C_BadSpot)))
    (ax_BadSpot : PySem.W.excIn K C_BadSpot [.type "ValueError", .type "Exception", .type "BaseException", .type "object"] "ValueError.__new__" = true)
    (ak_BadSpot : PySem.W.keepIn K (.ref C_BadSpot) = true) (ap_BadSpot : PySem.W.subIn K (.ref C_BadSpot) (.type "BaseException") = some true) (at_BadSpot : PySem.W.typeIn K (.ref C_BadSpot) = some (.type "type")) (ai_BadSpot : PySem.W.isClsIn K C_BadSpot = true)
    (ag_TooMany : PySem.W.nsIn K mainGlobals "TooMany" = some (some (.ref C_TooMany)))
    (ax_TooMany : PySem.W.excIn K C_TooMany [.type "ValueError", .type "Exception", .type "BaseException", .type "object"] "ValueError.__new__" = true)
    (ak_TooMany : PySem.W.keepIn K (.ref C_TooMany) = true) (ap_TooMany : PySem.W.subIn K (.ref C_TooMany) (.type "BaseException") = some true) (at_TooMany : PySem.W.typeIn K (.ref C_TooMany) = some (.type "type")) (ai_TooMany : PySem.W.isClsIn K C_TooMany = true)
    (ag_NotEnough : PySem.W.nsIn K mainGlobals "NotEnough" = some (some (.ref C_NotEnough)))
    (ax_NotEnough : PySem.W.excIn K C_NotEnough [.type "ValueError", .type "Exception", .type "BaseException", .type "object"] "ValueError.__new__" = true)
    (ak_NotEnough : PySem.W.keepIn K (.ref C_NotEnough) = true) (ap_NotEnough : PySem.W.subIn K (.ref C_NotEnough) (.type "BaseException") = some true) (at_NotEnough : PySem.W.typeIn K (.ref C_NotEnough) = some (.type "type")) (ai_NotEnough : PySem.W.isClsIn K C_NotEnough = true)
    (ag_BadScheme : PySem.W.nsIn K mainGlobals "BadScheme" = some (some (.ref C_BadScheme)))
    (ax_BadScheme : PySem.W.excIn K C_BadScheme [.type "ValueError", .type "Exception", .type "BaseException", .type "object"] "ValueError.__new__" = true)
    (ak_BadScheme : PySem.W.keepIn K (.ref C_BadScheme) = true) (ap_BadScheme : PySem.W.subIn K (.ref C_BadScheme) (.type "BaseException") = some true) (at_BadScheme : PySem.W.typeIn K (.ref C_BadScheme) = some (.type "type")) (ai_BadScheme : PySem.W.isClsIn K C_BadScheme = true)
    (ag_NotWithin : PySem.W.nsIn K mainGlobals "NotWithin" = some (some (.ref C_NotWithin)))
    (ax_NotWithin : PySem.W.excIn K C_NotWithin [.type "ValueError", .type "Exception", .type "BaseException", .type "object"] "ValueError.__new__" = true)
    (ak_NotWithin : PySem.W.keepIn K (.ref C_NotWithin) = true) (ap_NotWithin : PySem.W.subIn K (.ref C_NotWithin) (.type "BaseException") = some true) (at_NotWithin : PySem.W.typeIn K (.ref C_NotWithin) = some (.type "type")) (ai_NotWithin : PySem.W.isClsIn K C_NotWithin = true)
    (ag_BadLog : PySem.W.nsIn K mainGlobals "BadLog" = some (some (.ref C_BadLog)))
    (ax_BadLog : PySem.W.excIn K C_BadLog [.type "ValueError", .type "Exception", .type "BaseException", .type "object"] "ValueError.__new__" = true)
    (ak_BadLog : PySem.W.keepIn K (.ref C_BadLog) = true) (ap_BadLog : PySem.W.subIn K (.ref C_BadLog) (.type "BaseException") = some true) (at_BadLog : PySem.W.typeIn K (.ref C_BadLog) = some (.type "type")) (ai_BadLog : PySem.W.isClsIn K C_BadLog = true)
    (ag_BadLane : PySem.W.nsIn K mainGlobals "BadLane" = some (some (.ref C_BadLane)))
    (ax_BadLane : PySem.W.excIn K C_BadLane [.type "ValueError", .type "Exception", .type "BaseException", .type "object"] "ValueError.__new__" = true)
    (ak_BadLane : PySem.W.keepIn K (.ref C_BadLane) = true) (ap_BadLane : PySem.W.subIn K (.ref C_BadLane) (.type "BaseException") = some true) (at_BadLane : PySem.W.typeIn K (.ref C_BadLane) = some (.type "type")) (ai_BadLane : PySem.W.isClsIn K C_BadLane = true)
    (ag_NothingToUndo : PySem.W.nsIn K mainGlobals "NothingToUndo" = some (some (.ref C_NothingToUndo)))
    (ax_NothingToUndo : PySem.W.excIn K C_NothingToUndo [.type "ValueError", .type "Exception", .type "BaseException", .type "object"] "ValueError.__new__" = true)
    (ak_NothingToUndo : PySem.W.keepIn K (.ref C_NothingToUndo) = true) (ap_NothingToUndo : PySem.W.subIn K (.ref C_NothingToUndo) (.type "BaseException") = some true) (at_NothingToUndo : PySem.W.typeIn K (.ref C_NothingToUndo) = some (.type "type")) (ai_NothingToUndo : PySem.W.isClsIn K C_NothingToUndo = true)
    (ag_BadText : PySem.W.nsIn K mainGlobals "BadText" = some (some (.ref C_BadText)))
    (ak_BadText : PySem.W.keepIn K (.ref C_BadText) = true) (ap_BadText : PySem.W.subIn K (.ref C_BadText) (.type "BaseException") = some true) (at_BadText : PySem.W.typeIn K (.ref C_BadText) = some (.type "type")) (ai_BadText : PySem.W.isClsIn K C_BadText = true)
    (ag_BadCommand : PySem.W.nsIn K mainGlobals "BadCommand" = some (some (.ref C_BadCommand)))
    (ax_BadCommand : PySem.W.excIn K C_BadCommand [.type "ValueError", .type "Exception", .type "BaseException", .type "object"] "ValueError.__new__" = true)
    (ak_BadCommand : PySem.W.keepIn K (.ref C_BadCommand) = true) (ap_BadCommand : PySem.W.subIn K (.ref C_BadCommand) (.type "BaseException") = some true) (at_BadCommand : PySem.W.typeIn K (.ref C_BadCommand) = some (.type "type")) (ai_BadCommand : PySem.W.isClsIn K C_BadCommand = true)
    {a_init_BadStep a_init_BadText : Addr}
    {oc_init_BadStep kV_init_BadStep dc_init_BadStep pm_init_BadStep cd_init_BadStep ct_init_BadStep : Value} {od_init_BadStep an_init_BadStep : Option Addr} {sl_init_BadStep : Array (Option Value)}
    (ic_BadStep : PySem.W.findIn K (.ref C_BadStep) "__init__" = some (some (.ref a_init_BadStep))) (ti_BadStep : PySem.W.typeIn K (.ref a_init_BadStep) = some (.type "function"))
    (l_init_BadStep : K.lookup a_init_BadStep = some ⟨oc_init_BadStep, od_init_BadStep, .func (PySem.W.fnOf "__init__" "BadStep.__init__" (defArgs s_init_BadStep) (defBody s_init_BadStep) (defScope s_init_BadStep) .none kV_init_BadStep dc_init_BadStep pm_init_BadStep an_init_BadStep cd_init_BadStep ct_init_BadStep), sl_init_BadStep⟩)
    (c_init_BadStep : PySem.W.codeIn K cd_init_BadStep "BadStep.__init__" = true) (k_init_BadStep : PySem.W.keepIn K (.ref a_init_BadStep) = true)
    {nm_BadStep q_BadStep : Str} {N_BadStep : Addr} {bs_BadStep bm_BadStep sub_BadStep : List Value} {sn_BadStep : List Str} {ab_BadStep : Bool} {col_BadStep : Option Bool} {dd_BadStep : Option Addr} {w0_BadStep w1_BadStep w2_BadStep w3_BadStep w5_BadStep : Option Value}
    (lk_BadStep : K.lookup C_BadStep = some (excClassObj nm_BadStep q_BadStep C_BadStep N_BadStep bs_BadStep bm_BadStep true sn_BadStep sub_BadStep ab_BadStep col_BadStep dd_BadStep w0_BadStep w1_BadStep w2_BadStep w3_BadStep w5_BadStep "ValueError.__new__")) (rf_BadStep : PySem.HandSPX.refsVE bm_BadStep = true)
    (sa_BadStep : PySem.W.findIn K (.ref C_BadStep) "__setattr__" = some (some (.builtin "object.__setattr__"))) (no_BadStep : PySem.W.findIn K (.ref C_BadStep) "place" = some none) (hd_BadStep : PySem.W.hasDictIn K C_BadStep = true)
    {oc_init_BadText kV_init_BadText dc_init_BadText pm_init_BadText cd_init_BadText ct_init_BadText : Value} {od_init_BadText an_init_BadText : Option Addr} {sl_init_BadText : Array (Option Value)}
    (ic_BadText : PySem.W.findIn K (.ref C_BadText) "__init__" = some (some (.ref a_init_BadText))) (ti_BadText : PySem.W.typeIn K (.ref a_init_BadText) = some (.type "function"))
    (l_init_BadText : K.lookup a_init_BadText = some ⟨oc_init_BadText, od_init_BadText, .func (PySem.W.fnOf "__init__" "BadText.__init__" (defArgs s_init_BadText) (defBody s_init_BadText) (defScope s_init_BadText) .none kV_init_BadText dc_init_BadText pm_init_BadText an_init_BadText cd_init_BadText ct_init_BadText), sl_init_BadText⟩)
    (c_init_BadText : PySem.W.codeIn K cd_init_BadText "BadText.__init__" = true) (k_init_BadText : PySem.W.keepIn K (.ref a_init_BadText) = true)
    {nm_BadText q_BadText : Str} {N_BadText : Addr} {bs_BadText bm_BadText sub_BadText : List Value} {sn_BadText : List Str} {ab_BadText : Bool} {col_BadText : Option Bool} {dd_BadText : Option Addr} {w0_BadText w1_BadText w2_BadText w3_BadText w5_BadText : Option Value}
    (lk_BadText : K.lookup C_BadText = some (excClassObj nm_BadText q_BadText C_BadText N_BadText bs_BadText bm_BadText true sn_BadText sub_BadText ab_BadText col_BadText dd_BadText w0_BadText w1_BadText w2_BadText w3_BadText w5_BadText "ValueError.__new__")) (rf_BadText : PySem.HandSPX.refsVE bm_BadText = true)
    (sa_BadText : PySem.W.findIn K (.ref C_BadText) "__setattr__" = some (some (.builtin "object.__setattr__"))) (no_BadText : PySem.W.findIn K (.ref C_BadText) "line" = some none) (hd_BadText : PySem.W.hasDictIn K C_BadText = true)
    {n1_BadKind n2_BadKind : Str} {b1_BadKind b2_BadKind : List Value} {N1_BadKind : Addr} {d1_BadKind d2_BadKind d3_BadKind : Bool} {s1_BadKind : List Str} {o1_BadKind : Option Bool}
    (cl_BadKind : PySem.W.clsIn K C_BadKind = some { name := n1_BadKind, bases := b1_BadKind, mro := [.ref C_BadKind, .ref C_LaneError, .type "ValueError", .type "Exception", .type "BaseException", .type "object"], ns := N1_BadKind, qualname := n2_BadKind, hasDict := d1_BadKind, slotNames := s1_BadKind, subclasses := b2_BadKind, abstract := d2_BadKind, collection := o1_BadKind, hasDel := d3_BadKind })
    (ga_BadKind : PySem.W.findIn K (.ref C_BadKind) "__getattribute__" = some (some (.builtin "BaseException.__getattribute__"))) (gg_BadKind : PySem.W.findIn K (.ref C_BadKind) "__getattr__" = some none) (gc_BadKind : PySem.W.findIn K (.ref C_BadKind) "__class__" = some (some (.builtin "object.__class__")))
    {n1_BadCount n2_BadCount : Str} {b1_BadCount b2_BadCount : List Value} {N1_BadCount : Addr} {d1_BadCount d2_BadCount d3_BadCount : Bool} {s1_BadCount : List Str} {o1_BadCount : Option Bool}
    (cl_BadCount : PySem.W.clsIn K C_BadCount = some { name := n1_BadCount, bases := b1_BadCount, mro := [.ref C_BadCount, .ref C_LaneError, .type "ValueError", .type "Exception", .type "BaseException", .type "object"], ns := N1_BadCount, qualname := n2_BadCount, hasDict := d1_BadCount, slotNames := s1_BadCount, subclasses := b2_BadCount, abstract := d2_BadCount, collection := o1_BadCount, hasDel := d3_BadCount })
    (ga_BadCount : PySem.W.findIn K (.ref C_BadCount) "__getattribute__" = some (some (.builtin "BaseException.__getattribute__"))) (gg_BadCount : PySem.W.findIn K (.ref C_BadCount) "__getattr__" = some none) (gc_BadCount : PySem.W.findIn K (.ref C_BadCount) "__class__" = some (some (.builtin "object.__class__")))
    {n1_BadMark n2_BadMark : Str} {b1_BadMark b2_BadMark : List Value} {N1_BadMark : Addr} {d1_BadMark d2_BadMark d3_BadMark : Bool} {s1_BadMark : List Str} {o1_BadMark : Option Bool}
    (cl_BadMark : PySem.W.clsIn K C_BadMark = some { name := n1_BadMark, bases := b1_BadMark, mro := [.ref C_BadMark, .ref C_LaneError, .type "ValueError", .type "Exception", .type "BaseException", .type "object"], ns := N1_BadMark, qualname := n2_BadMark, hasDict := d1_BadMark, slotNames := s1_BadMark, subclasses := b2_BadMark, abstract := d2_BadMark, collection := o1_BadMark, hasDel := d3_BadMark })
    (ga_BadMark : PySem.W.findIn K (.ref C_BadMark) "__getattribute__" = some (some (.builtin "BaseException.__getattribute__"))) (gg_BadMark : PySem.W.findIn K (.ref C_BadMark) "__getattr__" = some none) (gc_BadMark : PySem.W.findIn K (.ref C_BadMark) "__class__" = some (some (.builtin "object.__class__")))
    {n1_BadSize n2_BadSize : Str} {b1_BadSize b2_BadSize : List Value} {N1_BadSize : Addr} {d1_BadSize d2_BadSize d3_BadSize : Bool} {s1_BadSize : List Str} {o1_BadSize : Option Bool}
    (cl_BadSize : PySem.W.clsIn K C_BadSize = some { name := n1_BadSize, bases := b1_BadSize, mro := [.ref C_BadSize, .ref C_LaneError, .type "ValueError", .type "Exception", .type "BaseException", .type "object"], ns := N1_BadSize, qualname := n2_BadSize, hasDict := d1_BadSize, slotNames := s1_BadSize, subclasses := b2_BadSize, abstract := d2_BadSize, collection := o1_BadSize, hasDel := d3_BadSize })
    (ga_BadSize : PySem.W.findIn K (.ref C_BadSize) "__getattribute__" = some (some (.builtin "BaseException.__getattribute__"))) (gg_BadSize : PySem.W.findIn K (.ref C_BadSize) "__getattr__" = some none) (gc_BadSize : PySem.W.findIn K (.ref C_BadSize) "__class__" = some (some (.builtin "object.__class__")))
    {n1_BadCounts n2_BadCounts : Str} {b1_BadCounts b2_BadCounts : List Value} {N1_BadCounts : Addr} {d1_BadCounts d2_BadCounts d3_BadCounts : Bool} {s1_BadCounts : List Str} {o1_BadCounts : Option Bool}
    (cl_BadCounts : PySem.W.clsIn K C_BadCounts = some { name := n1_BadCounts, bases := b1_BadCounts, mro := [.ref C_BadCounts, .ref C_LaneError, .type "ValueError", .type "Exception", .type "BaseException", .type "object"], ns := N1_BadCounts, qualname := n2_BadCounts, hasDict := d1_BadCounts, slotNames := s1_BadCounts, subclasses := b2_BadCounts, abstract := d2_BadCounts, collection := o1_BadCounts, hasDel := d3_BadCounts })
    (ga_BadCounts : PySem.W.findIn K (.ref C_BadCounts) "__getattribute__" = some (some (.builtin "BaseException.__getattribute__"))) (gg_BadCounts : PySem.W.findIn K (.ref C_BadCounts) "__getattr__" = some none) (gc_BadCounts : PySem.W.findIn K (.ref C_BadCounts) "__class__" = some (some (.builtin "object.__class__")))
    {n1_BadHouse n2_BadHouse : Str} {b1_BadHouse b2_BadHouse : List Value} {N1_BadHouse : Addr} {d1_BadHouse d2_BadHouse d3_BadHouse : Bool} {s1_BadHouse : List Str} {o1_BadHouse : Option Bool}
    (cl_BadHouse : PySem.W.clsIn K C_BadHouse = some { name := n1_BadHouse, bases := b1_BadHouse, mro := [.ref C_BadHouse, .ref C_LaneError, .type "ValueError", .type "Exception", .type "BaseException", .type "object"], ns := N1_BadHouse, qualname := n2_BadHouse, hasDict := d1_BadHouse, slotNames := s1_BadHouse, subclasses := b2_BadHouse, abstract := d2_BadHouse, collection := o1_BadHouse, hasDel := d3_BadHouse })
    (ga_BadHouse : PySem.W.findIn K (.ref C_BadHouse) "__getattribute__" = some (some (.builtin "BaseException.__getattribute__"))) (gg_BadHouse : PySem.W.findIn K (.ref C_BadHouse) "__getattr__" = some none) (gc_BadHouse : PySem.W.findIn K (.ref C_BadHouse) "__class__" = some (some (.builtin "object.__class__")))
    {n1_BadCase n2_BadCase : Str} {b1_BadCase b2_BadCase : List Value} {N1_BadCase : Addr} {d1_BadCase d2_BadCase d3_BadCase : Bool} {s1_BadCase : List Str} {o1_BadCase : Option Bool}
    (cl_BadCase : PySem.W.clsIn K C_BadCase = some { name := n1_BadCase, bases := b1_BadCase, mro := [.ref C_BadCase, .ref C_LaneError, .type "ValueError", .type "Exception", .type "BaseException", .type "object"], ns := N1_BadCase, qualname := n2_BadCase, hasDict := d1_BadCase, slotNames := s1_BadCase, subclasses := b2_BadCase, abstract := d2_BadCase, collection := o1_BadCase, hasDel := d3_BadCase })
    (ga_BadCase : PySem.W.findIn K (.ref C_BadCase) "__getattribute__" = some (some (.builtin "BaseException.__getattribute__"))) (gg_BadCase : PySem.W.findIn K (.ref C_BadCase) "__getattr__" = some none) (gc_BadCase : PySem.W.findIn K (.ref C_BadCase) "__class__" = some (some (.builtin "object.__class__")))
    {n1_BadQuestion n2_BadQuestion : Str} {b1_BadQuestion b2_BadQuestion : List Value} {N1_BadQuestion : Addr} {d1_BadQuestion d2_BadQuestion d3_BadQuestion : Bool} {s1_BadQuestion : List Str} {o1_BadQuestion : Option Bool}
    (cl_BadQuestion : PySem.W.clsIn K C_BadQuestion = some { name := n1_BadQuestion, bases := b1_BadQuestion, mro := [.ref C_BadQuestion, .ref C_LaneError, .type "ValueError", .type "Exception", .type "BaseException", .type "object"], ns := N1_BadQuestion, qualname := n2_BadQuestion, hasDict := d1_BadQuestion, slotNames := s1_BadQuestion, subclasses := b2_BadQuestion, abstract := d2_BadQuestion, collection := o1_BadQuestion, hasDel := d3_BadQuestion })
    (ga_BadQuestion : PySem.W.findIn K (.ref C_BadQuestion) "__getattribute__" = some (some (.builtin "BaseException.__getattribute__"))) (gg_BadQuestion : PySem.W.findIn K (.ref C_BadQuestion) "__getattr__" = some none) (gc_BadQuestion : PySem.W.findIn K (.ref C_BadQuestion) "__class__" = some (some (.builtin "object.__class__")))
    {n1_BadKey n2_BadKey : Str} {b1_BadKey b2_BadKey : List Value} {N1_BadKey : Addr} {d1_BadKey d2_BadKey d3_BadKey : Bool} {s1_BadKey : List Str} {o1_BadKey : Option Bool}
    (cl_BadKey : PySem.W.clsIn K C_BadKey = some { name := n1_BadKey, bases := b1_BadKey, mro := [.ref C_BadKey, .ref C_LaneError, .type "ValueError", .type "Exception", .type "BaseException", .type "object"], ns := N1_BadKey, qualname := n2_BadKey, hasDict := d1_BadKey, slotNames := s1_BadKey, subclasses := b2_BadKey, abstract := d2_BadKey, collection := o1_BadKey, hasDel := d3_BadKey })
    (ga_BadKey : PySem.W.findIn K (.ref C_BadKey) "__getattribute__" = some (some (.builtin "BaseException.__getattribute__"))) (gg_BadKey : PySem.W.findIn K (.ref C_BadKey) "__getattr__" = some none) (gc_BadKey : PySem.W.findIn K (.ref C_BadKey) "__class__" = some (some (.builtin "object.__class__")))
    {n1_BadPair n2_BadPair : Str} {b1_BadPair b2_BadPair : List Value} {N1_BadPair : Addr} {d1_BadPair d2_BadPair d3_BadPair : Bool} {s1_BadPair : List Str} {o1_BadPair : Option Bool}
    (cl_BadPair : PySem.W.clsIn K C_BadPair = some { name := n1_BadPair, bases := b1_BadPair, mro := [.ref C_BadPair, .ref C_LaneError, .type "ValueError", .type "Exception", .type "BaseException", .type "object"], ns := N1_BadPair, qualname := n2_BadPair, hasDict := d1_BadPair, slotNames := s1_BadPair, subclasses := b2_BadPair, abstract := d2_BadPair, collection := o1_BadPair, hasDel := d3_BadPair })
    (ga_BadPair : PySem.W.findIn K (.ref C_BadPair) "__getattribute__" = some (some (.builtin "BaseException.__getattribute__"))) (gg_BadPair : PySem.W.findIn K (.ref C_BadPair) "__getattr__" = some none) (gc_BadPair : PySem.W.findIn K (.ref C_BadPair) "__class__" = some (some (.builtin "object.__class__")))
    {n1_BadRenaming n2_BadRenaming : Str} {b1_BadRenaming b2_BadRenaming : List Value} {N1_BadRenaming : Addr} {d1_BadRenaming d2_BadRenaming d3_BadRenaming : Bool} {s1_BadRenaming : List Str} {o1_BadRenaming : Option Bool}
    (cl_BadRenaming : PySem.W.clsIn K C_BadRenaming = some { name := n1_BadRenaming, bases := b1_BadRenaming, mro := [.ref C_BadRenaming, .ref C_LaneError, .type "ValueError", .type "Exception", .type "BaseException", .type "object"], ns := N1_BadRenaming, qualname := n2_BadRenaming, hasDict := d1_BadRenaming, slotNames := s1_BadRenaming, subclasses := b2_BadRenaming, abstract := d2_BadRenaming, collection := o1_BadRenaming, hasDel := d3_BadRenaming })
    (ga_BadRenaming : PySem.W.findIn K (.ref C_BadRenaming) "__getattribute__" = some (some (.builtin "BaseException.__getattribute__"))) (gg_BadRenaming : PySem.W.findIn K (.ref C_BadRenaming) "__getattr__" = some none) (gc_BadRenaming : PySem.W.findIn K (.ref C_BadRenaming) "__class__" = some (some (.builtin "object.__class__")))
    {n1_BadSpot n2_BadSpot : Str} {b1_BadSpot b2_BadSpot : List Value} {N1_BadSpot : Addr} {d1_BadSpot d2_BadSpot d3_BadSpot : Bool} {s1_BadSpot : List Str} {o1_BadSpot : Option Bool}
    (cl_BadSpot : PySem.W.clsIn K C_BadSpot = some { name := n1_BadSpot, bases := b1_BadSpot, mro := [.ref C_BadSpot, .ref C_LaneError, .type "ValueError", .type "Exception", .type "BaseException", .type "object"], ns := N1_BadSpot, qualname := n2_BadSpot, hasDict := d1_BadSpot, slotNames := s1_BadSpot, subclasses := b2_BadSpot, abstract := d2_BadSpot, collection := o1_BadSpot, hasDel := d3_BadSpot })
    (ga_BadSpot : PySem.W.findIn K (.ref C_BadSpot) "__getattribute__" = some (some (.builtin "BaseException.__getattribute__"))) (gg_BadSpot : PySem.W.findIn K (.ref C_BadSpot) "__getattr__" = some none) (gc_BadSpot : PySem.W.findIn K (.ref C_BadSpot) "__class__" = some (some (.builtin "object.__class__")))
    {n1_TooMany n2_TooMany : Str} {b1_TooMany b2_TooMany : List Value} {N1_TooMany : Addr} {d1_TooMany d2_TooMany d3_TooMany : Bool} {s1_TooMany : List Str} {o1_TooMany : Option Bool}
    (cl_TooMany : PySem.W.clsIn K C_TooMany = some { name := n1_TooMany, bases := b1_TooMany, mro := [.ref C_TooMany, .ref C_LaneError, .type "ValueError", .type "Exception", .type "BaseException", .type "object"], ns := N1_TooMany, qualname := n2_TooMany, hasDict := d1_TooMany, slotNames := s1_TooMany, subclasses := b2_TooMany, abstract := d2_TooMany, collection := o1_TooMany, hasDel := d3_TooMany })
    (ga_TooMany : PySem.W.findIn K (.ref C_TooMany) "__getattribute__" = some (some (.builtin "BaseException.__getattribute__"))) (gg_TooMany : PySem.W.findIn K (.ref C_TooMany) "__getattr__" = some none) (gc_TooMany : PySem.W.findIn K (.ref C_TooMany) "__class__" = some (some (.builtin "object.__class__")))
    {n1_NotEnough n2_NotEnough : Str} {b1_NotEnough b2_NotEnough : List Value} {N1_NotEnough : Addr} {d1_NotEnough d2_NotEnough d3_NotEnough : Bool} {s1_NotEnough : List Str} {o1_NotEnough : Option Bool}
    (cl_NotEnough : PySem.W.clsIn K C_NotEnough = some { name := n1_NotEnough, bases := b1_NotEnough, mro := [.ref C_NotEnough, .ref C_LaneError, .type "ValueError", .type "Exception", .type "BaseException", .type "object"], ns := N1_NotEnough, qualname := n2_NotEnough, hasDict := d1_NotEnough, slotNames := s1_NotEnough, subclasses := b2_NotEnough, abstract := d2_NotEnough, collection := o1_NotEnough, hasDel := d3_NotEnough })
    (ga_NotEnough : PySem.W.findIn K (.ref C_NotEnough) "__getattribute__" = some (some (.builtin "BaseException.__getattribute__"))) (gg_NotEnough : PySem.W.findIn K (.ref C_NotEnough) "__getattr__" = some none) (gc_NotEnough : PySem.W.findIn K (.ref C_NotEnough) "__class__" = some (some (.builtin "object.__class__")))
    {n1_BadScheme n2_BadScheme : Str} {b1_BadScheme b2_BadScheme : List Value} {N1_BadScheme : Addr} {d1_BadScheme d2_BadScheme d3_BadScheme : Bool} {s1_BadScheme : List Str} {o1_BadScheme : Option Bool}
    (cl_BadScheme : PySem.W.clsIn K C_BadScheme = some { name := n1_BadScheme, bases := b1_BadScheme, mro := [.ref C_BadScheme, .ref C_LaneError, .type "ValueError", .type "Exception", .type "BaseException", .type "object"], ns := N1_BadScheme, qualname := n2_BadScheme, hasDict := d1_BadScheme, slotNames := s1_BadScheme, subclasses := b2_BadScheme, abstract := d2_BadScheme, collection := o1_BadScheme, hasDel := d3_BadScheme })
    (ga_BadScheme : PySem.W.findIn K (.ref C_BadScheme) "__getattribute__" = some (some (.builtin "BaseException.__getattribute__"))) (gg_BadScheme : PySem.W.findIn K (.ref C_BadScheme) "__getattr__" = some none) (gc_BadScheme : PySem.W.findIn K (.ref C_BadScheme) "__class__" = some (some (.builtin "object.__class__")))
    {n1_NotWithin n2_NotWithin : Str} {b1_NotWithin b2_NotWithin : List Value} {N1_NotWithin : Addr} {d1_NotWithin d2_NotWithin d3_NotWithin : Bool} {s1_NotWithin : List Str} {o1_NotWithin : Option Bool}
    (cl_NotWithin : PySem.W.clsIn K C_NotWithin = some { name := n1_NotWithin, bases := b1_NotWithin, mro := [.ref C_NotWithin, .ref C_LaneError, .type "ValueError", .type "Exception", .type "BaseException", .type "object"], ns := N1_NotWithin, qualname := n2_NotWithin, hasDict := d1_NotWithin, slotNames := s1_NotWithin, subclasses := b2_NotWithin, abstract := d2_NotWithin, collection := o1_NotWithin, hasDel := d3_NotWithin })
    (ga_NotWithin : PySem.W.findIn K (.ref C_NotWithin) "__getattribute__" = some (some (.builtin "BaseException.__getattribute__"))) (gg_NotWithin : PySem.W.findIn K (.ref C_NotWithin) "__getattr__" = some none) (gc_NotWithin : PySem.W.findIn K (.ref C_NotWithin) "__class__" = some (some (.builtin "object.__class__")))
    {n1_BadLog n2_BadLog : Str} {b1_BadLog b2_BadLog : List Value} {N1_BadLog : Addr} {d1_BadLog d2_BadLog d3_BadLog : Bool} {s1_BadLog : List Str} {o1_BadLog : Option Bool}
    (cl_BadLog : PySem.W.clsIn K C_BadLog = some { name := n1_BadLog, bases := b1_BadLog, mro := [.ref C_BadLog, .ref C_LaneError, .type "ValueError", .type "Exception", .type "BaseException", .type "object"], ns := N1_BadLog, qualname := n2_BadLog, hasDict := d1_BadLog, slotNames := s1_BadLog, subclasses := b2_BadLog, abstract := d2_BadLog, collection := o1_BadLog, hasDel := d3_BadLog })
    (ga_BadLog : PySem.W.findIn K (.ref C_BadLog) "__getattribute__" = some (some (.builtin "BaseException.__getattribute__"))) (gg_BadLog : PySem.W.findIn K (.ref C_BadLog) "__getattr__" = some none) (gc_BadLog : PySem.W.findIn K (.ref C_BadLog) "__class__" = some (some (.builtin "object.__class__")))
    {n1_BadLane n2_BadLane : Str} {b1_BadLane b2_BadLane : List Value} {N1_BadLane : Addr} {d1_BadLane d2_BadLane d3_BadLane : Bool} {s1_BadLane : List Str} {o1_BadLane : Option Bool}
    (cl_BadLane : PySem.W.clsIn K C_BadLane = some { name := n1_BadLane, bases := b1_BadLane, mro := [.ref C_BadLane, .ref C_LaneError, .type "ValueError", .type "Exception", .type "BaseException", .type "object"], ns := N1_BadLane, qualname := n2_BadLane, hasDict := d1_BadLane, slotNames := s1_BadLane, subclasses := b2_BadLane, abstract := d2_BadLane, collection := o1_BadLane, hasDel := d3_BadLane })
    (ga_BadLane : PySem.W.findIn K (.ref C_BadLane) "__getattribute__" = some (some (.builtin "BaseException.__getattribute__"))) (gg_BadLane : PySem.W.findIn K (.ref C_BadLane) "__getattr__" = some none) (gc_BadLane : PySem.W.findIn K (.ref C_BadLane) "__class__" = some (some (.builtin "object.__class__")))
    {n1_NothingToUndo n2_NothingToUndo : Str} {b1_NothingToUndo b2_NothingToUndo : List Value} {N1_NothingToUndo : Addr} {d1_NothingToUndo d2_NothingToUndo d3_NothingToUndo : Bool} {s1_NothingToUndo : List Str} {o1_NothingToUndo : Option Bool}
    (cl_NothingToUndo : PySem.W.clsIn K C_NothingToUndo = some { name := n1_NothingToUndo, bases := b1_NothingToUndo, mro := [.ref C_NothingToUndo, .ref C_LaneError, .type "ValueError", .type "Exception", .type "BaseException", .type "object"], ns := N1_NothingToUndo, qualname := n2_NothingToUndo, hasDict := d1_NothingToUndo, slotNames := s1_NothingToUndo, subclasses := b2_NothingToUndo, abstract := d2_NothingToUndo, collection := o1_NothingToUndo, hasDel := d3_NothingToUndo })
    (ga_NothingToUndo : PySem.W.findIn K (.ref C_NothingToUndo) "__getattribute__" = some (some (.builtin "BaseException.__getattribute__"))) (gg_NothingToUndo : PySem.W.findIn K (.ref C_NothingToUndo) "__getattr__" = some none) (gc_NothingToUndo : PySem.W.findIn K (.ref C_NothingToUndo) "__class__" = some (some (.builtin "object.__class__")))
    {n1_BadCommand n2_BadCommand : Str} {b1_BadCommand b2_BadCommand : List Value} {N1_BadCommand : Addr} {d1_BadCommand d2_BadCommand d3_BadCommand : Bool} {s1_BadCommand : List Str} {o1_BadCommand : Option Bool}
    (cl_BadCommand : PySem.W.clsIn K C_BadCommand = some { name := n1_BadCommand, bases := b1_BadCommand, mro := [.ref C_BadCommand, .ref C_LaneError, .type "ValueError", .type "Exception", .type "BaseException", .type "object"], ns := N1_BadCommand, qualname := n2_BadCommand, hasDict := d1_BadCommand, slotNames := s1_BadCommand, subclasses := b2_BadCommand, abstract := d2_BadCommand, collection := o1_BadCommand, hasDel := d3_BadCommand })
    (ga_BadCommand : PySem.W.findIn K (.ref C_BadCommand) "__getattribute__" = some (some (.builtin "BaseException.__getattribute__"))) (gg_BadCommand : PySem.W.findIn K (.ref C_BadCommand) "__getattr__" = some none) (gc_BadCommand : PySem.W.findIn K (.ref C_BadCommand) "__class__" = some (some (.builtin "object.__class__")))
    {n1_BadStep n2_BadStep : Str} {b1_BadStep b2_BadStep : List Value} {N1_BadStep : Addr} {d1_BadStep d2_BadStep d3_BadStep : Bool} {s1_BadStep : List Str} {o1_BadStep : Option Bool}
    (cl_BadStep : PySem.W.clsIn K C_BadStep = some { name := n1_BadStep, bases := b1_BadStep, mro := [.ref C_BadStep, .ref C_LaneError, .type "ValueError", .type "Exception", .type "BaseException", .type "object"], ns := N1_BadStep, qualname := n2_BadStep, hasDict := d1_BadStep, slotNames := s1_BadStep, subclasses := b2_BadStep, abstract := d2_BadStep, collection := o1_BadStep, hasDel := d3_BadStep })
    (ga_BadStep : PySem.W.findIn K (.ref C_BadStep) "__getattribute__" = some (some (.builtin "BaseException.__getattribute__"))) (gg_BadStep : PySem.W.findIn K (.ref C_BadStep) "__getattr__" = some none) (gc_BadStep : PySem.W.findIn K (.ref C_BadStep) "__class__" = some (some (.builtin "object.__class__")))
    {n1_BadText n2_BadText : Str} {b1_BadText b2_BadText : List Value} {N1_BadText : Addr} {d1_BadText d2_BadText d3_BadText : Bool} {s1_BadText : List Str} {o1_BadText : Option Bool}
    (cl_BadText : PySem.W.clsIn K C_BadText = some { name := n1_BadText, bases := b1_BadText, mro := [.ref C_BadText, .ref C_LaneError, .type "ValueError", .type "Exception", .type "BaseException", .type "object"], ns := N1_BadText, qualname := n2_BadText, hasDict := d1_BadText, slotNames := s1_BadText, subclasses := b2_BadText, abstract := d2_BadText, collection := o1_BadText, hasDel := d3_BadText })
    (ga_BadText : PySem.W.findIn K (.ref C_BadText) "__getattribute__" = some (some (.builtin "BaseException.__getattribute__"))) (gg_BadText : PySem.W.findIn K (.ref C_BadText) "__getattr__" = some none) (gc_BadText : PySem.W.findIn K (.ref C_BadText) "__class__" = some (some (.builtin "object.__class__")))
    (nd : [C_BadKind, C_BadCount, C_BadMark, C_BadSize, C_BadCounts, C_BadHouse, C_BadCase, C_BadQuestion, C_BadKey, C_BadPair, C_BadRenaming, C_BadSpot, C_TooMany, C_NotEnough, C_BadScheme, C_NotWithin, C_BadLog, C_BadLane, C_NothingToUndo, C_BadCommand, C_BadStep, C_BadText].Nodup) (nr : C_LaneError ∉ [C_BadKind, C_BadCount, C_BadMark, C_BadSize, C_BadCounts, C_BadHouse, C_BadCase, C_BadQuestion, C_BadKey, C_BadPair, C_BadRenaming, C_BadSpot, C_TooMany, C_NotEnough, C_BadScheme, C_NotWithin, C_BadLog, C_BadLane, C_NothingToUndo, C_BadCommand, C_BadStep, C_BadText])
    (hn : PySem.W.specialIn K (.builtin "object.__class__") "__get__" = some (some (.builtin "getset_descriptor.__get__"))) (ht : PySem.W.takesIn K (.builtin "object.__class__") = some true)
    (h1 : PySem.W.specialIn K (.ref C_LaneError) "__getattribute__" = some (some (.builtin "type.__getattribute__"))) (h3 : PySem.W.readsIn K C_LaneError (.type "type") = true) (h4 : PySem.W.findCls K (.ref C_LaneError) (.type "type") "__init__" = some (.val (.builtin "ValueError.__init__"))) :
    ∃ fd : FuncData, (∀ (s : Shared) (v : Value), BindsTo s fd ⟨[v], []⟩ [("_law_script", v)]) ∧ ∀ base : Heap, K.In base → base.Ns mainGlobals mg → FnOk P w K mg base CX0 4 fa fd ["_law_script"] (spLaw K) := by
  have e := hfa.symm.trans (PySem.W.mg_of X G a_law)
  cases e
  have F_law_source := fun_mk (st := s_law_source) l_law_source c_law_source k_law_source
  have b_law_source := F_law_source.binds (ps := ["_law_script"]) fun _ _ _ _ _ _ us hl => match us, hl with | [_], _ => rfl
  have F_law_draw := fun_mk (st := s_law_draw) l_law_draw c_law_draw k_law_draw
  have b_law_draw := F_law_draw.binds (ps := ["_law_source_here", "_law_limit"]) fun _ _ _ _ _ _ us hl => match us, hl with | [_, _], _ => rfl
  have F_law_first := fun_mk (st := s_law_first) l_law_first c_law_first k_law_first
  have b_law_first := F_law_first.binds (ps := ["_law_which", "_law_text"]) fun _ _ _ _ _ _ us hl => match us, hl with | [_, _], _ => rfl
  have F_law_second := fun_mk (st := s_law_second) l_law_second c_law_second k_law_second
  have b_law_second := F_law_second.binds (ps := ["_law_which", "_law_text", "_law_number"]) fun _ _ _ _ _ _ us hl => match us, hl with | [_, _, _], _ => rfl
  have F_law_hits := fun_mk (st := s_law_hits) l_law_hits c_law_hits k_law_hits
  have b_law_hits := F_law_hits.binds (ps := ["_law_made"]) fun _ _ _ _ _ _ us hl => match us, hl with | [_], _ => rfl
  have F_law := fun_mk (st := s_law) l_law c_law k_law
  have b_law := F_law.binds (ps := ["_law_script"]) fun _ _ _ _ _ _ us hl => match us, hl with | [_], _ => rfl
  exact ⟨PySem.W.fnOf "law" "law" (defArgs s_law) (defBody s_law) (defScope s_law) .none kV_law dc_law pm_law an_law cd_law ct_law, fun s v => .of_eq rfl, fun base _ _ => ok_law (P := P) (w := w) (mg := mg) (base := base) ({ a_law_source := _, d_law_source := _, F_law_source := F_law_source, g_law_source := PySem.W.mg_of X G a_law_source, b_law_source := b_law_source, a_law_draw := _, d_law_draw := _, F_law_draw := F_law_draw, g_law_draw := PySem.W.mg_of X G a_law_draw, b_law_draw := b_law_draw, a_law_first := _, d_law_first := _, F_law_first := F_law_first, g_law_first := PySem.W.mg_of X G a_law_first, b_law_first := b_law_first, a_law_second := _, d_law_second := _, F_law_second := F_law_second, g_law_second := PySem.W.mg_of X G a_law_second, b_law_second := b_law_second, a_law_hits := _, d_law_hits := _, F_law_hits := F_law_hits, g_law_hits := PySem.W.mg_of X G a_law_hits, b_law_hits := b_law_hits, a_law := _, d_law := _, F_law := F_law, g_law := PySem.W.mg_of X G a_law, b_law := b_law, z_ValueError := PySem.W.mg_none_of X G z_ValueError, z_int := PySem.W.mg_none_of X G z_int, z_isinstance := PySem.W.mg_none_of X G z_isinstance, z_list := PySem.W.mg_none_of X G z_list, z_range := PySem.W.mg_none_of X G z_range, C_LaneError := _, g_LaneError := PySem.W.mg_of X G ag_LaneError, x_LaneError := ax_LaneError, k_LaneError := ak_LaneError, p_LaneError := ap_LaneError, t_LaneError := at_LaneError, i_LaneError := ai_LaneError, C_BadKind := _, g_BadKind := PySem.W.mg_of X G ag_BadKind, x_BadKind := ax_BadKind, k_BadKind := ak_BadKind, p_BadKind := ap_BadKind, t_BadKind := at_BadKind, i_BadKind := ai_BadKind, C_BadCount := _, g_BadCount := PySem.W.mg_of X G ag_BadCount, x_BadCount := ax_BadCount, k_BadCount := ak_BadCount, p_BadCount := ap_BadCount, t_BadCount := at_BadCount, i_BadCount := ai_BadCount, C_BadMark := _, g_BadMark := PySem.W.mg_of X G ag_BadMark, x_BadMark := ax_BadMark, k_BadMark := ak_BadMark, p_BadMark := ap_BadMark, t_BadMark := at_BadMark, i_BadMark := ai_BadMark, C_BadSize := _, g_BadSize := PySem.W.mg_of X G ag_BadSize, x_BadSize := ax_BadSize, k_BadSize := ak_BadSize, p_BadSize := ap_BadSize, t_BadSize := at_BadSize, i_BadSize := ai_BadSize, C_BadCounts := _, g_BadCounts := PySem.W.mg_of X G ag_BadCounts, x_BadCounts := ax_BadCounts, k_BadCounts := ak_BadCounts, p_BadCounts := ap_BadCounts, t_BadCounts := at_BadCounts, i_BadCounts := ai_BadCounts, C_BadHouse := _, g_BadHouse := PySem.W.mg_of X G ag_BadHouse, x_BadHouse := ax_BadHouse, k_BadHouse := ak_BadHouse, p_BadHouse := ap_BadHouse, t_BadHouse := at_BadHouse, i_BadHouse := ai_BadHouse, C_BadCase := _, g_BadCase := PySem.W.mg_of X G ag_BadCase, x_BadCase := ax_BadCase, k_BadCase := ak_BadCase, p_BadCase := ap_BadCase, t_BadCase := at_BadCase, i_BadCase := ai_BadCase, C_BadStep := _, g_BadStep := PySem.W.mg_of X G ag_BadStep, k_BadStep := ak_BadStep, p_BadStep := ap_BadStep, t_BadStep := at_BadStep, i_BadStep := ai_BadStep, C_BadQuestion := _, g_BadQuestion := PySem.W.mg_of X G ag_BadQuestion, x_BadQuestion := ax_BadQuestion, k_BadQuestion := ak_BadQuestion, p_BadQuestion := ap_BadQuestion, t_BadQuestion := at_BadQuestion, i_BadQuestion := ai_BadQuestion, C_BadKey := _, g_BadKey := PySem.W.mg_of X G ag_BadKey, x_BadKey := ax_BadKey, k_BadKey := ak_BadKey, p_BadKey := ap_BadKey, t_BadKey := at_BadKey, i_BadKey := ai_BadKey, C_BadPair := _, g_BadPair := PySem.W.mg_of X G ag_BadPair, x_BadPair := ax_BadPair, k_BadPair := ak_BadPair, p_BadPair := ap_BadPair, t_BadPair := at_BadPair, i_BadPair := ai_BadPair, C_BadRenaming := _, g_BadRenaming := PySem.W.mg_of X G ag_BadRenaming, x_BadRenaming := ax_BadRenaming, k_BadRenaming := ak_BadRenaming, p_BadRenaming := ap_BadRenaming, t_BadRenaming := at_BadRenaming, i_BadRenaming := ai_BadRenaming, C_BadSpot := _, g_BadSpot := PySem.W.mg_of X G ag_BadSpot, x_BadSpot := ax_BadSpot, k_BadSpot := ak_BadSpot, p_BadSpot := ap_BadSpot, t_BadSpot := at_BadSpot, i_BadSpot := ai_BadSpot, C_TooMany := _, g_TooMany := PySem.W.mg_of X G ag_TooMany, x_TooMany := ax_TooMany, k_TooMany := ak_TooMany, p_TooMany := ap_TooMany, t_TooMany := at_TooMany, i_TooMany := ai_TooMany, C_NotEnough := _, g_NotEnough := PySem.W.mg_of X G ag_NotEnough, x_NotEnough := ax_NotEnough, k_NotEnough := ak_NotEnough, p_NotEnough := ap_NotEnough, t_NotEnough := at_NotEnough, i_NotEnough := ai_NotEnough, C_BadScheme := _, g_BadScheme := PySem.W.mg_of X G ag_BadScheme, x_BadScheme := ax_BadScheme, k_BadScheme := ak_BadScheme, p_BadScheme := ap_BadScheme, t_BadScheme := at_BadScheme, i_BadScheme := ai_BadScheme, C_NotWithin := _, g_NotWithin := PySem.W.mg_of X G ag_NotWithin, x_NotWithin := ax_NotWithin, k_NotWithin := ak_NotWithin, p_NotWithin := ap_NotWithin, t_NotWithin := at_NotWithin, i_NotWithin := ai_NotWithin, C_BadLog := _, g_BadLog := PySem.W.mg_of X G ag_BadLog, x_BadLog := ax_BadLog, k_BadLog := ak_BadLog, p_BadLog := ap_BadLog, t_BadLog := at_BadLog, i_BadLog := ai_BadLog, C_BadLane := _, g_BadLane := PySem.W.mg_of X G ag_BadLane, x_BadLane := ax_BadLane, k_BadLane := ak_BadLane, p_BadLane := ap_BadLane, t_BadLane := at_BadLane, i_BadLane := ai_BadLane, C_NothingToUndo := _, g_NothingToUndo := PySem.W.mg_of X G ag_NothingToUndo, x_NothingToUndo := ax_NothingToUndo, k_NothingToUndo := ak_NothingToUndo, p_NothingToUndo := ap_NothingToUndo, t_NothingToUndo := at_NothingToUndo, i_NothingToUndo := ai_NothingToUndo, C_BadText := _, g_BadText := PySem.W.mg_of X G ag_BadText, k_BadText := ak_BadText, p_BadText := ap_BadText, t_BadText := at_BadText, i_BadText := ai_BadText, C_BadCommand := _, g_BadCommand := PySem.W.mg_of X G ag_BadCommand, x_BadCommand := ax_BadCommand, k_BadCommand := ak_BadCommand, p_BadCommand := ap_BadCommand, t_BadCommand := at_BadCommand, i_BadCommand := ai_BadCommand, a_init_BadStep := _, d_init_BadStep := _, F_init_BadStep := fun_mk (st := s_init_BadStep) l_init_BadStep c_init_BadStep k_init_BadStep, bb_init_BadStep := fun _ us hl => match us, hl with | [_, _], _ => .of_eq rfl, kb_init_BadStep := fun _ _ ws hl => match ws, hl with | [_], _ => .of_eq rfl, ox_BadStep := ⟨⟨_, _, _, _, _, _, _, _, _, _, _, _, _, _, _, lk_BadStep, rf_BadStep⟩, sa_BadStep, ap_BadStep, at_BadStep, ak_BadStep⟩, ic_BadStep := ic_BadStep, ti_BadStep := ti_BadStep, xf_BadStep := ⟨ga_BadStep, gg_BadStep, ap_BadStep, hd_BadStep⟩, no_BadStep := no_BadStep, a_init_BadText := _, d_init_BadText := _, F_init_BadText := fun_mk (st := s_init_BadText) l_init_BadText c_init_BadText k_init_BadText, bb_init_BadText := fun _ us hl => match us, hl with | [_, _], _ => .of_eq rfl, kb_init_BadText := fun _ _ ws hl => match ws, hl with | [_], _ => .of_eq rfl, ox_BadText := ⟨⟨_, _, _, _, _, _, _, _, _, _, _, _, _, _, _, lk_BadText, rf_BadText⟩, sa_BadText, ap_BadText, at_BadText, ak_BadText⟩, ic_BadText := ic_BadText, ti_BadText := ti_BadText, xf_BadText := ⟨ga_BadText, gg_BadText, ap_BadText, hd_BadText⟩, no_BadText := no_BadText, m_BadKind := ⟨⟨_, cl_BadKind, rfl⟩, ga_BadKind, gg_BadKind, gc_BadKind⟩, m_BadCount := ⟨⟨_, cl_BadCount, rfl⟩, ga_BadCount, gg_BadCount, gc_BadCount⟩, m_BadMark := ⟨⟨_, cl_BadMark, rfl⟩, ga_BadMark, gg_BadMark, gc_BadMark⟩, m_BadSize := ⟨⟨_, cl_BadSize, rfl⟩, ga_BadSize, gg_BadSize, gc_BadSize⟩, m_BadCounts := ⟨⟨_, cl_BadCounts, rfl⟩, ga_BadCounts, gg_BadCounts, gc_BadCounts⟩, m_BadHouse := ⟨⟨_, cl_BadHouse, rfl⟩, ga_BadHouse, gg_BadHouse, gc_BadHouse⟩, m_BadCase := ⟨⟨_, cl_BadCase, rfl⟩, ga_BadCase, gg_BadCase, gc_BadCase⟩, m_BadQuestion := ⟨⟨_, cl_BadQuestion, rfl⟩, ga_BadQuestion, gg_BadQuestion, gc_BadQuestion⟩, m_BadKey := ⟨⟨_, cl_BadKey, rfl⟩, ga_BadKey, gg_BadKey, gc_BadKey⟩, m_BadPair := ⟨⟨_, cl_BadPair, rfl⟩, ga_BadPair, gg_BadPair, gc_BadPair⟩, m_BadRenaming := ⟨⟨_, cl_BadRenaming, rfl⟩, ga_BadRenaming, gg_BadRenaming, gc_BadRenaming⟩, m_BadSpot := ⟨⟨_, cl_BadSpot, rfl⟩, ga_BadSpot, gg_BadSpot, gc_BadSpot⟩, m_TooMany := ⟨⟨_, cl_TooMany, rfl⟩, ga_TooMany, gg_TooMany, gc_TooMany⟩, m_NotEnough := ⟨⟨_, cl_NotEnough, rfl⟩, ga_NotEnough, gg_NotEnough, gc_NotEnough⟩, m_BadScheme := ⟨⟨_, cl_BadScheme, rfl⟩, ga_BadScheme, gg_BadScheme, gc_BadScheme⟩, m_NotWithin := ⟨⟨_, cl_NotWithin, rfl⟩, ga_NotWithin, gg_NotWithin, gc_NotWithin⟩, m_BadLog := ⟨⟨_, cl_BadLog, rfl⟩, ga_BadLog, gg_BadLog, gc_BadLog⟩, m_BadLane := ⟨⟨_, cl_BadLane, rfl⟩, ga_BadLane, gg_BadLane, gc_BadLane⟩, m_NothingToUndo := ⟨⟨_, cl_NothingToUndo, rfl⟩, ga_NothingToUndo, gg_NothingToUndo, gc_NothingToUndo⟩, m_BadCommand := ⟨⟨_, cl_BadCommand, rfl⟩, ga_BadCommand, gg_BadCommand, gc_BadCommand⟩, m_BadStep := ⟨⟨_, cl_BadStep, rfl⟩, ga_BadStep, gg_BadStep, gc_BadStep⟩, m_BadText := ⟨⟨_, cl_BadText, rfl⟩, ga_BadText, gg_BadText, gc_BadText⟩, nd := nd, nr := nr, hn := hn, ht := ht, h1 := h1, h3 := h3, h4 := h4 } : Txt K mg)⟩
end K04
open PySem PySem.W PyProof.Rows
set_option maxRecDepth 100000 in
set_option maxHeartbeats 0 in
theorem PySem.Challenge.cw_lanescounted_k04_errors_apart_holds : PySem.Challenge.rw_lanescounted_k04_errors_apart.Holds := by
  w_on; o_law; k_head; (case hw => w_witness2)
  k_fill
  refine L2.walk_ofB (l := PySem.Challenge.rw_lanescounted_k04_errors_apart) (n := 63) (k := 4) (x := "_law_script") (CX := fun w => L2.CX0) (sp := fun w => K04.spLaw _) rfl (by decide) rfl ⟨rfl, by decide, by decide⟩ (fun w h Y => PySem.W.kIn_of Y) ?F (fun _ _ a ns hl hb _ hS => ⟨a, ns, rfl, hS, hl, hb, fun _ => rfl⟩) (fun _ _ _ _ _ h => h)
  case F =>
    intro w mg fa h KX G hmg
    refine' K04.all_mk KX G hmg ?a_law_source ?l_law_source ?c_law_source ?k_law_source ?a_law_draw ?l_law_draw ?c_law_draw ?k_law_draw ?a_law_first ?l_law_first ?c_law_first ?k_law_first ?a_law_second ?l_law_second ?c_law_second ?k_law_second ?a_law_hits ?l_law_hits ?c_law_hits ?k_law_hits ?a_law ?l_law ?c_law ?k_law ?z_ValueError ?z_int ?z_isinstance ?z_list ?z_range ?ag_LaneError ?ax_LaneError ?ak_LaneError ?ap_LaneError ?at_LaneError ?ai_LaneError ?ag_BadKind ?ax_BadKind ?ak_BadKind ?ap_BadKind ?at_BadKind ?ai_BadKind ?ag_BadCount ?ax_BadCount ?ak_BadCount ?ap_BadCount ?at_BadCount ?ai_BadCount ?ag_BadMark ?ax_BadMark ?ak_BadMark ?ap_BadMark ?at_BadMark ?ai_BadMark ?ag_BadSize ?ax_BadSize ?ak_BadSize ?ap_BadSize ?at_BadSize ?ai_BadSize ?ag_BadCounts ?ax_BadCounts ?ak_BadCounts ?ap_BadCounts ?at_BadCounts ?ai_BadCounts ?ag_BadHouse ?ax_BadHouse ?ak_BadHouse ?ap_BadHouse ?at_BadHouse ?ai_BadHouse ?ag_BadCase ?ax_BadCase ?ak_BadCase ?ap_BadCase ?at_BadCase ?ai_BadCase ?ag_BadStep ?ak_BadStep ?ap_BadStep ?at_BadStep ?ai_BadStep ?ag_BadQuestion ?ax_BadQuestion ?ak_BadQuestion ?ap_BadQuestion ?at_BadQuestion ?ai_BadQuestion ?ag_BadKey ?ax_BadKey ?ak_BadKey ?ap_BadKey ?at_BadKey ?ai_BadKey ?ag_BadPair ?ax_BadPair ?ak_BadPair ?ap_BadPair ?at_BadPair ?ai_BadPair ?ag_BadRenaming ?ax_BadRenaming ?ak_BadRenaming ?ap_BadRenaming ?at_BadRenaming ?ai_BadRenaming ?ag_BadSpot ?ax_BadSpot ?ak_BadSpot ?ap_BadSpot ?at_BadSpot ?ai_BadSpot ?ag_TooMany ?ax_TooMany ?ak_TooMany ?ap_TooMany ?at_TooMany ?ai_TooMany ?ag_NotEnough ?ax_NotEnough ?ak_NotEnough ?ap_NotEnough ?at_NotEnough ?ai_NotEnough ?ag_BadScheme ?ax_BadScheme ?ak_BadScheme ?ap_BadScheme ?at_BadScheme ?ai_BadScheme ?ag_NotWithin ?ax_NotWithin ?ak_NotWithin ?ap_NotWithin ?at_NotWithin ?ai_NotWithin ?ag_BadLog ?ax_BadLog ?ak_BadLog ?ap_BadLog ?at_BadLog ?ai_BadLog ?ag_BadLane ?ax_BadLane ?ak_BadLane ?ap_BadLane ?at_BadLane ?ai_BadLane ?ag_NothingToUndo ?ax_NothingToUndo ?ak_NothingToUndo ?ap_NothingToUndo ?at_NothingToUndo ?ai_NothingToUndo ?ag_BadText ?ak_BadText ?ap_BadText ?at_BadText ?ai_BadText ?ag_BadCommand ?ax_BadCommand ?ak_BadCommand ?ap_BadCommand ?at_BadCommand ?ai_BadCommand ?ic_BadStep ?ti_BadStep ?l_init_BadStep ?c_init_BadStep ?k_init_BadStep ?lk_BadStep ?rf_BadStep ?sa_BadStep ?no_BadStep ?hd_BadStep ?ic_BadText ?ti_BadText ?l_init_BadText ?c_init_BadText ?k_init_BadText ?lk_BadText ?rf_BadText ?sa_BadText ?no_BadText ?hd_BadText ?cl_BadKind ?ga_BadKind ?gg_BadKind ?gc_BadKind ?cl_BadCount ?ga_BadCount ?gg_BadCount ?gc_BadCount ?cl_BadMark ?ga_BadMark ?gg_BadMark ?gc_BadMark ?cl_BadSize ?ga_BadSize ?gg_BadSize ?gc_BadSize ?cl_BadCounts ?ga_BadCounts ?gg_BadCounts ?gc_BadCounts ?cl_BadHouse ?ga_BadHouse ?gg_BadHouse ?gc_BadHouse ?cl_BadCase ?ga_BadCase ?gg_BadCase ?gc_BadCase ?cl_BadQuestion ?ga_BadQuestion ?gg_BadQuestion ?gc_BadQuestion ?cl_BadKey ?ga_BadKey ?gg_BadKey ?gc_BadKey ?cl_BadPair ?ga_BadPair ?gg_BadPair ?gc_BadPair ?cl_BadRenaming ?ga_BadRenaming ?gg_BadRenaming ?gc_BadRenaming ?cl_BadSpot ?ga_BadSpot ?gg_BadSpot ?gc_BadSpot ?cl_TooMany ?ga_TooMany ?gg_TooMany ?gc_TooMany ?cl_NotEnough ?ga_NotEnough ?gg_NotEnough ?gc_NotEnough ?cl_BadScheme ?ga_BadScheme ?gg_BadScheme ?gc_BadScheme ?cl_NotWithin ?ga_NotWithin ?gg_NotWithin ?gc_NotWithin ?cl_BadLog ?ga_BadLog ?gg_BadLog ?gc_BadLog ?cl_BadLane ?ga_BadLane ?gg_BadLane ?gc_BadLane ?cl_NothingToUndo ?ga_NothingToUndo ?gg_NothingToUndo ?gc_NothingToUndo ?cl_BadCommand ?ga_BadCommand ?gg_BadCommand ?gc_BadCommand ?cl_BadStep ?ga_BadStep ?gg_BadStep ?gc_BadStep ?cl_BadText ?ga_BadText ?gg_BadText ?gc_BadText ?nd ?nr ?hn ?ht ?h1 ?h3 ?h4
    (case a_law_source => k_is)
    (case l_law_source => k_is)
    (case c_law_source => k_is)
    (case k_law_source => k_is)
    (case a_law_draw => k_is)
    (case l_law_draw => k_is)
    (case c_law_draw => k_is)
    (case k_law_draw => k_is)
    (case a_law_first => k_is)
    (case l_law_first => k_is)
    (case c_law_first => k_is)
    (case k_law_first => k_is)
    (case a_law_second => k_is)
    (case l_law_second => k_is)
    (case c_law_second => k_is)
    (case k_law_second => k_is)
    (case a_law_hits => k_is)
    (case l_law_hits => k_is)
    (case c_law_hits => k_is)
    (case k_law_hits => k_is)
    (case a_law => k_is)
    (case l_law => k_is)
    (case c_law => k_is)
    (case k_law => k_is)
    (case z_ValueError => k_is)
    (case z_int => k_is)
    (case z_isinstance => k_is)
    (case z_list => k_is)
    (case z_range => k_is)
    (case ag_LaneError => k_is)
    (case ax_LaneError => k_exc)
    (case ak_LaneError => k_is)
    (case ap_LaneError => k_is)
    (case at_LaneError => k_is)
    (case ai_LaneError => k_is)
    (case ag_BadKind => k_is)
    (case ax_BadKind => k_exc)
    (case ak_BadKind => k_is)
    (case ap_BadKind => k_is)
    (case at_BadKind => k_is)
    (case ai_BadKind => k_is)
    (case ag_BadCount => k_is)
    (case ax_BadCount => k_exc)
    (case ak_BadCount => k_is)
    (case ap_BadCount => k_is)
    (case at_BadCount => k_is)
    (case ai_BadCount => k_is)
    (case ag_BadMark => k_is)
    (case ax_BadMark => k_exc)
    (case ak_BadMark => k_is)
    (case ap_BadMark => k_is)
    (case at_BadMark => k_is)
    (case ai_BadMark => k_is)
    (case ag_BadSize => k_is)
    (case ax_BadSize => k_exc)
    (case ak_BadSize => k_is)
    (case ap_BadSize => k_is)
    (case at_BadSize => k_is)
    (case ai_BadSize => k_is)
    (case ag_BadCounts => k_is)
    (case ax_BadCounts => k_exc)
    (case ak_BadCounts => k_is)
    (case ap_BadCounts => k_is)
    (case at_BadCounts => k_is)
    (case ai_BadCounts => k_is)
    (case ag_BadHouse => k_is)
    (case ax_BadHouse => k_exc)
    (case ak_BadHouse => k_is)
    (case ap_BadHouse => k_is)
    (case at_BadHouse => k_is)
    (case ai_BadHouse => k_is)
    (case ag_BadCase => k_is)
    (case ax_BadCase => k_exc)
    (case ak_BadCase => k_is)
    (case ap_BadCase => k_is)
    (case at_BadCase => k_is)
    (case ai_BadCase => k_is)
    (case ag_BadStep => k_is)
    (case ak_BadStep => k_is)
    (case ap_BadStep => k_is)
    (case at_BadStep => k_is)
    (case ai_BadStep => k_is)
    (case ag_BadQuestion => k_is)
    (case ax_BadQuestion => k_exc)
    (case ak_BadQuestion => k_is)
    (case ap_BadQuestion => k_is)
    (case at_BadQuestion => k_is)
    (case ai_BadQuestion => k_is)
    (case ag_BadKey => k_is)
    (case ax_BadKey => k_exc)
    (case ak_BadKey => k_is)
    (case ap_BadKey => k_is)
    (case at_BadKey => k_is)
    (case ai_BadKey => k_is)
    (case ag_BadPair => k_is)
    (case ax_BadPair => k_exc)
    (case ak_BadPair => k_is)
    (case ap_BadPair => k_is)
    (case at_BadPair => k_is)
    (case ai_BadPair => k_is)
    (case ag_BadRenaming => k_is)
    (case ax_BadRenaming => k_exc)
    (case ak_BadRenaming => k_is)
    (case ap_BadRenaming => k_is)
    (case at_BadRenaming => k_is)
    (case ai_BadRenaming => k_is)
    (case ag_BadSpot => k_is)
    (case ax_BadSpot => k_exc)
    (case ak_BadSpot => k_is)
    (case ap_BadSpot => k_is)
    (case at_BadSpot => k_is)
    (case ai_BadSpot => k_is)
    (case ag_TooMany => k_is)
    (case ax_TooMany => k_exc)
    (case ak_TooMany => k_is)
    (case ap_TooMany => k_is)
    (case at_TooMany => k_is)
    (case ai_TooMany => k_is)
    (case ag_NotEnough => k_is)
    (case ax_NotEnough => k_exc)
    (case ak_NotEnough => k_is)
    (case ap_NotEnough => k_is)
    (case at_NotEnough => k_is)
    (case ai_NotEnough => k_is)
    (case ag_BadScheme => k_is)
    (case ax_BadScheme => k_exc)
    (case ak_BadScheme => k_is)
    (case ap_BadScheme => k_is)
    (case at_BadScheme => k_is)
    (case ai_BadScheme => k_is)
    (case ag_NotWithin => k_is)
    (case ax_NotWithin => k_exc)
    (case ak_NotWithin => k_is)
    (case ap_NotWithin => k_is)
    (case at_NotWithin => k_is)
    (case ai_NotWithin => k_is)
    (case ag_BadLog => k_is)
    (case ax_BadLog => k_exc)
    (case ak_BadLog => k_is)
    (case ap_BadLog => k_is)
    (case at_BadLog => k_is)
    (case ai_BadLog => k_is)
    (case ag_BadLane => k_is)
    (case ax_BadLane => k_exc)
    (case ak_BadLane => k_is)
    (case ap_BadLane => k_is)
    (case at_BadLane => k_is)
    (case ai_BadLane => k_is)
    (case ag_NothingToUndo => k_is)
    (case ax_NothingToUndo => k_exc)
    (case ak_NothingToUndo => k_is)
    (case ap_NothingToUndo => k_is)
    (case at_NothingToUndo => k_is)
    (case ai_NothingToUndo => k_is)
    (case ag_BadText => k_is)
    (case ak_BadText => k_is)
    (case ap_BadText => k_is)
    (case at_BadText => k_is)
    (case ai_BadText => k_is)
    (case ag_BadCommand => k_is)
    (case ax_BadCommand => k_exc)
    (case ak_BadCommand => k_is)
    (case ap_BadCommand => k_is)
    (case at_BadCommand => k_is)
    (case ai_BadCommand => k_is)
    (case ic_BadStep => k_is)
    (case ti_BadStep => k_is)
    (case l_init_BadStep => k_is)
    (case c_init_BadStep => k_is)
    (case k_init_BadStep => k_is)
    (case lk_BadStep => k_is)
    (case rf_BadStep => decide +kernel)
    (case sa_BadStep => k_is)
    (case no_BadStep => k_is)
    (case hd_BadStep => k_is)
    (case ic_BadText => k_is)
    (case ti_BadText => k_is)
    (case l_init_BadText => k_is)
    (case c_init_BadText => k_is)
    (case k_init_BadText => k_is)
    (case lk_BadText => k_is)
    (case rf_BadText => decide +kernel)
    (case sa_BadText => k_is)
    (case no_BadText => k_is)
    (case hd_BadText => k_is)
    (case cl_BadKind => k_is)
    (case ga_BadKind => k_is)
    (case gg_BadKind => k_is)
    (case gc_BadKind => k_is)
    (case cl_BadCount => k_is)
    (case ga_BadCount => k_is)
    (case gg_BadCount => k_is)
    (case gc_BadCount => k_is)
    (case cl_BadMark => k_is)
    (case ga_BadMark => k_is)
    (case gg_BadMark => k_is)
    (case gc_BadMark => k_is)
    (case cl_BadSize => k_is)
    (case ga_BadSize => k_is)
    (case gg_BadSize => k_is)
    (case gc_BadSize => k_is)
    (case cl_BadCounts => k_is)
    (case ga_BadCounts => k_is)
    (case gg_BadCounts => k_is)
    (case gc_BadCounts => k_is)
    (case cl_BadHouse => k_is)
    (case ga_BadHouse => k_is)
    (case gg_BadHouse => k_is)
    (case gc_BadHouse => k_is)
    (case cl_BadCase => k_is)
    (case ga_BadCase => k_is)
    (case gg_BadCase => k_is)
    (case gc_BadCase => k_is)
    (case cl_BadQuestion => k_is)
    (case ga_BadQuestion => k_is)
    (case gg_BadQuestion => k_is)
    (case gc_BadQuestion => k_is)
    (case cl_BadKey => k_is)
    (case ga_BadKey => k_is)
    (case gg_BadKey => k_is)
    (case gc_BadKey => k_is)
    (case cl_BadPair => k_is)
    (case ga_BadPair => k_is)
    (case gg_BadPair => k_is)
    (case gc_BadPair => k_is)
    (case cl_BadRenaming => k_is)
    (case ga_BadRenaming => k_is)
    (case gg_BadRenaming => k_is)
    (case gc_BadRenaming => k_is)
    (case cl_BadSpot => k_is)
    (case ga_BadSpot => k_is)
    (case gg_BadSpot => k_is)
    (case gc_BadSpot => k_is)
    (case cl_TooMany => k_is)
    (case ga_TooMany => k_is)
    (case gg_TooMany => k_is)
    (case gc_TooMany => k_is)
    (case cl_NotEnough => k_is)
    (case ga_NotEnough => k_is)
    (case gg_NotEnough => k_is)
    (case gc_NotEnough => k_is)
    (case cl_BadScheme => k_is)
    (case ga_BadScheme => k_is)
    (case gg_BadScheme => k_is)
    (case gc_BadScheme => k_is)
    (case cl_NotWithin => k_is)
    (case ga_NotWithin => k_is)
    (case gg_NotWithin => k_is)
    (case gc_NotWithin => k_is)
    (case cl_BadLog => k_is)
    (case ga_BadLog => k_is)
    (case gg_BadLog => k_is)
    (case gc_BadLog => k_is)
    (case cl_BadLane => k_is)
    (case ga_BadLane => k_is)
    (case gg_BadLane => k_is)
    (case gc_BadLane => k_is)
    (case cl_NothingToUndo => k_is)
    (case ga_NothingToUndo => k_is)
    (case gg_NothingToUndo => k_is)
    (case gc_NothingToUndo => k_is)
    (case cl_BadCommand => k_is)
    (case ga_BadCommand => k_is)
    (case gg_BadCommand => k_is)
    (case gc_BadCommand => k_is)
    (case cl_BadStep => k_is)
    (case ga_BadStep => k_is)
    (case gg_BadStep => k_is)
    (case gc_BadStep => k_is)
    (case cl_BadText => k_is)
    (case ga_BadText => k_is)
    (case gg_BadText => k_is)
    (case gc_BadText => k_is)
    (case nd => decide +kernel)
    (case nr => decide +kernel)
    (case hn => k_is)
    (case ht => k_is)
    (case h1 => k_is)
    (case h3 => k_is)
    (case h4 => k_is)
