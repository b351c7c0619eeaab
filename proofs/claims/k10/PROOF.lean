import PyProof.Rows.All
import Wide.All
import OpenK.AllK
import Wide.FinOn
import KE.KExcSuper
import KE.KSuper
import HandS.Base
import HandS.Call
import HandS.Exc
import HandS.ExcInit
import HandS.Nested
import KE.KExcIs
import HandS.ForMost
import HandS.ForExc
import HandS.IsInst
import HandS.FStr
import HandS.RaiseMore
import HandS.Style
import HandS.ExcField
import HandS.Wide
import HandS.Evl
import HandS.CallSlots
import KE.KStateDown
import KE.KExcInit
import HandS.Defaults
import HandS.Head0
import HandS.Head1
import HandS.Head2
import HandS.HeadEnd
import HandS.HeadHook1
import HandS.HeadHook2
import HandS.HeadHook3
import HandS.Property
import HandS.SetFor
import HandS.Strs
import HandS.SortInts
import HandS.TupAny
import HandS.Star
import HandS.Small
import HandS.SetBool
import PyProof.Draws
import PyProof.EnumMake
import HandS.TupSets
import PyProof.FactsAll.set_2
import HandS.DictComp
import HandS.Deep
import PyProof.P3In
import HandS.Records
import HandS.OwnIter
import HandS.IterVal
import PySem.Challenge.RW_leastshelf_k10_field_one_form
set_option Elab.async false
set_option linter.all false
set_option maxRecDepth 100000
set_option maxHeartbeats 4000000
/-! own error classes whose __init__ says super().__init__(text) and then stores its one field -/
namespace Sup
open PySem PySem.Spec PyProof.Rows L2 NdefX PySem.W
/-- what the class C (own or inheriting the __init__ of D) says -/
structure SupC (K : Frag) (C D : Addr) (fld : Str) : Prop where
  ox : OexC K C
  sub : subIn K (.ref C) (.type "ValueError") = some true
  sD : mroIn K C (.ref D) = some true
  al : ks_superIn K C D "__init__" = some (some (.builtin "ValueError.__init__"))
  nf : findIn K (.ref C) fld = some none
/-- what the written part says of the __init__ at f, of D -/
structure SupF (P : Program) (K : Frag) (D f : Addr) (qual : Str) (params : Arguments) (body : List Stmt) (scope : Scope) (fd : FuncData) : Prop where
  ex : ∃ (oc : Value) (od : Option Addr) (dV kV doc pm : Value) (an : Option Addr) (c cc : Addr) (ct : Value) (osl : Array (Option Value)) (ccl : Value) (cdd : Option Addr) (vs : Array Value) (ccs : Array (Option Value)) (file : Str) (tf : Tok) (cl : Value) (cld : Option Addr) (csl : Array (Option Value)),
    fd = fnX "__init__" qual params body scope [("__class__", cc)] dV kV doc pm an (.ref c) ct ∧
    K.lookup f = some ⟨oc, od, .func fd, osl⟩ ∧ codeIn K (.ref c) qual = true ∧
    K.lookup c = some ⟨ccl, cdd, .fields vs, ccs⟩ ∧ vs[2]? = some (.str file tf) ∧ ((P.main.file : Str) == file) = true ∧
    K.lookup cc = some ⟨cl, cld, .cell (some (.ref D)), csl⟩
  top : (P.main.scope.names.lookup ("super" : Str)).isSome = false
  cD : (clsIn K D).isSome = true
  op : nsIn K cStatics "thirdparty.any" = some none
  fn : typeIn K (.ref f) = some (.type "function")
/-- the promise: the field holds the argument -/
def spSup (K : Frag) (D : Addr) (fld : Str) (Pre : V → Hp → Prop) : Sp := fun vs H Q _ => ∃ (a C : Addr) (v : V), vs = [.ref a, v] ∧ H a = some (exo a C none) ∧ SupC K C D fld ∧ Pre v H ∧
  ∀ dx, H dx = none → dx ≠ a → Q .non (upd (upd H dx (exd dx [(fld, v)])) a (exo a C (some dx)))
theorem look1 {α : Type} {x y : Str} {a b : α} (h : List.lookup y [(x, a)] = some b) : y = x ∧ b = a := by
  by_cases e : y = x
  · subst e
    simp [List.lookup] at h
    exact ⟨rfl, h.symm⟩
  · have q : (y == x) = false := by simpa using e
    simp [List.lookup, q] at h
theorem fn_sup {CX : CXT} {P : Program} {w : World} {K : Frag} {mg : Str → Option Value} {base : Heap} {k : Nat} {f D : Addr} {qual : Str} {params : Arguments} {scope : Scope} {fd : FuncData} {fld : Str} {e : Expr} {te : TE} {Pre : V → Hp → Prop}
    {p0 p1 p2 p3 p4 p5 p6 p7 p8 : Pos} {ar : Arg} {pl : Sem Bool}
    (F : SupF P K D f qual params [.Expr (.Call (.Attribute (.Call (.Name "super" p0) [] [] p1) "__init__" p2) [e] [] p3) p4, .Assign [.Attribute (.Name "self" p5) fld p6] (.Name fld p7) p8] scope fd)
    (S : NScope [("self" : Str), fld, ("__class__" : Str)] [("self" : Str), fld] [("__class__" : Str)] scope) (hks : scope.names.lookup ("super" : Str) = some .globalImplicit) (hsm : mg ("super" : Str) = none)
    (hp : (params.posonlyargs ++ params.args).head? = some ar) (har : ar.arg = ("self" : Str))
    (hd1 : (fld == ("__debug__" : Str)) = false) (hd2 : (fld == ("__classdict__" : Str)) = false)
    (hsw : ∀ env : Env, swapsWith (.Name fld p7) (some (.Attribute (.Name "self" p5) fld p6)) p8.line env = pure false)
    (hsw2 : ∀ env : Env, swapsWith (.Call (.Attribute (.Call (.Name "super" p0) [] [] p1) "__init__" p2) [e] [] p3) none p4.line env = pure false)
    (hst : ∀ env : Env, starEach [e] env = (false, eval e env) :: starEach [] env)
    (hev : ∀ env : Env, eval (.Call (.Attribute (.Call (.Name "super" p0) [] [] p1) "__init__" p2) [e] [] p3) env = (do
      let ov ← attributeBase (.Call (.Name "super" p0) [] [] p1) "__init__" env (eval (.Call (.Name "super" p0) [] [] p1) env)
      standAt p2.atName
      let (f, first) ← holding [ov] (getMethod ov "__init__" pl)
      callWith p3 f first (backTo p3 (starEach [e] env)) []))
    (he : ∀ X : Cx, X.prog = P → X.w = w → X.K = K → X.mg = mg → X.base = base → X.N = [("self" : Str), fld, ("__class__" : Str)] → X.env.scope = scope → X.calm = true → Room k X.A → PE X e te)
    (hte : ∀ (a : Addr) (v : V) (H : Hp) (Q : VK), Pre v H → (∀ y : Str, y.length ≤ sizeLine → Q (.str y) H) → te [some (.ref a), some v, some (.ref D)] H Q) :
    FnOk P w K mg base CX (k + 1) f fd [("self" : Str), fld] (spSup K D fld Pre) := by
  obtain ⟨⟨oc, od, dV, kV, doc, pm, an, c, cc, ct, osl, ccl, cdd, vs, ccs, file, tf, cl, cld, csl, rfl, lk, hcd, hcode, hvs, hfile, hcell⟩, htop, hcD, hop, hfn⟩ := F
  refine ⟨fun vs H Q E ⟨a, C, v, e1, _⟩ => by rw [e1] <;> rfl, fun A outer s H args us vs' Q E hr e0 hb r hsp => ?_⟩
  obtain ⟨a, C, v, rfl, ha, SC, hpre, hq⟩ := hsp
  let NFF : NF := ⟨"__init__", qual, params, [.Expr (.Call (.Attribute (.Call (.Name "super" p0) [] [] p1) "__init__" p2) [e] [] p3) p4, .Assign [.Attribute (.Name "self" p5) fld p6] (.Name fld p7) p8], scope, [("__class__", cc)], c⟩
  have KX : K.In s.heap := e0.mod.kin.keeps fun b o e => (e0.bs b o e).1
  have lim : s.heap.NoLimit := e0.mod.nolimit.keeps fun b o e => (e0.bs b o e).1
  have hcn : H cc = none := (e0.bs _ _ (e0.mod.kin _ _ hcell)).2
  have CA : CellsAt NFF.cl [("__class__" : Str)] [some (.ref D)] s.heap H := by
    refine ⟨rfl, fun y q h => ?_, fun x y q h1 h2 => ?_, fun i y h => ?_⟩
    · obtain ⟨rfl, rfl⟩ := look1 (show List.lookup y [(("__class__" : Str), cc)] = some q from h)
      exact ⟨hcn, some (.ref D), _, KX _ _ hcell, rfl⟩
    · obtain ⟨e1, _⟩ := look1 (show List.lookup x [(("__class__" : Str), cc)] = some q from h1)
      obtain ⟨e2, _⟩ := look1 (show List.lookup y [(("__class__" : Str), cc)] = some q from h2)
      rw [e1, e2]
    · cases i with
      | zero =>
        have ey : ("__class__" : Str) = y := Option.some.inj h
        subst ey
        refine ⟨cc, ?_, fun v hv => ?_⟩
        · show List.lookup ("__class__" : Str) [(("__class__" : Str), cc)] = some cc
          simp [List.lookup]
        · have ev : V.ref D = v := Option.some.inj (Option.some.inj hv)
          subst ev
          exact ⟨.ref D, rfl, _, KX _ _ hcell, rfl⟩
      | succ i => simp at h
  have hnoc : ∀ x ∈ scope.names, x.2 ≠ .cell := S.nocell
  have hloc : ∀ y ∈ ([("self" : Str), fld].zip us), scope.names.lookup y.1 = some .local := fun ⟨n, u⟩ hy => S.par n (List.of_mem_zip hy).1
  refine ks_codeAny_call_defAt (fd := fnX "__init__" qual params _ scope [("__class__", cc)] dV kV doc pm an (.ref c) ct) (args := args) (binds := [("self" : Str), fld].zip us) hr.depth (KX _ _ lk) rfl lim (codeRec_of KX hcd) rfl hb hnoc hloc (fun h₁ hns kp => ?_) S.co S.gen S.kind
  have I : Inv (ncx CX P w K mg base [("self" : Str), fld, ("__class__" : Str)] NFF f A outer s H E) [] (startF [("self" : Str), fld, ("__class__" : Str)] [.ref a, v] [some (.ref D)]) H { s with heap := h₁, toks := s.toks + ([("self" : Str), fld].zip us).length } := inv_startN S hr.hd e0 rfl r CA hns kp
  let X : Cx := ncx CX P w K mg base [("self" : Str), fld, ("__class__" : Str)] NFF f A outer s H E
  have hr0 : Room k X.A := hr.deeper _
  have hka : scope.names.lookup ("self" : Str) = some .local := S.par _ (by simp)
  have hkf : scope.names.lookup fld = some .local := S.par _ (by simp)
  have hkc : scope.names.lookup ("__class__" : Str) = some .free := S.frk _ (by simp)
  obtain ⟨u0, u1, rfl, r0, r1⟩ : ∃ u0 u1, us = [u0, u1] ∧ RelV (.ref a) u0 ∧ RelV v u1 := by
    cases r with
    | cons p q =>
      cases q with
      | cons p' q' =>
        cases q'
        exact ⟨_, _, rfl, p, p'⟩
  cases (show u0 = Value.ref a from r0)
  have ndP : ([("self" : Str), fld] : List Str).Nodup := by
    have q := S.nd
    simp only [List.nodup_cons, List.mem_cons, List.not_mem_nil, or_false, not_or] at q ⊢
    exact ⟨q.1.1, by simp, List.nodup_nil⟩
  have hself : ([("self" : Str), fld].zip [Value.ref a, u1]).reverse.lookup ("self" : Str) = some (.ref a) := zip_look (i := 0) ndP rfl rfl
  obtain ⟨cdD, hD⟩ := Option.isSome_iff_exists.mp hcD
  obtain ⟨t1, hx⟩ := exo_at I.hok ha
  show _root_.PySem.wpAt (model P w) X.A (.func NFF.body X.env) (execs (.Expr (.Call (.Attribute (.Call (.Name "super" p0) [] [] p1) "__init__" p2) [e] [] p3) p4 :: [.Assign [.Attribute (.Name "self" p5) fld p6] (.Name fld p7) p8]) X.env) _ _ _
  refine ks_wpAt_execs_cons (ks_wpAt_Expr_any (ks_wpAt_MethodCall (pl := pl) ?_ (hev _)) (by first | rfl | (unfold interactive; rw [show X.env.scope.kind = .function from S.kind] <;> rfl) | (unfold interactive; simp [show X.env.scope.kind = .function from S.kind])) (hsw2 _))
  refine ks_wpAt_super_base (f := f) (cc := c) (ar := ar) hks hkc (by decide) rfl (I.kIn _ _ lk) rfl hp rfl (I.kIn _ _ hcode) rfl hvs hfile htop ?_
  obtain ⟨mb, hb1, hb2⟩ := I.mod.blt
  refine ks_loadName_global S.kind hks (Calls.loadGlobal_builtin (env := X.env) (by rw [I.ok.glob]; exact I.mod.glob.keeps I.bk) hsm (by rw [I.ok.blt]; exact hb1.keeps I.bk) ((hb2 ("super" : Str) (by decide)).trans Boot.«super») ⟨rfl, ?_⟩)
  refine wpAny_loadName_free S.kind hkc rfl ⟨_, I.kIn _ _ hcell, rfl⟩ ?_
  rw [har]
  refine wpAny_loadName_local S.kind hka hns hself ?_
  obtain ⟨oD, hD1, hD2⟩ : ∃ oD, K.lookup D = some oD ∧ oD.data = .cls cdD := by
    unfold clsIn at hD
    split at hD
    · rename_i c' d' cd' sl' ho
      cases hD
      exact ⟨_, ho, rfl⟩
    · cases hD
  have hD1' := I.kIn _ _ hD1
  refine ks_wpAny_isType_cls hD1' hD2 ⟨rfl, ?_⟩
  obtain ⟨nm, q, NN, bs, bm, sn, sub, ab, col, dd, k0, k1, k2, k3, k5, hC, hbm⟩ := SC.ox.cls
  refine ks_wpAny_call_super hD1' hD2 hx rfl (fun c e => by cases e) (looks_mroIn I.kIn SC.sD) (fun h' e1 kp1 => ?_)
  have I1 : Inv X [] (startF [("self" : Str), fld, ("__class__" : Str)] [.ref a, v] [some (.ref D)]) H { s with heap := h', toks := s.toks + ([("self" : Str), fld].zip [Value.ref a, u1]).length } := I.kept kp1
  have hcC : ∃ cd, clsIn K C = some cd := by
    unfold clsIn
    rw [hC]
    exact ⟨_, rfl⟩
  obtain ⟨cdC, hcC⟩ := hcC
  have hx1 := kp1 _ _ hx
  have hxC : a ≠ C := fun z => by
    have y := I1.kIn _ _ hC
    rw [← z, hx1] at y
    cases y
  have IA : InstAt h' a ({ cls := .ref C, dict := none, data := .fields #[.ref t1, .none, .none, .none, .bool false, .none] } : Obj) C none := ⟨hx1, rfl, rfl, trivial⟩
  have hal := SC.al
  unfold ks_superIn at hal
  rw [hcC] at hal
  refine kxs_getMethod kxs_ValueError (l₀ := cdC.mro) e1 (looks_opaque I1.kIn hop) (fun A Q E s k q => wpAny_bind ((looks_clsIn I1.kIn hcC) A _ E s k (wpAny_pure q))) rfl I1.kIn hal (IA.type.andThen (looks_subIn I1.kIn SC.sub)) hxC (by decide) ?_
  show wpAny (model P w) X.A (callWith p3 (.ref h'.objs.size) [] (backTo p3 (starEach [e] X.env)) []) _ _ _
  have hmw : (h'.push (kxs_mw "ValueError.__init__" a)).get? h'.objs.size = some (kxs_mw "ValueError.__init__" a) := Heap.get?_push_size h' rfl
  have I2 : Inv X [(h'.objs.size, kxs_mw "ValueError.__init__" a)] (startF [("self" : Str), fld, ("__class__" : Str)] [.ref a, v] [some (.ref D)]) H
      { s with heap := h'.push (kxs_mw "ValueError.__init__" a), toks := s.toks + ([("self" : Str), fld].zip [Value.ref a, u1]).length + 1 } := by
    have J : Inv X [] (startF [("self" : Str), fld, ("__class__" : Str)] [.ref a, v] [some (.ref D)]) H { s with heap := h'.push (kxs_mw "ValueError.__init__" a), toks := s.toks + ([("self" : Str), fld].zip [Value.ref a, u1]).length + 1 } :=
      I1.kept (t' := s.toks + ([("self" : Str), fld].zip [Value.ref a, u1]).length + 1) fun b o z => Heap.get?_push_of_some _ z
    refine J.pins_of fun p hp => ?_
    have ep : p = (h'.objs.size, kxs_mw "ValueError.__init__" a) := List.mem_singleton.mp hp
    subst ep
    have hlt := I1.lt
    refine ⟨hmw, I1.hok.fresh (Nat.le_refl _), Nat.ne_of_gt hlt, I1.nofs (Nat.le_refl _), fun v z => by cases z⟩
  have hPA : PA X [e] (tCons te tNil) := pa_cons (he X rfl rfl rfl rfl rfl rfl rfl rfl hr0) pa_nil (hs := hst X.env)
  refine kxs_callWith (i := "ValueError.__init__") (x := a) (by rw [hst]; rfl) ?_
  rw [hst]
  refine Calls.evalArgs_plain ?_
  show wpAny _ _ (spliced (backTo p3 ((false, eval e X.env) :: starEach [] X.env))) _ _ _
  rw [← hst]
  refine thn (hPA.run p3 _ _ _ H (fun vs H' => H' = H ∧ ∃ y, vs = [.str y]) I2 ?_) fun us s2 ⟨vs2, H2, I3, r3, eH, y, ev⟩ => ?_
  · refine hte a v H _ hpre fun y hy => ?_
    exact ⟨rfl, y, rfl⟩
  subst eH ev
  obtain ⟨hu, _⟩ := I3.pin (h'.objs.size, kxs_mw "ValueError.__init__" a) (by simp)
  refine ⟨hu, ?_⟩
  obtain ⟨t2, hx3⟩ := exo_at I3.hok ha
  have hlen : us.length ≤ sizeLine := by
    have q := r3.length
    simp at q
    rw [← q]
    decide
  obtain ⟨h3, g3, d3, t3, os3⟩ := s2
  refine wpAny_call (codeAny_of_tree ?_)
  show wpAny _ X.A.in1 (callAny (.ref h'.objs.size) ⟨us, []⟩) _ _ _
  simp only [callAny]
  refine wpAny_bind (wpAny_load hu ?_)
  simp only [kxs_mw, show (Value.type "method-wrapper" == Value.type "method" || Value.type "method-wrapper" == Value.type "builtin_function_or_method" || Value.type "method-wrapper" == Value.type "method-wrapper") = true by decide, if_true]
  refine KFB.if_so (by decide) ?_
  refine wpAny_bind (check_bound_init F.excBase_ValueError.toExcCallFacts (I3.kIn _ _ hC) hx3 rfl ?_)
  refine wpAny_bind (wpAny_pure (wpAny_pure ?_))
  refine ⟨plainId_quiet F.excBase_ValueError.init.plain _, codeAny_builtin F.excBase_ValueError.initEntry ?_⟩
  refine exc_init_tree (cls := .ref C) (t0 := t2) (dv := none) (c2 := .none) (c3 := .none) (b4 := .bool false) hx3 hlen fun h4 kp4 hx4 _ => ?_
  have I4 : Inv X [(h'.objs.size, kxs_mw "ValueError.__init__" a)] (startF [("self" : Str), fld, ("__class__" : Str)] [.ref a, v] [some (.ref D)]) H2 ⟨h4, g3, d3, t3, os3⟩ := by
    have J := I3.write (t' := t3) (x := a) (e := a) (o := exo a C none) (by rw [ha]; exact True.intro) (.inl rfl) kp4 ⟨_, hx4⟩ (exo_ok hx4)
    have eu : upd H2 a (exo a C none) = H2 := by
      funext b
      by_cases hb : b = a
      · rw [hb, upd_same, ha]
      · rw [upd_ne hb]
    rw [eu] at J
    exact J
  have I5 : Inv X [] (startF [("self" : Str), fld, ("__class__" : Str)] [.ref a, v] [some (.ref D)]) H2 ⟨h4, g3, d3, t3, os3⟩ := I4.pins_of fun p hp => by cases hp
  have hPS : PSs X [.Assign [.Attribute (.Name "self" p5) fld p6] (.Name fld p7) p8] (tOst X.K fld (tVar 0) (tVar 1)) := by
    refine pss_one (ps_ost (pe_var (i := 0) rfl (.inl hka)) (pe_var (i := 1) rfl (.inl hkf) hd1 hd2) (hsw _))
  show _root_.PySem.wpAt (model P w) X.A (.func NFF.body X.env) (execs [.Assign [.Attribute (.Name "self" p5) fld p6] (.Name fld p7) p8] X.env) _ _ _
  refine wpAt_of_wpAny ?_
  refine wpAny_mono (hPS.run [] _ _ H2 { nx := fun _ H' => Q .non H', rt := Q } I5 ?_) (fun fl s' hs => ?_) fun e s' hs => hs
  · refine ⟨v, rfl, .ref a, rfl, a, C, rfl, SC.ox, SC.nf, .inl ⟨ha, fun dx n ne => ?_⟩⟩
    exact hq dx n ne
  · cases fl with
    | ret u =>
      obtain ⟨v', σ', H', J, rv, q⟩ := hs
      exact ⟨v', H', J.os, J.bare, J.base, J.hok, rv, q⟩
    | next =>
      obtain ⟨σ', H', J, q⟩ := hs
      exact ⟨V.non, H', J.os, J.bare, J.base, J.hok, rfl, q⟩
    | brk =>
      obtain ⟨_, _, _, q⟩ := hs
      exact False.elim q
    | cont =>
      obtain ⟨_, _, _, q⟩ := hs
      exact False.elim q
end Sup

set_option Elab.async false
set_option linter.all false
set_option maxRecDepth 100000
set_option maxHeartbeats 4000000
namespace Lk
open PySem PySem.Spec PyProof.Rows L2
/-! ### more calls -/
section
variable {X : Cx}
theorem call_str_none : CallR X (.type "str") (fun xs H Q => xs = [.non] ∧ Q (.str "None") H) := by
  intro pins s σ H xs us Q I r h
  obtain ⟨rfl, q⟩ := h
  obtain ⟨u, rfl, r1⟩ := vals1 r
  cases (show u = Value.none from r1)
  exact PySem.P.str_of_none ⟨.str _, H, I.tok _, ⟨_, rfl⟩, q⟩
theorem call_str_bool : CallR X (.type "str") (fun xs H Q => ∃ b, xs = [.bl b] ∧ Q (.str (if b then "True" else "False")) H) := by
  intro pins s σ H xs us Q I r h
  obtain ⟨b, rfl, q⟩ := h
  obtain ⟨u, rfl, r1⟩ := vals1 r
  cases (show u = Value.bool b from r1)
  exact PySem.P.str_of_bool ⟨.str _, H, I.tok _, ⟨_, rfl⟩, q⟩
theorem CallR.or {f : Value} {r r' : List V → Hp → VK → Prop} (h : CallR X f r) (h' : CallR X f r') : CallR X f (fun xs H Q => r xs H Q ∨ r' xs H Q) := by
  intro pins s σ H xs us Q I rx q
  rcases q with q | q
  · exact h pins s σ H xs us Q I rx q
  · exact h' pins s σ H xs us Q I rx q
theorem call_repr_str : CallR X (.builtin "repr") (fun xs H Q => ∃ a, xs = [.str a] ∧ (reprText a).length ≤ sizeLine ∧ Q (.str (reprText a)) H) := by
  intro pins s σ H xs us Q I r h
  obtain ⟨a, rfl, hz, q⟩ := h
  obtain ⟨u, rfl, t, rfl⟩ := vals1 r
  exact PySem.P.repr_of_str ⟨.str _, H, I.tok _, ⟨_, rfl⟩, q⟩ hz
end
/-! ### a op b op c op d -/
section
variable {X : Cx} {a b c d : Expr} {ta tb tc td : TE} {pos : Pos}
def tChain3 (r r' r'' : R2) (ta tb tc td : TE) : TE := fun σ H Q => ta σ H fun x H1 => tb σ H1 fun y H2 => r x y H2 fun z H3 => ∃ k, z = .bl k ∧
  (if k = true then tc σ H3 fun w' H4 => r' y w' H4 fun z' H5 => ∃ k', z' = .bl k' ∧ (if k' = true then td σ H5 fun w2 H6 => r'' w' w2 H6 Q else Q (.bl false) H5) else Q (.bl false) H3)
theorem pe_chain3 {op op' op'' : CmpOp} {r r' r'' : R2} (ho : OpR X (compareOp op) r) (ho' : OpR X (compareOp op') r') (ho'' : OpR X (compareOp op'') r'') (ha : PE X a ta) (hb : PE X b tb) (hc : PE X c tc) (hd : PE X d td)
    (hm : lastMarks [op, op', op''] [b, c, d] = false := by with_unfolding_all rfl) : PE X (.Compare a [op, op', op''] [b, c, d] pos) (tChain3 r r' r'' ta tb tc td) := by
  refine ⟨fun pins s σ H Q I h => ?_⟩
  refine Compare_chain (thn (ha.run pins s σ H _ I h) fun v s1 ⟨x, H1, I1, r1, q1⟩ => chain_link (thn (hb.run pins s1 σ H1 _ I1 q1) fun u s2 ⟨y, H2, I2, r2, q2⟩ =>
    thn (ho pins s2 σ H2 x y v u _ I2 r1 r2 q2) fun d s3 ⟨z, H3, I3, r3, k, e, q3⟩ => ?_)) hm
  subst e
  cases r3
  refine wpAny_truthy_bool ?_
  cases k with
  | false => exact ite_ff ⟨.bl false, H3, I3, rfl, q3⟩
  | true =>
    refine ite_tt (chain_link (thn (hc.run pins s3 σ H3 _ I3 q3) fun w' s4 ⟨z', H4, I4, r4, q4⟩ => thn (ho' pins s4 σ H4 y z' u w' _ I4 r2 r4 q4) fun d' s5 ⟨z2, H5, I5, r5, k', e', q5⟩ => ?_))
    subst e'
    cases r5
    refine wpAny_truthy_bool ?_
    cases k' with
    | false => exact ite_ff ⟨.bl false, H5, I5, rfl, q5⟩
    | true => exact ite_tt (chain_last (thn (hd.run pins s5 σ H5 _ I5 q5) fun w2 s6 ⟨z3, H6, I6, r6, q6⟩ => ho'' pins s6 σ H6 z' z3 w' w2 Q I6 r4 r6 q6))
end
/-! ### data and their types -/
def tname : PyData → String
  | .none => "NoneType"
  | .bool _ => "bool"
  | .int _ => "int"
  | .str _ => "str"
  | .list _ => "list"
  | .tuple _ => "tuple"
  | .dict _ => "dict"
theorem ty_of {K : PySem.W.Frag} {H : Hp} {v : V} {d : PyData} (h : Dp K H v d) : TyX K H v (.type (tname d)) := by
  cases h with
  | non => exact .base .non
  | bl b => exact .base (.bl b)
  | int i => exact .base (.int i)
  | str x => exact .base (.str x)
  | lst h _ =>
    rcases h with (h | ⟨o, h⟩) | h
    · exact .base (.lst h)
    · exact .base (.frz h)
    · obtain ⟨o, its, n, e, c, _⟩ := h
      exact .kList e c
  | tup h _ =>
    rcases h with (h | ⟨o, h⟩) | h
    · exact .base (.tup h)
    · exact .fTuple h
    · obtain ⟨o, its, n, e, c, _⟩ := h
      exact .kTuple e c
/-- isinstance(data, T), T a built-in class -/
def isI (T : String) (d : PyData) : Bool := (kitB (tname d) T).getD false
def okT (T : String) : Bool := ["NoneType", "bool", "int", "str", "list", "tuple", "dict"].all fun t => (kitB t T).isSome
theorem kit_isI {T : String} (h : okT T = true) (d : PyData) : kitB (tname d) T = some (isI T d) := by
  have q : ∀ t ∈ ["NoneType", "bool", "int", "str", "list", "tuple", "dict"], (kitB t T).isSome = true := by
    unfold okT at h
    rw [List.all_eq_true] at h
    exact h
  have m : tname d ∈ ["NoneType", "bool", "int", "str", "list", "tuple", "dict"] := by cases d <;> simp [tname]
  obtain ⟨b, hb⟩ := Option.isSome_iff_exists.mp (q _ m)
  unfold isI
  rw [hb] <;> rfl
theorem okT_int : okT "int" = true := by decide +kernel
theorem okT_bool : okT "bool" = true := by decide +kernel
theorem okT_str : okT "str" = true := by decide +kernel
theorem okT_list : okT "list" = true := by decide +kernel
theorem okT_tuple : okT "tuple" = true := by decide +kernel
theorem okT_dict : okT "dict" = true := by decide +kernel
def rIsD (K : PySem.W.Frag) : List V → Hp → VK → Prop := fun xs H Q => ∃ (x : V) (T : String) (d : PyData), xs = [x, .ty T] ∧ okT T = true ∧ Dp K H x d ∧ Q (.bl (isI T d)) H
theorem call_isD {X : Cx} : CallR X (.builtin "isinstance") (rIsD X.K) := by
  intro pins s σ H xs us Q I r h
  obtain ⟨x, T, d, rfl, hT, hd, q⟩ := h
  exact call_isi pins s σ H _ us Q I r ⟨x, .ty T, .type (tname d), .type T, isI T d, rfl, .ty T, ty_of hd, kit_ty (kit_isI hT d), q⟩
theorem isI_int_int (i : Int) : isI "int" (.int i) = true := by show (kitB "int" "int").getD false = true; decide +kernel
theorem isI_int_bool (i : Bool) : isI "int" (.bool i) = true := by show (kitB "bool" "int").getD false = true; decide +kernel
theorem isI_int_none : isI "int" .none = false := by show (kitB "NoneType" "int").getD false = false; decide +kernel
theorem isI_int_str (i : Str) : isI "int" (.str i) = false := by show (kitB "str" "int").getD false = false; decide +kernel
theorem isI_int_list (i : List PyData) : isI "int" (.list i) = false := by show (kitB "list" "int").getD false = false; decide +kernel
theorem isI_int_tuple (i : List PyData) : isI "int" (.tuple i) = false := by show (kitB "tuple" "int").getD false = false; decide +kernel
theorem isI_bool_int (i : Int) : isI "bool" (.int i) = false := by show (kitB "int" "bool").getD false = false; decide +kernel
theorem isI_bool_bool (i : Bool) : isI "bool" (.bool i) = true := by show (kitB "bool" "bool").getD false = true; decide +kernel
theorem isI_bool_none : isI "bool" .none = false := by show (kitB "NoneType" "bool").getD false = false; decide +kernel
theorem isI_bool_str (i : Str) : isI "bool" (.str i) = false := by show (kitB "str" "bool").getD false = false; decide +kernel
theorem isI_bool_list (i : List PyData) : isI "bool" (.list i) = false := by show (kitB "list" "bool").getD false = false; decide +kernel
theorem isI_bool_tuple (i : List PyData) : isI "bool" (.tuple i) = false := by show (kitB "tuple" "bool").getD false = false; decide +kernel
theorem isI_str_int (i : Int) : isI "str" (.int i) = false := by show (kitB "int" "str").getD false = false; decide +kernel
theorem isI_str_bool (i : Bool) : isI "str" (.bool i) = false := by show (kitB "bool" "str").getD false = false; decide +kernel
theorem isI_str_none : isI "str" .none = false := by show (kitB "NoneType" "str").getD false = false; decide +kernel
theorem isI_str_str (i : Str) : isI "str" (.str i) = true := by show (kitB "str" "str").getD false = true; decide +kernel
theorem isI_str_list (i : List PyData) : isI "str" (.list i) = false := by show (kitB "list" "str").getD false = false; decide +kernel
theorem isI_str_tuple (i : List PyData) : isI "str" (.tuple i) = false := by show (kitB "tuple" "str").getD false = false; decide +kernel
theorem isI_tuple_int (i : Int) : isI "tuple" (.int i) = false := by show (kitB "int" "tuple").getD false = false; decide +kernel
theorem isI_tuple_bool (i : Bool) : isI "tuple" (.bool i) = false := by show (kitB "bool" "tuple").getD false = false; decide +kernel
theorem isI_tuple_none : isI "tuple" .none = false := by show (kitB "NoneType" "tuple").getD false = false; decide +kernel
theorem isI_tuple_str (i : Str) : isI "tuple" (.str i) = false := by show (kitB "str" "tuple").getD false = false; decide +kernel
theorem isI_tuple_list (i : List PyData) : isI "tuple" (.list i) = false := by show (kitB "list" "tuple").getD false = false; decide +kernel
theorem isI_tuple_tuple (i : List PyData) : isI "tuple" (.tuple i) = true := by show (kitB "tuple" "tuple").getD false = true; decide +kernel
theorem isI_list_int (i : Int) : isI "list" (.int i) = false := by show (kitB "int" "list").getD false = false; decide +kernel
theorem isI_list_bool (i : Bool) : isI "list" (.bool i) = false := by show (kitB "bool" "list").getD false = false; decide +kernel
theorem isI_list_none : isI "list" .none = false := by show (kitB "NoneType" "list").getD false = false; decide +kernel
theorem isI_list_str (i : Str) : isI "list" (.str i) = false := by show (kitB "str" "list").getD false = false; decide +kernel
theorem isI_list_list (i : List PyData) : isI "list" (.list i) = true := by show (kitB "list" "list").getD false = true; decide +kernel
theorem isI_list_tuple (i : List PyData) : isI "list" (.tuple i) = false := by show (kitB "tuple" "list").getD false = false; decide +kernel
/-! ### heaps: what stands, but for one object -/
/-- all that was tracked, but at S, is as it was -/
def Ext (S : Addr) (H H' : Hp) : Prop := ∀ b o, b ≠ S → H b = some o → H' b = some o
theorem Ext.refl (S : Addr) (H : Hp) : Ext S H H := fun _ _ _ h => h
theorem Ext.trans {S : Addr} {H H1 H2 : Hp} (a : Ext S H H1) (b : Ext S H1 H2) : Ext S H H2 := fun c o n h => b c o n (a c o n h)
theorem Ext.of {S : Addr} {H H' : Hp} (e : Same H H') : Ext S H H' := fun b o _ h => e b o h
theorem Ext.new {S : Addr} {H : Hp} {p : Addr} {o : HO} (h : H p = none) : Ext S H (upd H p o) := fun a u _ e => by
  rw [upd_ne (ne_of_none e h)]
  exact e
theorem Ext.at {S : Addr} {H : Hp} {o : HO} : Ext S H (upd H S o) := fun a u n e => by
  rw [upd_ne n]
  exact e
theorem same_new {H : Hp} {p : Addr} {o : HO} (h : H p = none) : Same H (upd H p o) := fun a u e => by
  rw [upd_ne (ne_of_none e h)]
  exact e
theorem same_mut {H H' : Hp} {p : Addr} {o : HO} (e : Same H H') (h : H p = none) : Same H (upd H' p o) := fun a u ha => by
  rw [upd_ne (ne_of_none ha h)]
  exact e a u ha
/-- the heap without S -/
def hid (S : Addr) (H : Hp) : Hp := fun b => if b = S then none else H b
theorem hid_le {S : Addr} {H : Hp} : Same (hid S H) H := fun b o h => by
  unfold hid at h
  split at h
  · cases h
  · exact h
theorem hid_ext {S : Addr} {H H' : Hp} (e : Ext S H H') : Same (hid S H) (hid S H') := fun b o h => by
  unfold hid at h ⊢
  split at h
  · cases h
  · rename_i n
    rw [if_neg n]
    exact e b o n h
theorem hid_same {S : Addr} {H H' : Hp} (e : Same H H') : Same (hid S H) (hid S H') := hid_ext (.of e)
theorem hid_at {S b : Addr} {H : Hp} (n : b ≠ S) : hid S H b = H b := if_neg n
theorem seqT_same {K : PySem.W.Frag} {H H' : Hp} {a : Addr} {xs : List V} (e : Same H H') (h : SqT K H a xs) : SqT K H' a xs := by
  rcases h with (h | ⟨o, h⟩) | h
  · exact .inl (.inl (e _ _ h))
  · exact .inl (.inr ⟨o, e _ _ h⟩)
  · exact .inr h
mutual
theorem dp_same {K : PySem.W.Frag} {H H' : Hp} (e : Same H H') : ∀ {d : PyData} {v : V}, Dp K H v d → Dp K H' v d
  | .none, _, h => by cases h; exact .non
  | .bool b, _, h => by cases h; exact .bl b
  | .int i, _, h => by cases h; exact .int i
  | .str x, _, h => by cases h; exact .str x
  | .list ds, _, h => by cases h with | lst h1 h2 => exact .lst (e.seq h1) (dpa_same e h2)
  | .tuple ds, _, h => by cases h with | tup h1 h2 => exact .tup (seqT_same e h1) (dpa_same e h2)
  | .dict _, _, h => by cases h
theorem dpa_same {K : PySem.W.Frag} {H H' : Hp} (e : Same H H') : ∀ {ds : List PyData} {vs : List V}, DpAll K H vs ds → DpAll K H' vs ds
  | [], _, h => by cases h; exact .nil
  | _ :: _, _, h => by cases h with | cons h1 h2 => exact .cons (dp_same e h1) (dpa_same e h2)
end
theorem dpa_ints {K : PySem.W.Frag} {H : Hp} : ∀ (ns : List Int), DpAll K H (ns.map V.int) (ns.map PyData.int)
  | [] => .nil
  | n :: r => .cons (.int n) (dpa_ints r)
/-! ### isinstance of a caught error (its own dict told), one class or a written tuple of classes -/
/-- what the class D must say -/
structure ExD (K : PySem.W.Frag) (D : Addr) : Prop where
  hc : (PySem.W.clsIn K D).isSome = true
  hg : PySem.W.findIn K (.ref D) "__getattribute__" = some (some (.builtin "BaseException.__getattribute__"))
  hk : PySem.W.findIn K (.ref D) "__getattr__" = some none
  hs : PySem.W.subIn K (.ref D) (.type "BaseException") = some true
  ha : PySem.W.findIn K (.ref D) "__class__" = some (some (.builtin "object.__class__"))
  hn : PySem.W.specialIn K (.builtin "object.__class__") "__get__" = some (some (.builtin "getset_descriptor.__get__"))
  ht : PySem.W.takesIn K (.builtin "object.__class__") = some true
  hm : PySem.W.mroIn K D (.type "object") = some true
section
variable {X : Cx} {a D : Addr} {d : Option Addr} {oe : Obj} {pn : List (Addr × Obj)}
theorem inst_of {pins : List (Addr × Obj)} {σ : L2.St} {H : Hp} {s : Shared} {dd : Addr} {fs : List (Str × V)} (I : Inv (X.suite a ((a, oe) :: pn)) pins σ H s) (hz : Zc (.ref D) d oe) (hf : ∃ vs, oe.data = .fields vs) (ed : d = some dd) (hd : H dd = some (.xd fs)) :
    ∃ od, PySem.W.InstAt s.heap a oe D (some od) := by
  obtain ⟨hget, _⟩ := I.pin (a, oe) (List.mem_append_left _ List.mem_cons_self)
  obtain ⟨vs, hv⟩ := hf
  have hx : ObjOk X.prog X.w H s.heap dd (.xd fs) := I.hok dd _ hd
  obtain ⟨mA, hns, _⟩ := hx
  obtain ⟨od, ho, _⟩ := lookIn_ns hns
  exact ⟨od, hget, hz.1, by unfold PySem.W.notCls; rw [hv] <;> rfl, by rw [hz.2, ed]; exact ho⟩
def rIsX (K : PySem.W.Frag) (D a : Addr) (cls : Value) (d : Option Addr) : List V → Hp → VK → Prop := fun xs H Q => ∃ (c : V) (cv : Value) (b : Bool) (dd : Addr) (fs : List (Str × V)), xs = [.ref a, c] ∧ ClsV c cv ∧ cls = .ref D ∧ d = some dd ∧ H dd = some (.xd fs) ∧ PySem.W.kitOne K (.ref D) cv = some b ∧ Q (.bl b) H
theorem call_isX {cls : Value} (C : ExD X.K D) (hz : Zc cls d oe) (hf : ∃ vs, oe.data = .fields vs) : CallR (X.suite a ((a, oe) :: pn)) (.builtin "isinstance") (rIsX X.K D a cls d) := by
  intro pins s σ H xs us Q I r h
  obtain ⟨c, cv, b, dd, fs, rfl, hcv, ecl, ed, hd, e, q⟩ := h
  subst ecl
  obtain ⟨u1, u2, rfl, r1, r2⟩ := vals2 r
  cases (show u1 = Value.ref a from r1)
  have ec := hcv.eq r2
  subst ec
  obtain ⟨od, J⟩ := inst_of I hz hf ed hd
  exact PySem.W.kia_one (PySem.W.kitx_exc C.hc C.hg C.hk C.hs C.ha C.hn C.ht C.hm) I.kIn J e (fun z => nomatch z) fun tk => ⟨.bl b, H, I.tok tk, rfl, q⟩
def rIsXT (K : PySem.W.Frag) (D a : Addr) (cls : Value) (d : Option Addr) : List V → Hp → VK → Prop := fun xs H Q => ∃ (tp : Addr) (cs : List V) (us : List Value) (b : Bool) (dd : Addr) (fs : List (Str × V)), xs = [.ref a, .ref tp] ∧ H tp = some (.tup cs) ∧ Paired ClsV cs us ∧
  cls = .ref D ∧ d = some dd ∧ H dd = some (.xd fs) ∧ PySem.W.kitAny K (.ref D) us = some b ∧ Q (.bl b) H
theorem call_isXT {cls : Value} (C : ExD X.K D) (hz : Zc cls d oe) (hf : ∃ vs, oe.data = .fields vs) : CallR (X.suite a ((a, oe) :: pn)) (.builtin "isinstance") (rIsXT X.K D a cls d) := by
  intro pins s σ H xs us Q I r h
  obtain ⟨tp, cs, ws, b, dd, fs, rfl, hT, k, ecl, ed, hd, e, q⟩ := h
  subst ecl
  obtain ⟨u1, u2, rfl, r1, r2⟩ := vals2 r
  cases (show u1 = Value.ref a from r1)
  cases (show u2 = Value.ref tp from r2)
  obtain ⟨od, J⟩ := inst_of I hz hf ed hd
  obtain ⟨_, its, rv, o, h1, h2, n, h3⟩ := (show ObjOk X.prog X.w H s.heap tp (.tup cs) from I.hok tp _ hT)
  have e3 := ClsV.all k rv
  subst e3
  obtain ⟨oc, od', dt, sl⟩ := o
  simp only at h2 h3
  subst h2 h3
  exact PySem.W.kia_tup (PySem.W.kitx_exc C.hc C.hg C.hk C.hs C.ha C.hn C.ht C.hm) I.kIn J h1 e (fun z => nomatch z) fun tk => ⟨.bl b, H, I.tok tk, rfl, q⟩
end
/-! ### tests whose answer is known -/
theorem ifT {c : Bool} {A B : Prop} (hc : c = true) (h : A) : if c = true then A else B := by
  rw [if_pos hc]
  exact h
theorem ifF {c : Bool} {A B : Prop} (hc : c = false) (h : B) : if c = true then A else B := by
  rw [hc, if_neg Bool.false_ne_true]
  exact h
theorem if2 {c : Bool} {A B : Prop} (h1 : c = true → A) (h2 : c = false → B) : if c = true then A else B := by
  cases c with
  | true => exact iteT (h1 rfl)
  | false => exact iteF (h2 rfl)
theorem len_int {i : Int} {k : Nat} (hk : 0 < k) (h : i.natAbs < 10 ^ k) : (Str.ofString (toString i)).length ≤ k + 1 := by
  rw [PySem.ofString_length]
  exact int_text_length_le10 hk h
theorem log_int {i : Int} (h : i.natAbs < 10 ^ 18) : i.natAbs.log2 < 1920 := by
  by_cases h0 : i.natAbs = 0
  · rw [h0]; decide
  · rw [Nat.log2_lt h0]
    exact Nat.lt_of_lt_of_le h (by decide +kernel)
theorem tup_of {d : PyData} (h : isI "tuple" d = true) : ∃ ds, d = .tuple ds := by
  cases d with
  | tuple ds => exact ⟨ds, rfl⟩
  | none => rw [isI_tuple_none] at h; cases h
  | bool b => rw [isI_tuple_bool] at h; cases h
  | int b => rw [isI_tuple_int] at h; cases h
  | str b => rw [isI_tuple_str] at h; cases h
  | list b => rw [isI_tuple_list] at h; cases h
  | dict b =>
    have e : isI "tuple" (.dict b) = false := by show (kitB "dict" "tuple").getD false = false; decide +kernel
    rw [e] at h; cases h
theorem lst_of {d : PyData} (h : isI "list" d = true) : ∃ ds, d = .list ds := by
  cases d with
  | list ds => exact ⟨ds, rfl⟩
  | none => rw [isI_list_none] at h; cases h
  | bool b => rw [isI_list_bool] at h; cases h
  | int b => rw [isI_list_int] at h; cases h
  | str b => rw [isI_list_str] at h; cases h
  | tuple b => rw [isI_list_tuple] at h; cases h
  | dict b =>
    have e : isI "list" (.dict b) = false := by show (kitB "dict" "list").getD false = false; decide +kernel
    rw [e] at h; cases h
theorem isW_aux (d : PyData) (h : isI "int" d = true) : (∃ i, d = .int i) ∨ ∃ b, d = .bool b := by
  cases d with
  | int ds => exact .inl ⟨ds, rfl⟩
  | bool b => exact .inr ⟨b, rfl⟩
  | none => rw [isI_int_none] at h; cases h
  | list b => rw [isI_int_list] at h; cases h
  | str b => rw [isI_int_str] at h; cases h
  | tuple b => rw [isI_int_tuple] at h; cases h
  | dict b =>
    have e : isI "int" (.dict b) = false := by show (kitB "dict" "int").getD false = false; decide +kernel
    rw [e] at h; cases h
theorem dpa_len {K : PySem.W.Frag} {H : Hp} : ∀ {vs : List V} {ds : List PyData}, DpAll K H vs ds → vs.length = ds.length
  | _, [], h => by cases h; rfl
  | _, _ :: _, h => by cases h with | cons _ h2 => simp [dpa_len h2]
/-- the heap behind the making of an own error -/
theorem same_exc {H : Hp} {a dx : Addr} {o1 o2 o3 o4 : HO} (na : H a = none) (nd : upd H a o1 dx = none) (ne : dx ≠ a) : Same H (upd (del (upd (upd (upd H a o1) dx o2) a o3) a) dx o4) := fun b o h => by
  have hba : b ≠ a := ne_of_none h na
  have hbd : b ≠ dx := by
    rw [upd_ne ne] at nd
    exact ne_of_none h nd
  rw [upd_ne hbd, del_ne hba, upd_ne hba, upd_ne hbd, upd_ne hba]
  exact h
theorem eqv_self {d : PyData} (h : SeqAt.shaped d = true) : PyData.eqv d d = true := SeqAt.eqv_refl d (SeqAt.canLay_of_shaped h)
/-- of equal data == says True -/
theorem q_eqv {d : PyData} {Q : VK} {H : Hp} (h : SeqAt.shaped d = true) (q : Q (.bl true) H) : Q (.bl (PyData.eqv d d)) H := by
  rw [eqv_self h]
  exact q
/-! ### rules whose readings name K alone (for the block of a comprehension) -/
section
variable {X : Cx} {K : PySem.W.Frag}
theorem ixTK (h : X.K = K) : IxR X (rIxT K) := by subst h; exact ix_tup
theorem ixLK (h : X.K = K) : IxR X (rIxL K) := by subst h; exact ix_list
theorem lenK (h : X.K = K) : CallR X (.builtin "len") (fun xs H Q => ∃ p ys, xs = [.ref p] ∧ (SqL K H p ys ∨ SqT K H p ys) ∧ Q (.int ys.length) H) := by subst h; exact call_len_seq
theorem isDK (h : X.K = K) : CallR X (.builtin "isinstance") (rIsD K) := by subst h; exact call_isD
theorem eqDK (h : X.K = K) (hu : X.A.units + 64 < cLine) : OpR X (compareOp .Eq) (rEqD K) := by subst h; exact op_eqD hu
theorem neDK (h : X.K = K) (hu : X.A.units + 64 < cLine) : OpR X (compareOp .NotEq) (rNeD K) := by subst h; exact op_neD hu
end
/-! ### what evaluates to a value and leaves the heap as it is -/
def Vl (te : TE) (σ : L2.St) (H : Hp) (v : V) : Prop := ∀ Q : VK, Q v H → te σ H Q
section
variable {K : PySem.W.Frag} {σ : L2.St} {H : Hp} {ta tb tc : TE} {v u : V} {D : Ends} {i : Nat}
theorem vl_var (h : σ[i]? = some (some v)) : Vl (tVar i) σ H v := fun _ q => ⟨v, h, q⟩
theorem vl_c : Vl (tC v) σ H v := fun _ q => q
theorem vl_op {r : R2} {x y z : V} (ha : Vl ta σ H x) (hb : Vl tb σ H y) (hr : ∀ Q : VK, Q z H → r x y H Q) : Vl (tOp r ta tb) σ H z := fun Q q => ha _ (hb _ (hr Q q))
theorem vl_I0 {g : Int → Int → V} {x y : Int} (ha : Vl ta σ H (.int x)) (hb : Vl tb σ H (.int y)) : Vl (tOp (rI0 g) ta tb) σ H (g x y) := vl_op ha hb fun _ q => ⟨x, y, rfl, rfl, q⟩
theorem vl_ixT {p : Addr} {xs : List V} {j : Int} (ha : Vl ta σ H (.ref p)) (hb : Vl tb σ H (.int j)) (h : SqT K H p xs) (hj : atI xs j = some v) : Vl (tOp (rIxT K) ta tb) σ H v := vl_op ha hb fun _ q => ⟨p, xs, j, v, rfl, rfl, h, hj, q⟩
theorem vl_ixL {p : Addr} {xs : List V} {j : Int} (ha : Vl ta σ H (.ref p)) (hb : Vl tb σ H (.int j)) (h : SqL K H p xs) (hj : atI xs j = some v) : Vl (tOp (rIxL K) ta tb) σ H v := vl_op ha hb fun _ q => ⟨p, xs, j, v, rfl, rfl, h, hj, q⟩
theorem vl_eq (ha : Vl ta σ H v) (hb : Vl tb σ H u) (hs : scal v u = true) : Vl (tOp rEq ta tb) σ H (.bl (decide (v = u))) := vl_op ha hb fun _ q => ⟨hs, q⟩
theorem vl_ne (ha : Vl ta σ H v) (hb : Vl tb σ H u) (hs : scal v u = true) : Vl (tOp rNe ta tb) σ H (.bl (!decide (v = u))) := vl_op ha hb fun _ q => ⟨hs, q⟩
theorem vl_and {a b : Bool} (ha : Vl ta σ H (.bl a)) (hb : a = true → Vl tb σ H (.bl b)) : Vl (tAndV ta tb) σ H (.bl (a && b)) := fun Q q => ha _ ⟨a, rfl, by
  cases a with
  | true => exact iteT (hb rfl Q q)
  | false => exact iteF q⟩
theorem vl_or {a b : Bool} (ha : Vl ta σ H (.bl a)) (hb : a = false → Vl tb σ H (.bl b)) : Vl (tOrV ta tb) σ H (.bl (a || b)) := fun Q q => ha _ ⟨a, rfl, by
  cases a with
  | true => exact iteT q
  | false => exact iteF (hb rfl Q q)⟩
theorem vl_not {a : Bool} (ha : Vl ta σ H (.bl a)) : Vl (tNotV ta) σ H (.bl (!a)) := fun Q q => ha _ ⟨a, rfl, q⟩
theorem vl_is {w : V} (h : Vl ta σ H v) (e : v = w) : Vl ta σ H w := e ▸ h
/-- two comparisons of ints in a chain -/
theorem vl_chain {f g : Int → Int → Bool} {x y z : Int} (ha : Vl ta σ H (.int x)) (hb : Vl tb σ H (.int y)) (hc : Vl tc σ H (.int z)) :
    Vl (tChain (rI0 fun i j => .bl (f i j)) (rI0 fun i j => .bl (g i j)) ta tb tc) σ H (.bl (f x y && g y z)) := fun Q q => ha _ (hb _ ⟨x, y, rfl, rfl, f x y, rfl, by
  cases e : f x y with
  | true =>
    rw [e] at q
    exact iteT (hc _ ⟨y, z, rfl, rfl, q⟩)
  | false =>
    rw [e] at q
    exact iteF q⟩)
theorem st_set (h : Vl ta σ H v) (q : D.nx (σ.set i (some v)) H) : tAsg ta (gName i) D σ H := h _ q
theorem st_ret (h : Vl ta σ H v) (q : D.rt v H) : tRet ta D σ H := h _ q
/-- a test by its value -/
theorem tt_val {b : Bool} {Q : Bool → Hp → Prop} (h : Vl ta σ H (.bl b)) (q : Q b H) : tTest ta σ H Q := h _ ⟨b, rfl, q⟩
theorem tb_val {b : Bool} {Q : Bool → Hp → Prop} (h : Vl ta σ H (.bl b)) (q : Q b H) : tB ta σ H Q := h _ ⟨b, rfl, q⟩
theorem sif_test {b : Bool} {t1 t2 : TS} (h : Vl ta σ H (.bl b)) (h1 : b = true → t1 D σ H) (h2 : b = false → t2 D σ H) : tIfS (tTest ta) t1 t2 D σ H := by
  refine tt_val h ?_
  cases b with
  | true => exact iteT (h1 rfl)
  | false => exact iteF (h2 rfl)
end
theorem lk1 {x : Str} {v : V} : List.lookup x [(x, v)] = some v := by simp [List.lookup]
theorem kit3 {K : PySem.W.Frag} {t a b c : Value} (h1 : PySem.W.kitOne K t a = some false) (h2 : PySem.W.kitOne K t b = some false) (h3 : PySem.W.kitOne K t c = some false) : PySem.W.kitAny K t [a, b, c] = some false :=
  kitAny_cons h1 (fun _ => kitAny_cons h2 (fun _ => kitAny_cons h3 (fun _ => kitAny_nil) (fun z => Bool.noConfusion z)) (fun z => Bool.noConfusion z)) (fun z => Bool.noConfusion z)
end Lk

set_option Elab.async false
set_option linter.all false
set_option maxRecDepth 100000
set_option maxHeartbeats 4000000
/-! the stream that a law draws from; lists of numbers; grids -/
namespace Kx
open PySem PySem.Spec PyProof.Rows L2 Lk
/-- the stream of a script, at S: its cells (at c), the next place, what is left of the last number -/
def Stm (S c : Addr) (H : Hp) : Prop := ∃ (ns : List Int) (p : Nat) (v : Int), H S = some (.lst [.ref c, .int (p : Int), .int v]) ∧ H c = some (.lst (ns.map V.int)) ∧ ns.length ≤ 63 ∧ p ≤ ns.length ∧ 0 ≤ v
theorem take_map {α : Type} {l : List α} {i : Nat} {x : α} (h : l[i]? = some x) : l.take (i + 1) = l.take i ++ [x] := by
  rw [List.take_succ, h]
  rfl
theorem map_get {gs : List Int} {i : Nat} (h : i < gs.length) : (gs.map V.int)[i]? = some (V.int gs[i]) := by
  rw [List.getElem?_map, List.getElem?_eq_getElem h] <;> rfl
theorem map_some {gs : List Int} {i : Nat} {x : V} (h : (gs.map V.int)[i]? = some x) : ∃ n, gs[i]? = some n ∧ x = V.int n := by
  rw [List.getElem?_map] at h
  cases e : gs[i]? with
  | none => rw [e] at h; cases h
  | some n => rw [e] at h; exact ⟨n, rfl, (Option.some.inj h).symm⟩
section
variable {S c p : Addr} {H H' : Hp} {o : HO}
theorem Stm.ne (h : Stm S c H) : c ≠ S := fun e => by
  obtain ⟨ns, q, v, hS, hC, _⟩ := h
  rw [e, hS] at hC
  cases ns with
  | nil => cases hC
  | cons n r =>
    have z := HO.lst.inj (Option.some.inj hC)
    cases (List.cons.inj z).1
theorem ext_ne (hS : Stm S c H) (hp : H p = none) : p ≠ S := fun e => by
  obtain ⟨_, _, _, h, _⟩ := hS
  rw [e, h] at hp
  cases hp
theorem ext_nc (hS : Stm S c H) (hp : H p = none) : p ≠ c := fun e => by
  obtain ⟨_, _, _, _, h, _⟩ := hS
  rw [e, h] at hp
  cases hp
theorem ext_free (hS' : Stm S c H') (e : Ext S H H') (hp : H' p = none) : H p = none := by
  cases h : H p with
  | none => rfl
  | some o =>
    rw [e p o (ext_ne hS' hp) h] at hp
    cases hp
theorem stm_put (hS : Stm S c H) (n1 : p ≠ S) (n2 : p ≠ c) : Stm S c (upd H p o) := by
  obtain ⟨ns, q, v, h1, h2, h3⟩ := hS
  exact ⟨ns, q, v, by rw [upd_ne n1.symm]; exact h1, by rw [upd_ne n2.symm]; exact h2, h3⟩
theorem stm_new (hS : Stm S c H) (hp : H p = none) : Stm S c (upd H p o) := stm_put hS (ext_ne hS hp) (ext_nc hS hp)
theorem stm_same (hS : Stm S c H) (e : Same H H') : Stm S c H' := by
  obtain ⟨ns, q, v, h1, h2, h3⟩ := hS
  exact ⟨ns, q, v, e _ _ h1, e _ _ h2, h3⟩
end
/-- at G a list of these numbers, which is not the stream -/
def Lst (S c G : Addr) (gs : List Int) (H : Hp) : Prop := G ≠ S ∧ G ≠ c ∧ H G = some (.lst (gs.map V.int))
theorem Lst.ext {S c G : Addr} {gs : List Int} {H H' : Hp} (e : Ext S H H') (h : Lst S c G gs H) : Lst S c G gs H' := ⟨h.1, h.2.1, e _ _ h.1 h.2.2⟩
theorem Lst.sq {K : PySem.W.Frag} {S c G : Addr} {gs : List Int} {H : Hp} (h : Lst S c G gs H) : SqL K H G (gs.map V.int) := SqL.of h.2.2
/-- a mutated list that H did not know -/
theorem ext_mut {S p : Addr} {H H' : Hp} {o : HO} (e : Ext S H H') (h : H p = none) : Ext S H (upd H' p o) := fun a u n ha => by
  rw [upd_ne (ne_of_none ha h)]
  exact e a u n ha
/-- a grid of points -/
structure GridOk (gs : List Int) : Prop where
  two : 2 ≤ gs.length
  most : gs.length ≤ 11
  rng : ∀ x ∈ gs, 0 ≤ x ∧ x ≤ 1000000
  asc : gs.Pairwise (· < ·)
theorem grid_first {gs : List Int} (h : gs.Pairwise (· < ·)) (h0 : ∀ x ∈ gs, 0 ≤ x) : (gs.set 0 0).Pairwise (· < ·) := by
  cases gs with
  | nil => exact h
  | cons a r =>
    rw [List.pairwise_cons] at h
    show (0 :: r).Pairwise (· < ·)
    rw [List.pairwise_cons]
    refine ⟨fun x hx => ?_, h.2⟩
    have h1 := h.1 x hx
    have h2 := h0 a (by simp)
    omega
theorem grid_last {B : Int} : ∀ {gs : List Int} {j : Nat}, gs.Pairwise (· < ·) → (∀ x ∈ gs, x < B) → gs.length = j + 1 → (gs.set j B).Pairwise (· < ·)
  | [], j, _, _, hl => by simp at hl
  | a :: r, 0, _, _, hl => by
    have e : r = [] := by simpa using hl
    subst e
    exact List.pairwise_singleton _ _
  | a :: r, j + 1, h, hb, hl => by
    rw [List.pairwise_cons] at h
    show (a :: r.set j B).Pairwise (· < ·)
    rw [List.pairwise_cons]
    refine ⟨fun x hx => ?_, grid_last h.2 (fun x hx => hb x (List.mem_cons_of_mem _ hx)) (by simpa using hl)⟩
    rcases List.mem_or_eq_of_mem_set hx with hx | rfl
    · exact h.1 x hx
    · exact hb a (by simp)
/-- a tuple that is not the stream -/
theorem tup_ne {S c t : Addr} {H : Hp} {xs : List V} (hS : Stm S c H) (h : H t = some (.tup xs)) : t ≠ S := fun e => by
  obtain ⟨ns, q, v, h1, _⟩ := hS
  rw [e, h1] at h
  cases h
/-- data of which the stream is no part -/
theorem dp_hid {K : PySem.W.Frag} {S : Addr} {H : Hp} {v : V} {d : PyData} (h : Dp K (hid S H) v d) : Dp K H v d := dp_same hid_le h
theorem dp_ext {K : PySem.W.Frag} {S : Addr} {H H' : Hp} {v : V} {d : PyData} (e : Ext S H H') (h : Dp K (hid S H) v d) : Dp K (hid S H') v d := dp_same (hid_ext e) h
theorem new_tupS {K : PySem.W.Frag} {S c p : Addr} {H : Hp} {xs : List V} {ds : List PyData} (hS : Stm S c H) (np : H p = none) (h : DpAll K (hid S H) xs ds) : Dp K (hid S (upd H p (.tup xs))) (.ref p) (.tuple ds) := by
  have n := ext_ne hS np
  exact .tup (.inl (.inl (by rw [hid_at n]; exact upd_same))) (dpa_same (hid_same (same_new np)) h)
theorem new_lstS {K : PySem.W.Frag} {S c p : Addr} {H : Hp} {xs : List V} {ds : List PyData} (hS : Stm S c H) (np : H p = none) (h : DpAll K (hid S H) xs ds) : Dp K (hid S (upd H p (.lst xs))) (.ref p) (.list ds) := by
  have n := ext_ne hS np
  exact .lst (.inl (.inl (by rw [hid_at n]; exact upd_same))) (dpa_same (hid_same (same_new np)) h)
theorem keepS {K : PySem.W.Frag} {S p : Addr} {H : Hp} {o : HO} {v : V} {d : PyData} (np : H p = none) (h : Dp K (hid S H) v d) : Dp K (hid S (upd H p o)) v d := dp_same (hid_same (same_new np)) h
end Kx

set_option Elab.async false
set_option linter.all false
set_option maxRecDepth 100000
set_option maxHeartbeats 4000000
/-! what the top has left, told by a Hook: defs, own error classes, their one field's def -/
namespace Hk
open PySem PySem.Spec PyProof.Rows L2 He
/-! ### a def, its defaults told -/
abbrev Fn (K : PySem.W.Frag) (x : Str) (st : Stmt) (dvs : List V) (f : Addr) (fd : FuncData) : Prop := FunD K x x (defArgs st) (defBody st) (defScope st) dvs [] f fd
section
variable {P : Program} {w : World} {K : PySem.W.Frag} {mg : Str → Option Value} {base : Heap} {x : Str} {st : Stmt} {dvs : List V} {f : Addr} {fd : FuncData} {N ps : List Str} {k : Nat} {sp : Sp}
theorem okN (F : Fn K x st dvs f fd) (S : FnScope N ps (defScope st)) (len : ∀ vs H Q E, sp vs H Q E → vs.length = ps.length)
    (hbody : ∀ (cdv : Value) (A : Around) (outer : List Env) (s : Shared) (H : Hp) (vs : List V) (Q : VK) (E : XK), Room k (A.deeper (envOfC x (defScope st) s.heap.objs.size f cdv)) → sp vs H Q E →
      ∃ t, PSs (cxOf CX0 P w K mg base N x (defScope st) f cdv A outer s H E).nox (defBody st) t ∧ t { nx := fun _ H' => Q .non H', rt := Q } (start N vs) H) : FnOk P w K mg base CX0 (k + 1) f fd ps sp :=
  F.ok S len fun cdv A outer s H vs Q E hr hsp => by
    obtain ⟨t, h, q⟩ := hbody cdv A outer s H vs Q E hr hsp
    exact ⟨t, h.nox, q⟩
theorem okX (F : Fn K x st dvs f fd) (S : FnScope N ps (defScope st)) (len : ∀ vs H Q E, sp vs H Q E → vs.length = ps.length)
    (hbody : ∀ (cdv : Value) (A : Around) (outer : List Env) (s : Shared) (H : Hp) (vs : List V) (Q : VK) (E : XK), Room k (A.deeper (envOfC x (defScope st) s.heap.objs.size f cdv)) → sp vs H Q E →
      ∃ t, PSs (cxOf (L2.CX P w) P w K mg base N x (defScope st) f cdv A outer s H E) (defBody st) t ∧ t { nx := fun _ H' => Q .non H', rt := Q } (start N vs) H) : FnOk P w K mg base (L2.CX P w) (k + 1) f fd ps sp :=
  F.ok S len hbody
end
/-- the same of a method -/
abbrev FnM (K : PySem.W.Frag) (x qual : Str) (st : Stmt) (dvs : List V) (f : Addr) (fd : FuncData) : Prop := FunD K x qual (defArgs st) (defBody st) (defScope st) dvs [] f fd
section
variable {P : Program} {w : World} {K : PySem.W.Frag} {mg : Str → Option Value} {base : Heap} {x qual : Str} {st : Stmt} {dvs : List V} {f : Addr} {fd : FuncData} {N ps : List Str} {k : Nat} {sp : Sp}
theorem okM (F : FnM K x qual st dvs f fd) (S : FnScope N ps (defScope st)) (len : ∀ vs H Q E, sp vs H Q E → vs.length = ps.length)
    (hbody : ∀ (cdv : Value) (A : Around) (outer : List Env) (s : Shared) (H : Hp) (vs : List V) (Q : VK) (E : XK), Room k (A.deeper (envOfC qual (defScope st) s.heap.objs.size f cdv)) → sp vs H Q E →
      ∃ t, PSs (cxOf CX0 P w K mg base N qual (defScope st) f cdv A outer s H E).nox (defBody st) t ∧ t { nx := fun _ H' => Q .non H', rt := Q } (start N vs) H) : FnOk P w K mg base CX0 (k + 1) f fd ps sp :=
  F.ok S len fun cdv A outer s H vs Q E hr hsp => by
    obtain ⟨t, h, q⟩ := hbody cdv A outer s H vs Q E hr hsp
    exact ⟨t, h.nox, q⟩
end
/-! ### own error classes -/
def oexB (K : PySem.W.Frag) (C : Addr) : Bool := (match K.lookup C with
  | some ⟨.type "type", _, .cls cd, sl⟩ => (match cd.mro, sl.toList with
    | .ref C' :: bm, [_, _, _, _, some (.builtin n), _] => C' == C && n == "ValueError.__new__" && !cd.hasDel && cd.hasDict && PySem.HandSPX.refsVE bm
    | _, _ => false)
  | _ => false) && (eqO (PySem.W.findIn K (.ref C) "__setattr__") (some (some (.builtin "object.__setattr__"))) && (decide (PySem.W.subIn K (.ref C) (.type "BaseException") = some true) && (decide (PySem.W.typeIn K (.ref C) = some (.type "type")) && PySem.W.keepIn K (.ref C))))
theorem oexB_ok {K : PySem.W.Frag} {C : Addr} (h : oexB K C = true) : OexC K C := by
  obtain ⟨q, h⟩ := ba h
  obtain ⟨h1, h⟩ := ba h
  obtain ⟨h2, h⟩ := ba h
  obtain ⟨h3, h4⟩ := ba h
  refine ⟨?_, eqO_ok h1, of_decide_eq_true h2, of_decide_eq_true h3, h4⟩
  split at q
  · rename_i dd cd sl ho
    split at q
    · rename_i C' bm k0 k1 k2 k3 n k5 hm hs
      simp only [Bool.and_eq_true, beq_iff_eq, Bool.not_eq_true'] at q
      obtain ⟨⟨⟨⟨rfl, rfl⟩, hdel⟩, hdic⟩, ht⟩ := q
      obtain ⟨nm, bs, mro, ns, qn, hd, sn, sub, ab, col, del⟩ := cd
      dsimp only at hm hdel hdic
      subst hm hdel hdic
      have hsl : sl = #[k0, k1, k2, k3, some (.builtin "ValueError.__new__"), k5] := by
        obtain ⟨l⟩ := sl
        simp only at hs
        rw [hs]
      subst hsl
      exact ⟨nm, qn, ns, bs, bm, sn, sub, ab, col, dd, k0, k1, k2, k3, k5, ho, ht⟩
    · cases q
  · cases q
def supB (K : PySem.W.Frag) (C D : Addr) (fld : Str) : Bool := oexB K C && (decide (PySem.W.subIn K (.ref C) (.type "ValueError") = some true) && (decide (PySem.W.mroIn K C (.ref D) = some true) && (eqO (PySem.W.ks_superIn K C D "__init__") (some (some (.builtin "ValueError.__init__"))) && eqO (PySem.W.findIn K (.ref C) fld) (some none))))
theorem supB_ok {K : PySem.W.Frag} {C D : Addr} {fld : Str} (h : supB K C D fld = true) : Sup.SupC K C D fld := by
  obtain ⟨h0, h⟩ := ba h
  obtain ⟨h1, h⟩ := ba h
  obtain ⟨h2, h⟩ := ba h
  obtain ⟨h3, h4⟩ := ba h
  exact ⟨oexB_ok h0, of_decide_eq_true h1, of_decide_eq_true h2, eqO_ok h3, eqO_ok h4⟩
def exdB (K : PySem.W.Frag) (D : Addr) : Bool := (PySem.W.clsIn K D).isSome && (eqO (PySem.W.findIn K (.ref D) "__getattribute__") (some (some (.builtin "BaseException.__getattribute__"))) && (eqO (PySem.W.findIn K (.ref D) "__getattr__") (some none) && (decide (PySem.W.subIn K (.ref D) (.type "BaseException") = some true) &&
  (eqO (PySem.W.findIn K (.ref D) "__class__") (some (some (.builtin "object.__class__"))) && (eqO (PySem.W.specialIn K (.builtin "object.__class__") "__get__") (some (some (.builtin "getset_descriptor.__get__"))) && (decide (PySem.W.takesIn K (.builtin "object.__class__") = some true) && decide (PySem.W.mroIn K D (.type "object") = some true)))))))
theorem exdB_ok {K : PySem.W.Frag} {D : Addr} (h : exdB K D = true) : Lk.ExD K D := by
  obtain ⟨h0, h⟩ := ba h
  obtain ⟨h1, h⟩ := ba h
  obtain ⟨h2, h⟩ := ba h
  obtain ⟨h3, h⟩ := ba h
  obtain ⟨h4, h⟩ := ba h
  obtain ⟨h5, h⟩ := ba h
  obtain ⟨h6, h7⟩ := ba h
  exact ⟨h0, eqO_ok h1, eqO_ok h2, of_decide_eq_true h3, eqO_ok h4, eqO_ok h5, of_decide_eq_true h6, of_decide_eq_true h7⟩
/-- what of the classes is asked, by names -/
inductive Ce where
  | sup (C D fld : Str)
  | ini (C D : Str)
  | exd (C : Str)
  | xf (C : Str)
  | exm (C : Str)
  | kit (C E : Str) (b : Bool)
  | kitV (C : Str) (E : String) (b : Bool)
  | bare (C : Str)
  | tup (x : Str) (vs : List Dv)
  | eff (x : Str) (b : Bool)
/-- a class made without an __init__ of its own -/
def bareB (K : PySem.W.Frag) (C : Addr) : Bool := PySem.W.makesIn K C && (eqO (PySem.W.findIn K (.ref C) "__init__") (some (some (.builtin "object.__init__"))) && PySem.W.keepIn K (.ref C))
def isTupB (K : PySem.W.Frag) (a : Addr) (f : List Value → Bool) : Bool := match K.lookup a with
  | some ⟨.type c, _, .seq its _, _⟩ => decide (c = "tuple") && (decide (its.size ≤ sizeLine) && f its.toList)
  | _ => false
/-- a pair of a truth value and the empty tuple -/
def effB (K : PySem.W.Frag) (b : Bool) : List Value → Bool
  | [.bool c, .ref p] => decide (c = b) && isTupB K p (fun l => l.isEmpty)
  | _ => false
theorem isTupB_ok {K : PySem.W.Frag} {a : Addr} {f : List Value → Bool} (h : isTupB K a f = true) : ∃ its : List Value, f its = true ∧ ∀ (vs : List V) (H : Hp), Vals vs its → SqT K H a vs := by
  unfold isTupB at h
  split at h
  · rename_i c od its n sl e
    obtain ⟨h1, h2⟩ := ba h
    obtain ⟨h3, h4⟩ := ba h2
    exact ⟨its.toList, h4, fun vs H r => .inr ⟨_, its, n, e, congrArg Value.type (of_decide_eq_true h1), rfl, of_decide_eq_true h3, r⟩⟩
  · cases h
def Ce.ok (K : PySem.W.Frag) : Ce → Bool
  | .sup C D fld => supB K (ga K C) (ga K D) fld
  | .ini C D => eqO (PySem.W.findIn K (.ref (ga K C)) "__init__") (some (some (.ref (fAd K (D, some "__init__")))))
  | .exd C => exdB K (ga K C)
  | .xf C => xfB K (ga K C)
  | .exm C => decide (PySem.W.exmOne K (.ref (ga K C)) (.ref (ga K C)) = some true)
  | .kit C E b => decide (PySem.W.kitOne K (.ref (ga K C)) (.ref (ga K E)) = some b)
  | .kitV C E b => decide (PySem.W.kitOne K (.ref (ga K C)) (.type E) = some b)
  | .bare C => bareB K (ga K C)
  | .tup x vs => tupB K x vs
  | .eff x b => isTupB K (ga K x) (effB K b)
theorem eff_ok {K : PySem.W.Frag} {a : Addr} {b : Bool} (h : isTupB K a (effB K b) = true) : ∃ p, ∀ H : Hp, SqT K H a [.bl b, .ref p] ∧ SqT K H p [] := by
  obtain ⟨its, h1, h2⟩ := isTupB_ok h
  unfold effB at h1
  split at h1
  · rename_i c p
    obtain ⟨h3, h4⟩ := ba h1
    have e : c = b := of_decide_eq_true h3
    subst e
    obtain ⟨its2, h5, h6⟩ := isTupB_ok h4
    have e2 : its2 = [] := List.isEmpty_iff.mp h5
    subst e2
    exact ⟨p, fun H => ⟨h2 _ H (.cons rfl (.cons rfl .nil)), h6 [] H .nil⟩⟩
  · cases h1
/-! ### the __init__ of an own error class -/
abbrev FnI : Type := Option (Str × Str × Arguments × FuncBody × Scope × Addr × List Str × Addr)
structure IniD where
  cls : Str
  qual : Str
  params : Arguments
  body : List Stmt
  scope : Scope
def IniD.at_ (d : IniD) : Str × Option Str := (d.cls, some "__init__")
def IniD.val (d : IniD) : FnI := some ("__init__", d.qual, d.params, .stmts d.body, d.scope, mainGlobals, ["__class__"], builtinsNs)
def fnI (K : PySem.W.Frag) (p : Str × Option Str) : FnI := match K.lookup (fAd K p) with
  | some ⟨_, _, .func fd, _⟩ => some (fd.name, fd.qualname, fd.params, fd.body, fd.scope, fd.globals, fd.closure.map (·.1), fd.builtins)
  | _ => none
def cellB (K : PySem.W.Frag) (D : Addr) : List (Str × Addr) → Bool
  | [(_, cc)] => (match K.lookup cc with
    | some ⟨_, _, .cell (some (.ref D')), _⟩ => decide (D' = D)
    | _ => false)
  | _ => false
def fileB (K : PySem.W.Frag) (file : Str) : Value → Bool
  | .ref c => (match K.lookup c with
    | some ⟨_, _, .fields vs, _⟩ => (match (vs[2]? : Option Value) with
      | some (.str f _) => file == f
      | _ => false)
    | _ => false)
  | _ => false
def noneB : Value → Bool
  | .none => true
  | _ => false
def IniD.ok (file : Str) (K : PySem.W.Frag) (d : IniD) : Bool := (match K.lookup (fAd K d.at_) with
  | some ⟨_, _, .func fd, _⟩ => PySem.W.codeIn K fd.code d.qual && (fileB K file fd.code && (cellB K (ga K d.cls) fd.closure && noneB fd.defaults))
  | _ => false) && ((PySem.W.clsIn K (ga K d.cls)).isSome && (eqO (PySem.W.nsIn K cStatics "thirdparty.any") (some none) && decide (PySem.W.typeIn K (.ref (fAd K d.at_)) = some (.type "function"))))
theorem cellB_ok {K : PySem.W.Frag} {D : Addr} {cl : List (Str × Addr)} (h : cellB K D cl = true) : ∃ x cc o od sl, cl = [(x, cc)] ∧ K.lookup cc = some ⟨o, od, .cell (some (.ref D)), sl⟩ := by
  unfold cellB at h
  split at h
  · rename_i x cc
    split at h
    · rename_i o od D' sl e
      have q : D' = D := of_decide_eq_true h
      subst q
      exact ⟨_, _, _, _, _, rfl, e⟩
    · cases h
  · cases h
theorem fileB_ok {K : PySem.W.Frag} {file : Str} {cd : Value} (h : fileB K file cd = true) : ∃ c o od vs sl f t, cd = .ref c ∧ K.lookup c = some ⟨o, od, .fields vs, sl⟩ ∧ vs[2]? = some (.str f t) ∧ ((file : Str) == f) = true := by
  unfold fileB at h
  split at h
  · rename_i c
    split at h
    · rename_i o od vs sl e
      split at h
      · rename_i f t e2
        exact ⟨_, _, _, _, _, _, _, rfl, e, e2, h⟩
      · cases h
    · cases h
  · cases h
/-- the __init__: what Sup.SupF asks, its binding -/
theorem ini_ok {P : Program} {K : PySem.W.Frag} {file : Str} {d : IniD} (hf : P.main.file = file) (top : (P.main.scope.names.lookup ("super" : Str)).isSome = false) (e : fnI K d.at_ = d.val) (c : d.ok file K = true) {ps : List Str}
    (hb : ∀ (cc : Addr) (kV doc pm : Value) (an : Option Addr) (cdv ct : Value) (us : List Value), us.length = ps.length → bindArgs (PySem.W.fnX "__init__" d.qual d.params d.body d.scope [("__class__", cc)] .none kV doc pm an cdv ct) ⟨us, []⟩ = pure (ps.zip us)) :
    ∃ fd, Sup.SupF P K (ga K d.cls) (fAd K d.at_) d.qual d.params d.body d.scope fd ∧ Binds K fd ps [] := by
  obtain ⟨c1, c2⟩ := ba c
  obtain ⟨c3, c4⟩ := ba c2
  obtain ⟨c5, c6⟩ := ba c4
  unfold fnI at e
  split at c1
  · rename_i oc od fd osl lk
    rw [lk] at e
    obtain ⟨n1, n2, n3, n4, n5, n6, n7, n8, n9, n10, n11, n12, n13, n14, n15⟩ := fd
    have e2 : (some (n1, n2, n3, n4, n5, n6, n7.map (·.1), n15) : FnI) = d.val := e
    unfold IniD.val at e2
    simp only [Option.some.injEq, Prod.mk.injEq] at e2
    obtain ⟨h1, h2, h3, h4, h5, h6, h7, h8⟩ := e2
    subst h1 h2 h3 h4 h5 h6 h8
    obtain ⟨k1, c1⟩ := ba (show (PySem.W.codeIn K n13 d.qual && (fileB K file n13 && (cellB K (ga K d.cls) n7 && noneB n8))) = true from c1)
    obtain ⟨k2, c1⟩ := ba c1
    obtain ⟨k3, k4⟩ := ba c1
    obtain ⟨x, cc, cl, cld, csl, rfl, lcc⟩ := cellB_ok k3
    obtain ⟨cA, ccl, cdd, vs, ccs, fl, tf, rfl, lc, hv, hff⟩ := fileB_ok k2
    have hx : x = "__class__" := by
      have q : [x] = [("__class__" : Str)] := h7
      exact (List.cons.inj q).1
    subst hx
    have hn : n8 = .none := by
      cases n8 with
      | none => rfl
      | _ => cases k4
    subst hn
    exact ⟨_, ⟨⟨oc, od, _, n9, n10, n11, n12, cA, cc, n14, osl, ccl, cdd, vs, ccs, fl, tf, cl, cld, csl, rfl, lk, k1, lc, hv, by rw [hf]; exact hff, lcc⟩, top, c3, eqO_ok c5, of_decide_eq_true c6⟩, .all (fun us hl => hb cc n9 n10 n11 n12 (.ref cA) n14 us hl)⟩
  · cases c1
/-! ### the Hook -/
abbrev AlK : Type := AlD × (Bool × List FnI)
def obsK (fa : List Fa) (fn : List DefD) (file : Str) (ini : List IniD) (ce : List Ce) (K : PySem.W.Frag) : AlK := (obsD fa fn K, ((ini.all fun d => d.ok file K) && ce.all fun e => e.ok K, ini.map fun d => fnI K d.at_))
def valK (fn : List DefD) (ini : List IniD) : AlK := (valD fn, (true, ini.map IniD.val))
def Says (fa : List Fa) (fn : List DefD) (file : Str) (ini : List IniD) (ce : List Ce) (K : PySem.W.Frag) : Prop := obsK fa fn file ini ce K = valK fn ini
/-- what is looked at: what the module's names reach in n steps, and the model's own marks -/
def asK (g : Addr → Option Obj) (n : Nat) : List Addr := cStatics :: asD g n
def obsKG (n : Nat) (fa : List Fa) (fn : List DefD) (file : Str) (ini : List IniD) (ce : List Ce) (g : Addr → Option Obj) : AlK := obsK fa fn file ini ce (frG g (asK g n))
def hookK (n : Nat) (fa : List Fa) (fn : List DefD) (file : Str) (ini : List IniD) (ce : List Ce) : PySem.W.Hook where
  α := AlK
  obs := fun s => obsKG n fa fn file ini ce s.heap.get?
  val := fun _ => valK fn ini
  says := fun _ h => ∃ K : PySem.W.Frag, K.In h ∧ Says fa fn file ini ce K
  of := fun _ _ e => ⟨_, frG_in, e⟩
  keeps := fun _ _ _ ⟨K, hK, c⟩ k => ⟨K, PySem.W.Frag.In.keeps hK k, c⟩
theorem obsKG_eq {n : Nat} {fa : List Fa} {fn : List DefD} {file : Str} {ini : List IniD} {ce : List Ce} {g : Addr → Option Obj} {s : Shared} (h : ∀ a, g a = s.heap.get? a) : obsKG n fa fn file ini ce g = (hookK n fa fn file ini ce).obs s := by
  have e : g = s.heap.get? := funext h
  rw [e] <;> rfl
section
variable {fa : List Fa} {fn : List DefD} {file : Str} {ini : List IniD} {ce : List Ce} {K : PySem.W.Frag}
theorem Says.d (c : Says fa fn file ini ce K) : SaysD fa fn K := congrArg (fun z : AlK => z.1) c
theorem Says.i (c : Says fa fn file ini ce K) (i : Nat) {d : IniD} (h : ini[i]? = some d := by rfl) : fnI K d.at_ = d.val ∧ d.ok file K = true := by
  have c2 := (ba (show ((ini.all fun d => d.ok file K) && ce.all fun e => e.ok K) = true from congrArg (fun z : AlK => z.2.1) c)).1
  have e : ini.map (fun d => fnI K d.at_) = ini.map IniD.val := congrArg (fun z : AlK => z.2.2) c
  have e2 : (ini.map fun d => fnI K d.at_)[i]? = (ini.map IniD.val)[i]? := by rw [e]
  rw [List.getElem?_map, List.getElem?_map, h] at e2
  exact ⟨Option.some.inj e2, List.all_eq_true.mp c2 d (List.mem_of_getElem? h)⟩
theorem Says.cls (c : Says fa fn file ini ce K) (i : Nat) {e : Ce} (h : ce[i]? = some e := by rfl) : e.ok K = true := by
  have c2 := (ba (show ((ini.all fun d => d.ok file K) && ce.all fun e => e.ok K) = true from congrArg (fun z : AlK => z.2.1) c)).2
  exact List.all_eq_true.mp c2 e (List.mem_of_getElem? h)
end
end Hk

set_option Elab.async false
set_option linter.all false
set_option maxRecDepth 100000
set_option maxHeartbeats 4000000
/-! more that the top has left: nested tuples, tables with text keys, constants of classes, instances' types -/
namespace Hm
open PySem PySem.Spec PyProof.Rows L2 He
mutual
def datB (K : PySem.W.Frag) : PyData → Value → Bool
  | .none, .none => true
  | .bool b, .bool c => decide (b = c)
  | .int i, .int j _ => decide (i = j)
  | .str x, .str y _ => decide (x = y)
  | .tuple ds, .ref p => (match K.lookup p with
    | some ⟨.type c, _, .seq its _, _⟩ => decide (c = "tuple") && (decide (its.size ≤ sizeLine) && datAllB K ds its.toList)
    | _ => false)
  | _, _ => false
def datAllB (K : PySem.W.Frag) : List PyData → List Value → Bool
  | [], [] => true
  | d :: r, v :: s => datB K d v && datAllB K r s
  | _, _ => false
end
mutual
theorem datB_ok {K : PySem.W.Frag} : ∀ {d : PyData} {v : Value}, datB K d v = true → ∃ x : V, RelV x v ∧ ∀ H : Hp, Dp K H x d
  | .none, v, h => by
    cases v with
    | none => exact ⟨.non, rfl, fun _ => .non⟩
    | _ => cases h
  | .bool b, v, h => by
    cases v with
    | bool c =>
      have e : b = c := of_decide_eq_true h
      subst e
      exact ⟨.bl b, rfl, fun _ => .bl b⟩
    | _ => cases h
  | .int i, v, h => by
    cases v with
    | int j t =>
      have e : i = j := of_decide_eq_true h
      subst e
      exact ⟨.int i, ⟨t, rfl⟩, fun _ => .int i⟩
    | _ => cases h
  | .str i, v, h => by
    cases v with
    | str j t =>
      have e : i = j := of_decide_eq_true h
      subst e
      exact ⟨.str i, ⟨t, rfl⟩, fun _ => .str i⟩
    | _ => cases h
  | .list ds, v, h => by cases v <;> cases h
  | .dict ds, v, h => by cases v <;> cases h
  | .tuple ds, v, h => by
    cases v with
    | ref p =>
      have h : (match K.lookup p with
        | some ⟨.type c, _, .seq its _, _⟩ => decide (c = "tuple") && (decide (its.size ≤ sizeLine) && datAllB K ds its.toList)
        | _ => false) = true := h
      split at h
      · rename_i c od its n sl e
        obtain ⟨h1, h2⟩ := ba h
        obtain ⟨h3, h4⟩ := ba h2
        obtain ⟨xs, r, hd⟩ := datAllB_ok h4
        exact ⟨.ref p, rfl, fun H => .tup (.inr ⟨_, its, n, e, congrArg Value.type (of_decide_eq_true h1), rfl, of_decide_eq_true h3, r⟩) (hd H)⟩
      · cases h
    | _ => cases h
theorem datAllB_ok {K : PySem.W.Frag} : ∀ {ds : List PyData} {vs : List Value}, datAllB K ds vs = true → ∃ xs : List V, Vals xs vs ∧ ∀ H : Hp, DpAll K H xs ds
  | [], [], _ => ⟨[], .nil, fun _ => .nil⟩
  | [], _ :: _, h => by cases h
  | _ :: _, [], h => by cases h
  | d :: r, v :: s, h => by
    obtain ⟨h1, h2⟩ := ba (show (datB K d v && datAllB K r s) = true from h)
    obtain ⟨x, r1, d1⟩ := datB_ok h1
    obtain ⟨xs, r2, d2⟩ := datAllB_ok h2
    exact ⟨x :: xs, .cons r1 r2, fun H => .cons (d1 H) (d2 H)⟩
end
theorem datT_ok {K : PySem.W.Frag} {a : Addr} {d : PyData} (h : datB K d (.ref a) = true) : ∀ H : Hp, Dp K H (.ref a) d := by
  obtain ⟨x, r, k⟩ := datB_ok h
  cases x with
  | ref b => cases r; exact k
  | non => cases r
  | bl b => cases r
  | int b => obtain ⟨t, e⟩ := r; cases e
  | str b => obtain ⟨t, e⟩ := r; cases e
  | byt b => cases (k (fun _ => none))
  | flt b => cases (k (fun _ => none))
  | ty b => cases r
/-- a table's values: tuples of texts -/
def strsB (ss : List Str) (vs : List Value) : Bool := match ss, vs with
  | [], [] => true
  | s :: r, .str x _ :: q => decide (s = x) && strsB r q
  | _, _ => false
theorem strsB_ok : ∀ {ss : List Str} {vs : List Value}, strsB ss vs = true → Vals (ss.map V.str) vs
  | [], [], _ => .nil
  | [], _ :: _, h => by cases h
  | _ :: _, [], h => by cases h
  | s :: r, v :: q, h => by
    cases v with
    | str x t =>
      obtain ⟨h1, h2⟩ := ba (show (decide (s = x) && strsB r q) = true from h)
      have e : s = x := of_decide_eq_true h1
      subst e
      exact .cons ⟨t, rfl⟩ (strsB_ok h2)
    | _ => cases h
def tabB (K : PySem.W.Frag) (a : Addr) (kvs : List (Str × List Str)) : Bool := kvs.all fun q => match PySem.W.nsIn K a q.1 with
  | some (some (.ref p)) => Hk.isTupB K p (strsB q.2)
  | _ => false
theorem tabB_ok {K : PySem.W.Frag} {a : Addr} {kvs : List (Str × List Str)} (h : tabB K a kvs = true) {q : Str × List Str} (hq : q ∈ kvs) : ∃ p, PySem.W.nsIn K a q.1 = some (some (.ref p)) ∧ ∀ H : Hp, SqT K H p (q.2.map V.str) := by
  have h2 := List.all_eq_true.mp h q hq
  split at h2
  · rename_i p e
    obtain ⟨its, h3, h4⟩ := Hk.isTupB_ok h2
    exact ⟨p, e, fun H => h4 _ H (strsB_ok h3)⟩
  · cases h2
/-- what an instance's type asks of its class -/
structure InsT (K : PySem.W.Frag) (C : Addr) : Prop where
  cl : Cls K C
  ha : PySem.W.findIn K (.ref C) "__class__" = some (some (.builtin "object.__class__"))
  hn : PySem.W.specialIn K (.builtin "object.__class__") "__get__" = some (some (.builtin "getset_descriptor.__get__"))
  ht : PySem.W.takesIn K (.builtin "object.__class__") = some true
  hm : PySem.W.mroIn K C (.type "object") = some true
theorem InsT.ty {K : PySem.W.Frag} {C a dx : Addr} {fs : List (Str × V)} {H : Hp} (t : InsT K C) (e : H a = some (.ins C dx fs)) : TyX K H (.ref a) (.ref C) := .base (.ins e t.cl t.ha t.hn t.ht t.hm)
def insTB (K : PySem.W.Frag) (C : Addr) : Bool := eqO (PySem.W.findIn K (.ref C) "__class__") (some (some (.builtin "object.__class__"))) && (eqO (PySem.W.specialIn K (.builtin "object.__class__") "__get__") (some (some (.builtin "getset_descriptor.__get__"))) && (decide (PySem.W.takesIn K (.builtin "object.__class__") = some true) && decide (PySem.W.mroIn K C (.type "object") = some true)))
theorem insTB_ok {K : PySem.W.Frag} {C : Addr} (cl : Cls K C) (h : insTB K C = true) : InsT K C := by
  obtain ⟨h1, h⟩ := ba h
  obtain ⟨h2, h⟩ := ba h
  obtain ⟨h3, h4⟩ := ba h
  exact ⟨cl, eqO_ok h1, eqO_ok h2, of_decide_eq_true h3, of_decide_eq_true h4⟩
/-- what data and instances are seen as by isinstance against an own class, and by == -/
structure OwnT (K : PySem.W.Frag) (C : Addr) : Prop where
  ins : InsT K C
  self : PySem.W.kitOne K (.ref C) (.ref C) = some true
  kit : ∀ T ∈ ["NoneType", "bool", "int", "str", "list", "tuple"], PySem.W.kitOne K (.type T) (.ref C) = some false
  nf : ∀ T ∈ ["NoneType", "bool", "int", "str", "list", "tuple"], PySem.W.notFirst K C (.type T) = true
theorem OwnT.nfC {K : PySem.W.Frag} {C : Addr} : PySem.W.notFirst K C (.ref C) = true := by unfold PySem.W.notFirst; simp
def ownTB (K : PySem.W.Frag) (C : Addr) : Bool := decide (PySem.W.kitOne K (.ref C) (.ref C) = some true) && (["NoneType", "bool", "int", "str", "list", "tuple"].all fun T => decide (PySem.W.kitOne K (.type T) (.ref C) = some false) && PySem.W.notFirst K C (.type T))
theorem ownTB_ok {K : PySem.W.Frag} {C : Addr} (i : InsT K C) (h : ownTB K C = true) : OwnT K C := by
  obtain ⟨h1, h2⟩ := ba h
  have h3 := fun T hT => ba (List.all_eq_true.mp h2 T hT)
  exact ⟨i, of_decide_eq_true h1, fun T hT => of_decide_eq_true (h3 T hT).1, fun T hT => (h3 T hT).2⟩
/-- data that is no dict -/
def noD : PyData → Bool
  | .dict _ => false
  | _ => true
theorem tname_mem {d : PyData} (h : noD d = true) : Lk.tname d ∈ ["NoneType", "bool", "int", "str", "list", "tuple"] := by
  cases d with
  | dict _ => cases h
  | _ => simp [Lk.tname]
/-- a property of an own class: its object, its getter -/
def propP (K : PySem.W.Frag) (C : Addr) (f : Str) : Addr := match PySem.W.findIn K (.ref C) f with
  | some (some (.ref p)) => p
  | _ => 0
def propG (K : PySem.W.Frag) (C : Addr) (f : Str) : Addr := match PySem.W.recIn K (propP K C f) "property" with
  | some (.ref g :: _) => g
  | _ => 0
def propB (K : PySem.W.Frag) (C : Addr) (f : Str) : Bool := eqO (PySem.W.findIn K (.ref C) f) (some (some (.ref (propP K C f)))) && (eqO (PySem.W.specialIn K (.ref (propP K C f)) "__get__") (some (some (.builtin "property.__get__"))) && (decide (PySem.W.takesIn K (.ref (propP K C f)) = some true) &&
  (match PySem.W.recIn K (propP K C f) "property" with
  | some (.ref g :: _) => decide (g = propG K C f)
  | _ => false)))
theorem propB_ok {K : PySem.W.Frag} {C : Addr} {f : Str} (h : propB K C f = true) : PropOf K C f (propP K C f) (propG K C f) := by
  obtain ⟨h1, h⟩ := ba h
  obtain ⟨h2, h⟩ := ba h
  obtain ⟨h3, h4⟩ := ba h
  refine ⟨eqO_ok h1, eqO_ok h2, of_decide_eq_true h3, ?_⟩
  split at h4
  · rename_i g rest e
    have q := of_decide_eq_true h4
    exact ⟨rest, by rw [e, q]⟩
  · cases h4
inductive Cf where
  | prop (C f : Str)
  | nobool (C : Str)
  | own (C : Str)
  | emp (C m : Str) (i : Nat)
  | dat (x : Str) (d : PyData)
  | con (C f : Str) (v : Dv)
  | tab (x : Str) (kvs : List (Str × List Str))
  | insT (C : Str)
  | kit (C E : Str) (b : Bool)
def Cf.ok (K : PySem.W.Frag) : Cf → Bool
  | .prop C f => propB K (ga K C) f
  | .nobool C => eqO (PySem.W.findIn K (.ref (ga K C)) "__bool__") (some none)
  | .own C => ownTB K (ga K C)
  | .emp C m i => Hk.isTupB K (dflAt (C, some m) i K) (fun l => l.isEmpty)
  | .dat x d => datB K d (.ref (ga K x))
  | .con C f v => conB K C f v
  | .tab x kvs => tabB K (ga K x) kvs
  | .insT C => insTB K (ga K C)
  | .kit C E b => decide (PySem.W.kitOne K (.ref (ga K C)) (.ref (ga K E)) = some b)
abbrev Tb : Type := Str × List Str
abbrev AlM : Type := Hk.AlK × (Bool × List (Option (List (Option (Str × Int)))))
section
variable (fa : List Fa) (fn : List DefD) (file : Str) (ini : List Hk.IniD) (ce : List Hk.Ce) (cf : List Cf) (ts : List Tb)
def obsM (K : PySem.W.Frag) : AlM := (Hk.obsK fa fn file ini ce K, (cf.all fun e => e.ok K, ts.map fun t => dicW K (ga K t.1)))
def valM (w : World) : AlM := (Hk.valK fn ini, (true, ts.map fun t => some (keysIn w.params t.2)))
def Says (w : World) (K : PySem.W.Frag) : Prop := obsM fa fn file ini ce cf ts K = valM fn ini ts w
def obsMG (n : Nat) (g : Addr → Option Obj) : AlM := obsM fa fn file ini ce cf ts (frG g (Hk.asK g n))
def hookM (n : Nat) : PySem.W.Hook where
  α := AlM
  obs := fun s => obsMG fa fn file ini ce cf ts n s.heap.get?
  val := fun w => valM fn ini ts w
  says := fun w h => ∃ K : PySem.W.Frag, K.In h ∧ Says fa fn file ini ce cf ts w K
  of := fun _ _ e => ⟨_, frG_in, e⟩
  keeps := fun _ _ _ ⟨K, hK, c⟩ k => ⟨K, PySem.W.Frag.In.keeps hK k, c⟩
theorem obsMG_eq {n : Nat} {g : Addr → Option Obj} {s : Shared} (h : ∀ a, g a = s.heap.get? a) : obsMG fa fn file ini ce cf ts n g = (hookM fa fn file ini ce cf ts n).obs s := by
  have e : g = s.heap.get? := funext h
  rw [e] <;> rfl
end
section
variable {fa : List Fa} {fn : List DefD} {file : Str} {ini : List Hk.IniD} {ce : List Hk.Ce} {cf : List Cf} {ts : List Tb} {w : World} {K : PySem.W.Frag}
theorem Says.k (c : Says fa fn file ini ce cf ts w K) : Hk.Says fa fn file ini ce K := congrArg (fun z : AlM => z.1) c
theorem Says.f (c : Says fa fn file ini ce cf ts w K) (i : Nat) {e : Cf} (h : cf[i]? = some e := by rfl) : e.ok K = true := by
  have c2 : (cf.all fun e => e.ok K) = true := congrArg (fun z : AlM => z.2.1) c
  exact List.all_eq_true.mp c2 e (List.mem_of_getElem? h)
theorem Says.tab (c : Says fa fn file ini ce cf ts w K) (i : Nat) {t : Tb} (h : ts[i]? = some t := by rfl) : ∃ es n, KDict K w (ga K t.1) es n := by
  have e : ts.map (fun t => dicW K (ga K t.1)) = ts.map fun t => some (keysIn w.params t.2) := congrArg (fun z : AlM => z.2.2) c
  have e2 : (ts.map fun t => dicW K (ga K t.1))[i]? = (ts.map fun t => some (keysIn w.params t.2))[i]? := by rw [e]
  rw [List.getElem?_map, List.getElem?_map, h] at e2
  exact dicW_ok (Option.some.inj e2)
end
/-- a table's value, as a subscript asks it -/
theorem kdct {w : World} {K : PySem.W.Frag} {a : Addr} {kvs : List (Str × List Str)} (ht : ∃ es n, KDict K w a es n) (h : tabB K a kvs = true) {q : Str × List Str} (hq : q ∈ kvs) : ∃ p, KDct K w a q.1 (.ref p) ∧ ∀ H : Hp, SqT K H p (q.2.map V.str) := by
  obtain ⟨es, n, D⟩ := ht
  obtain ⟨p, e, s⟩ := tabB_ok h hq
  exact ⟨p, ⟨es, n, _, D.at_, D.lit, e, rfl⟩, s⟩
end Hm
namespace Hm
open PySem PySem.Spec PyProof.Rows L2 He
theorem datX_ok {K : PySem.W.Frag} {a : Addr} {ds : List PyData} (h : datB K (.tuple ds) (.ref a) = true) : ∃ xs : List V, (∀ H : Hp, SqT K H a xs) ∧ ∀ H : Hp, DpAll K H xs ds := by
  have h : (match K.lookup a with
    | some ⟨.type c, _, .seq its _, _⟩ => decide (c = "tuple") && (decide (its.size ≤ sizeLine) && datAllB K ds its.toList)
    | _ => false) = true := h
  split at h
  · rename_i c od its n sl e
    obtain ⟨h1, h2⟩ := ba h
    obtain ⟨h3, h4⟩ := ba h2
    obtain ⟨xs, r, hd⟩ := datAllB_ok h4
    exact ⟨xs, fun H => .inr ⟨_, its, n, e, congrArg Value.type (of_decide_eq_true h1), rfl, of_decide_eq_true h3, r⟩, hd⟩
  · cases h
theorem emp_ok {K : PySem.W.Frag} {a : Addr} (h : Hk.isTupB K a (fun l => l.isEmpty) = true) : ∀ H : Hp, SqT K H a [] := by
  obtain ⟨its, h1, h2⟩ := Hk.isTupB_ok h
  have e : its = [] := List.isEmpty_iff.mp h1
  subst e
  exact fun H => h2 [] H .nil
end Hm

set_option Elab.async false
set_option linter.all false
set_option maxRecDepth 100000
set_option maxHeartbeats 4000000
/-! the Hook's look, cheaper: what the module's names reach, each object asked once, code objects not opened -/
namespace Hq
open PySem PySem.Spec PyProof.Rows L2 He
def refsP (o : Obj) : List Addr := match o.data with
  | .fields vs => (match Nat.ble vs.size 6 with
    | true => vs.toList.flatMap refV
    | false => [])
  | .dict es _ => es.toList.flatMap fun e => refV e.val
  | .func fd => refV fd.code ++ (refV fd.defaults ++ (refV fd.kwdefaults ++ fd.closure.map (·.2)))
  | .cls cd => cd.ns :: cd.mro.flatMap refV
  | .seq its _ => its.toList.flatMap refV
  | .cell (some v) => refV v
  | _ => []
def mem (a : Nat) : List Nat → Bool
  | [] => false
  | b :: r => match Nat.beq a b with
    | true => true
    | false => mem a r
/-- the new ones of these, put ahead -/
def addP (seen : List Addr) : List Addr → List Addr → List Addr
  | [], acc => acc
  | b :: r, acc => match mem b seen with
    | true => addP seen r acc
    | false => (match mem b acc with
      | true => addP seen r acc
      | false => addP seen r (b :: acc))
def stepP (g : Addr → Option Obj) (seen : List Addr) : List Addr → List Addr → List Addr
  | [], acc => acc
  | a :: fr, acc => match g a with
    | some o => stepP g seen fr (addP seen (refsP o) acc)
    | none => stepP g seen fr acc
def goP (g : Addr → Option Obj) : Nat → List Addr → List Addr → List Addr
  | 0, seen, _ => seen
  | n + 1, seen, fr => match stepP g seen fr [] with
    | [] => seen
    | a :: r => goP g n (a :: r ++ seen) (a :: r)
def asP (g : Addr → Option Obj) (n : Nat) : List Addr := goP g n [cStatics, mainGlobals] [mainGlobals]
def obsKG (n : Nat) (fa : List Fa) (fn : List DefD) (file : Str) (ini : List Hk.IniD) (ce : List Hk.Ce) (g : Addr → Option Obj) : Hk.AlK := Hk.obsK fa fn file ini ce (frG g (asP g n))
def hookK (n : Nat) (fa : List Fa) (fn : List DefD) (file : Str) (ini : List Hk.IniD) (ce : List Hk.Ce) : PySem.W.Hook where
  α := Hk.AlK
  obs := fun s => obsKG n fa fn file ini ce s.heap.get?
  val := fun _ => Hk.valK fn ini
  says := fun _ h => ∃ K : PySem.W.Frag, K.In h ∧ Hk.Says fa fn file ini ce K
  of := fun _ _ e => ⟨_, frG_in, e⟩
  keeps := fun _ _ _ ⟨K, hK, c⟩ k => ⟨K, PySem.W.Frag.In.keeps hK k, c⟩
theorem obsKG_eq {n : Nat} {fa : List Fa} {fn : List DefD} {file : Str} {ini : List Hk.IniD} {ce : List Hk.Ce} {g : Addr → Option Obj} {s : Shared} (h : ∀ a, g a = s.heap.get? a) : obsKG n fa fn file ini ce g = (hookK n fa fn file ini ce).obs s := by
  have e : g = s.heap.get? := funext h
  rw [e] <;> rfl
section
variable (fa : List Fa) (fn : List DefD) (file : Str) (ini : List Hk.IniD) (ce : List Hk.Ce) (cf : List Hm.Cf) (ts : List Hm.Tb)
def obsMG (n : Nat) (g : Addr → Option Obj) : Hm.AlM := Hm.obsM fa fn file ini ce cf ts (frG g (asP g n))
def hookM (n : Nat) : PySem.W.Hook where
  α := Hm.AlM
  obs := fun s => obsMG fa fn file ini ce cf ts n s.heap.get?
  val := fun w => Hm.valM fn ini ts w
  says := fun w h => ∃ K : PySem.W.Frag, K.In h ∧ Hm.Says fa fn file ini ce cf ts w K
  of := fun _ _ e => ⟨_, frG_in, e⟩
  keeps := fun _ _ _ ⟨K, hK, c⟩ k => ⟨K, PySem.W.Frag.In.keeps hK k, c⟩
theorem obsMG_eq {n : Nat} {g : Addr → Option Obj} {s : Shared} (h : ∀ a, g a = s.heap.get? a) : obsMG fa fn file ini ce cf ts n g = (hookM fa fn file ini ce cf ts n).obs s := by
  have e : g = s.heap.get? := funext h
  rw [e] <;> rfl
end
/-! ### getters of properties -/
structure PDef where
  cls : Str
  prop : Str
  qual : Str
  params : Arguments
  body : List Stmt
  scope : Scope
def PDef.adr (K : PySem.W.Frag) (d : PDef) : Addr := Hm.propG K (ga K d.cls) d.prop
def PDef.val (d : PDef) : FnW := some (d.prop, d.qual, d.params, .stmts d.body, d.scope, mainGlobals, [], builtinsNs)
def fnA (K : PySem.W.Frag) (a : Addr) : FnW := match K.lookup a with
  | some ⟨_, _, .func fd, _⟩ => some (fd.name, fd.qualname, fd.params, fd.body, fd.scope, fd.globals, fd.closure, fd.builtins)
  | _ => none
def okA (K : PySem.W.Frag) (a : Addr) (qual : Str) : Bool := PySem.W.keepIn K (.ref a) && (match K.lookup a with
  | some ⟨_, _, .func fd, _⟩ => PySem.W.codeIn K fd.code qual && dflB K fd.defaults []
  | _ => false)
theorem fnA_funD {K : PySem.W.Frag} {a : Addr} {name qual : Str} {params : Arguments} {body : List Stmt} {scope : Scope} (e : fnA K a = some (name, qual, params, .stmts body, scope, mainGlobals, [], builtinsNs)) (c : okA K a qual = true) : ∃ fd, FunD K name qual params body scope [] [] a fd := by
  obtain ⟨kp, c2⟩ := ba c
  unfold fnA at e
  cases q : K.lookup a with
  | none =>
    rw [q] at c2
    cases c2
  | some o =>
    obtain ⟨oc, od, dt, osl⟩ := o
    rw [q] at c2 e
    cases dt with
    | func fd =>
      obtain ⟨n1, n2, n3, n4, n5, n6, n7, n8, n9, n10, n11, n12, n13, n14, n15⟩ := fd
      have e2 : (some (n1, n2, n3, n4, n5, n6, n7, n15) : FnW) = some (name, qual, params, .stmts body, scope, mainGlobals, [], builtinsNs) := e
      simp only [Option.some.injEq, Prod.mk.injEq] at e2
      obtain ⟨h1, h2, h3, h4, h5, h6, h7, h8⟩ := e2
      subst h1 h2 h3 h4 h5 h6 h7 h8
      obtain ⟨k1, k2⟩ := ba (show (PySem.W.codeIn K n13 n2 && dflB K n8 []) = true from c2)
      exact ⟨_, ⟨oc, od, n8, n9, n10, n11, n12, n13, n14, osl, rfl, q, k1, dflB_ok k2, .inl rfl⟩, kp⟩
    | _ => cases c2
abbrev AlP : Type := Hm.AlM × (Bool × List FnW)
section
variable (fa : List Fa) (fn : List DefD) (file : Str) (ini : List Hk.IniD) (ce : List Hk.Ce) (cf : List Hm.Cf) (ts : List Hm.Tb) (pd : List PDef)
def obsP (K : PySem.W.Frag) : AlP := (Hm.obsM fa fn file ini ce cf ts K, (pd.all fun d => okA K (d.adr K) d.qual, pd.map fun d => fnA K (d.adr K)))
def valP (w : World) : AlP := (Hm.valM fn ini ts w, (true, pd.map PDef.val))
def SaysP (w : World) (K : PySem.W.Frag) : Prop := obsP fa fn file ini ce cf ts pd K = valP fn ini ts pd w
def obsPG (n : Nat) (g : Addr → Option Obj) : AlP := obsP fa fn file ini ce cf ts pd (frG g (asP g n))
def hookP (n : Nat) : PySem.W.Hook where
  α := AlP
  obs := fun s => obsPG fa fn file ini ce cf ts pd n s.heap.get?
  val := fun w => valP fn ini ts pd w
  says := fun w h => ∃ K : PySem.W.Frag, K.In h ∧ SaysP fa fn file ini ce cf ts pd w K
  of := fun _ _ e => ⟨_, frG_in, e⟩
  keeps := fun _ _ _ ⟨K, hK, c⟩ k => ⟨K, PySem.W.Frag.In.keeps hK k, c⟩
theorem obsPG_eq {n : Nat} {g : Addr → Option Obj} {s : Shared} (h : ∀ a, g a = s.heap.get? a) : obsPG fa fn file ini ce cf ts pd n g = (hookP fa fn file ini ce cf ts pd n).obs s := by
  have e : g = s.heap.get? := funext h
  rw [e] <;> rfl
end
section
variable {fa : List Fa} {fn : List DefD} {file : Str} {ini : List Hk.IniD} {ce : List Hk.Ce} {cf : List Hm.Cf} {ts : List Hm.Tb} {pd : List PDef} {w : World} {K : PySem.W.Frag}
theorem SaysP.m (c : SaysP fa fn file ini ce cf ts pd w K) : Hm.Says fa fn file ini ce cf ts w K := congrArg (fun z : AlP => z.1) c
theorem SaysP.get (c : SaysP fa fn file ini ce cf ts pd w K) (i : Nat) {d : PDef} (h : pd[i]? = some d := by rfl) : ∃ fd, FunD K d.prop d.qual d.params d.body d.scope [] [] (d.adr K) fd := by
  have c2 : (pd.all fun d => okA K (d.adr K) d.qual) = true := congrArg (fun z : AlP => z.2.1) c
  have e : pd.map (fun d => fnA K (d.adr K)) = pd.map PDef.val := congrArg (fun z : AlP => z.2.2) c
  have e2 : (pd.map fun d => fnA K (d.adr K))[i]? = (pd.map PDef.val)[i]? := by rw [e]
  rw [List.getElem?_map, List.getElem?_map, h] at e2
  exact fnA_funD (Option.some.inj e2) (List.all_eq_true.mp c2 d (List.mem_of_getElem? h))
end
/-! ### a run's equation, part by part -/
theorem map3 {α β γ δ : Type} {o : Option α} {f : α → β} {g : α → γ} {h : α → δ} {a : β} {b : γ} {c : δ} (h1 : o.map f = some a) (h2 : o.map g = some b) (h3 : o.map h = some c) : o.map (fun s => (f s, g s, h s)) = some (a, b, c) := by
  cases o with
  | none => cases h1
  | some s =>
    have e1 := Option.some.inj h1
    have e2 := Option.some.inj h2
    have e3 := Option.some.inj h3
    show some (f s, g s, h s) = _
    rw [e1, e2, e3]
end Hq

set_option Elab.async false
set_option linter.all false
set_option maxRecDepth 100000
set_option maxHeartbeats 4000000
/-! more rules: set(list of ints), sorted(tuple), t[::-1] of a tuple, C() without an __init__, choices -/
namespace Kd
open PySem PySem.Spec PyProof.Rows L2 Lk
/-! ### a choice among readings -/
theorem pe_any {X : Cx} {e : Expr} {ι : Type} {t : ι → TE} (h : ∀ i, PE X e (t i)) : PE X e (fun σ H Q => ∃ i, t i σ H Q) := ⟨fun pins s σ H Q I ⟨i, q⟩ => (h i).run pins s σ H Q I q⟩
theorem pi_or {X : Cx} {tg it : Expr} {a b : TI} (h1 : PI X tg it a) (h2 : PI X tg it b) : PI X tg it (fun σ H R => a σ H R ∨ b σ H R) := ⟨fun pins s σ H R I q => q.elim (h1.run pins s σ H R I) (h2.run pins s σ H R I)⟩
theorem cr_or {X : Cx} {f : Value} {a b : List V → Hp → VK → Prop} (h1 : CallR X f a) (h2 : CallR X f b) : CallR X f (fun xs H Q => a xs H Q ∨ b xs H Q) := Lk.CallR.or h1 h2
theorem sl_or {X : Cx} {a b : V → Option Int → Option Int → Hp → VK → Prop} (h1 : SlR X a) (h2 : SlR X b) : SlR X (fun x lo hi H Q => a x lo hi H Q ∨ b x lo hi H Q) := fun pins s σ H x v vl vu lo hi sl Q I rx hs pl pu q =>
  q.elim (h1 pins s σ H x v vl vu lo hi sl Q I rx hs pl pu) (h2 pins s σ H x v vl vu lo hi sl Q I rx hs pl pu)
/-- what is never reached -/
theorem ps_dead {X : Cx} {st : Stmt} : PS X st (fun _ _ _ => False) := ⟨fun _ _ _ _ _ _ h => h.elim⟩
/-! ### C(), the class without an __init__ of its own -/
def tBare (C : Addr) : TE := fun _ H Q => ∀ x dx, H x = none → H dx = none → dx ≠ x → Q (.ref x) (upd (upd H dx (.own x)) x (.ins C dx []))
structure BareC (K : PySem.W.Frag) (C : Addr) : Prop where
  makes : PySem.W.makesIn K C = true
  init : PySem.W.findIn K (.ref C) "__init__" = some (some (.builtin "object.__init__"))
  kp : PySem.W.keepIn K (.ref C) = true
theorem pe_bare {X : Cx} {C : Addr} {x : Str} {p pos : Pos} (M : BareC X.K C) (hg : Gl X x) (hm : X.mg x = some (.ref C)) (hdb : (x == ("__debug__" : Str)) = false := by decide) : PE X (.Call (.Name x p) [] [] pos) (tBare C) := by
  refine ⟨fun pins s σ H Q I h => wpAny_Call_Name_kw (ld_glob I hg hm ?_ hdb)⟩
  refine PySem.W.callWith_K0 I.kIn M.kp (wpAny_call ?_)
  have q := h (s.heap.objs.size + 1) s.heap.objs.size (I.hok.fresh (Nat.le_succ _)) (I.hok.fresh (Nat.le_refl _)) (Nat.ne_of_lt (Nat.lt_succ_self _))
  have J := Inv.made (C := C) I
  have Y := PySem.W.makes_of (M := model X.prog X.w) I.kIn M.makes
  have hob : ((s.heap.push PySem.W.emptyDict).push (PySem.W.instObj C s.heap.objs.size)).get? (s.heap.objs.size + 1) = some (PySem.W.instObj C s.heap.objs.size) := by
    have z := Heap.get?_push_size (s.heap.push PySem.W.emptyDict) (o := PySem.W.instObj C s.heap.objs.size) rfl
    rwa [Heap.size_push] at z
  refine make_map0 I.kIn M.makes M.init (fun self => PySem.W.Looks.of_pure (PySem.W.oi_bind self)) ?_
  have ty : PySem.W.Looks (model X.prog X.w) ((s.heap.push PySem.W.emptyDict).push (PySem.W.instObj C s.heap.objs.size)) (typeOf (.ref (s.heap.objs.size + 1))) (.ref C) := (PySem.W.Looks.ld hob).andThen .now
  have is : PySem.W.Looks (model X.prog X.w) ((s.heap.push PySem.W.emptyDict).push (PySem.W.instObj C s.heap.objs.size)) (isInstance (.ref (s.heap.objs.size + 1)) (.type "object")) true :=
    ty.andThen (Y.top.keeps fun b o e => Heap.get?_push_of_some _ (Heap.get?_push_of_some _ e))
  obtain ⟨hp, g, dr, tk, os⟩ := s
  refine codeAny_call_builtin PySem.W.oi_plain PySem.W.entry_oi (@PySem.W.check_slot (model X.prog X.w) _ _ _ "object.__init__" "object" "__init__"
    (.ref (hp.objs.size + 1)) [] [] _ PySem.W.oi_kind PySem.W.oi_split is (PySem.W.oi_args (.ref (hp.objs.size + 1))) ?_)
  rw [PySem.W.oi_run]
  have z : EP X pins σ Q (.ref (hp.objs.size + 1)) ⟨(hp.push PySem.W.emptyDict).push (PySem.W.instObj C hp.objs.size), g, dr, tk, os⟩ := ⟨.ref (hp.objs.size + 1), _, J, rfl, q⟩
  exact wpAny_pure (And.intro rfl z)
/-! ### sorted(x), x a list or a tuple of ints -/
theorem vals_tup {X : Cx} {pins : List (Addr × Obj)} {σ : L2.St} {H : Hp} {s : Shared} {a : Addr} {ns : List Int} (I : Inv X pins σ H s) (h : SqT X.K H a (ns.map V.int)) : ∃ its, IntsAre its ns ∧ s.heap.IsTuple a its.toArray ∧ ns.length ≤ sizeLine := by
  obtain ⟨its, rv, pt, hz⟩ := I.tuple h
  exact ⟨its, ints_of_vals rv, pt, by rw [List.length_map] at hz; exact hz⟩
section
variable {prog : Program} {w : World} {A : Around} {E : Value → Shared → Prop} {s : Shared} {l : Addr} {vs : List Value} {ns : List Int}
/-- the list that collect lays -/
def lay (h : Heap) (vs : List Value) : Heap := (h.push (seqObj "list" #[] 0)).update h.objs.size (Obj.mapSeq fun a => a ++ vs.toArray)
theorem lay_size (h : Heap) (vs : List Value) : (lay h vs).objs.size = h.objs.size + 1 := by
  unfold lay; rw [Heap.size_update, size_push']
theorem lay_old {h : Heap} {vs : List Value} {b : Addr} {o : Obj} (e : h.get? b = some o) : (lay h vs).get? b = some o := by
  unfold lay
  rw [Heap.get?_update_ne _ _ _ _ (Nat.ne_of_lt (Heap.lt_size e))]
  exact Heap.get?_push_of_some _ e
theorem collect_tup {Q : List Value → Shared → Prop} (hl : s.heap.IsTuple l vs.toArray) (hz : vs.length ≤ sizeLine) (h : Q vs { s with heap := lay s.heap vs }) : wpAny (model prog w) A (collect (.ref l)) Q E s := by
  have ⟨o, ho, hc, n, hd⟩ := hl
  have hn : (s.heap.push (seqObj "list" #[] 0)).get? s.heap.objs.size = some (seqObj "list" #[] 0) := Heap.get?_push_size _ rfl
  have hk : (s.heap.push (seqObj "list" #[] 0)).get? l = some o := Heap.get?_push_of_some _ ho
  unfold collect
  refine wpAny_bind (wpAny_runValue (codeAny_builtin entry_proto_collect'
    (wpAny_bind (m := newList []) (wpAny_newList (wpAny_pure ⟨Code.quiet_builtin _ (by decide +kernel), codeAny_builtin entry_list_iadd' ?_⟩)))))
  show wpAny _ _ (Builtin.List.listExtendWith (.ref s.heap.objs.size) (.ref l) (.ref s.heap.objs.size)) _ _
    { s with heap := s.heap.push (seqObj "list" #[] 0) }
  unfold Builtin.List.listExtendWith
  refine wpAny_bind (wpAny_typeOf (T := "tuple") ⟨o, hk, hc⟩ ?_)
  rw [if_pos (by rw [show (Value.type "tuple" == Value.type "tuple") = true from rfl, Bool.or_true])]
  refine wpAny_bind (listItems_at hk hd (wpAny_bind (listItems_at (xs := #[]) (n := 0) hn rfl ?_)))
  rw [if_neg (by simp)]
  refine wpAny_bind (listUpdate_at (xs := #[]) (n := 0) hn rfl ?_ (Nat.zero_le _) (by rw [Array.size_append]; simp only [List.size_toArray, List.length_nil]; omega))
  refine wpAny_pure ?_
  show wpAny _ _ (load s.heap.objs.size >>= _) Q E { s with heap := lay s.heap vs }
  refine wpAny_bind (wpAny_load (get?_update_seq hn _) ?_)
  show wpAny _ _ (pure (#[] ++ vs.toArray).toList) Q E _
  have e : (#[] ++ vs.toArray).toList = vs := by simp
  rw [e]
  exact wpAny_pure h
theorem sorted_tup {Q : Value → Shared → Prop} (hl : s.heap.IsTuple l vs.toArray) (hI : IntsAre vs ns) (hz : vs.length ≤ sizeLine)
    (h : ∀ out : List Value, SrtO.Srtd SrtO.ltIv out → SrtO.Stb SrtO.ltIv out vs → Q (.ref (s.heap.objs.size + 1)) { s with heap := sortedAll s.heap vs out.toArray }) : wpAny (model prog w) A (call (.builtin "sorted") [.ref l]) Q E s := by
  refine Calls.call_function_entry kind_sorted plain_sorted entry_sorted (args_sorted1 _) ?_
  unfold Builtin.«sorted»
  refine wpAny_bind (m := checkCount "sorted" 1 1 _) (wpAny_pure (wpAny_bind (collect_tup hl hz (wpAny_bind (wpAny_newList ?_ hz)))))
  have hoL : ((lay s.heap vs).push (seqObj "list" vs.toArray 0)).get? (s.heap.objs.size + 1) = some (seqObj "list" vs.toArray 0) := by
    rw [← lay_size s.heap vs]; exact Heap.get?_push_size _ rfl
  show wpAny _ _ _ _ _ { s with heap := (lay s.heap vs).push (seqObj "list" vs.toArray 0) }
  rw [show (lay s.heap vs).objs.size = s.heap.objs.size + 1 from lay_size _ _]
  exact wpAny_bind (wpAny_holding (wpAny_call_entry slot_list_sort ⟨_, hoL, rfl⟩ entry_list_sort
    (SrtO.list_sort_ord SrtO.swo_int hoL hz (fun h2 => SrtO.ints_sortable hI h2) fun out hs hb => ⟨_, rfl, wpAny_pure ⟨_, rfl, h out hs hb⟩⟩) (args_list_sort _)))
end
def rSortedTu (K : PySem.W.Frag) : List V → Hp → VK → Prop := fun vs H Q => ∃ (a : Addr) (ns : List Int), vs = [V.ref a] ∧ SqT K H a (ns.map V.int) ∧
  ∀ (ns' : List Int) (p : Addr), ns'.Perm ns → ns'.Pairwise (· ≤ ·) → H p = none → Q (.ref p) (upd H p (.lst (ns'.map V.int)))
theorem cr_sortedTu {X : Cx} : CallR X (.builtin "sorted") (rSortedTu X.K) := by
  intro pins s σ H vs us Q I r h
  obtain ⟨a, ns, rfl, hs, q⟩ := h
  obtain ⟨its, hi, hl, hz⟩ := vals_tup I hs
  rw [Vals.ref1 r]
  refine sorted_tup hl hi (by rw [hi.length]; exact hz) fun out h1 h2 => ?_
  obtain ⟨k1, k2, k3⟩ := SrtO.ints_out hi h1 h2
  obtain ⟨ep, he⟩ := PyProof.Rows.sortedAll_at s.heap its out.toArray
  exact ⟨.ref _, upd H (s.heap.objs.size + 1) (.lst ((out.map SrtO.iv).map V.int)),
    I.laid (t' := s.toks) (fun _ _ => PyProof.Rows.sortedAll_old) (Nat.le_succ _) ⟨by rw [List.length_map, k2.length_eq]; exact hz, out, ep, vals_of_ints k1, he⟩, rfl, q _ _ k2 k3 (I.hok.fresh (Nat.le_succ _))⟩
/-! ### set(x), x a list or a tuple of ints -/
section
variable {P : Program} {w : World} {A : Around} {E : Value → Shared → Prop} {s : Shared} {l : Addr} {items : Array Value} {ns : List Int}
/-- a new empty set -/
def s0 (w : World) : Obj := { cls := .type "set", dict := none, data := .set #[] 0 (.fresh 0 0 (!w.params.followText "set-order")) }
/-- what set.__init__ leaves -/
def Made (w : World) (s : Shared) (ns : List Int) (s2 : Shared) : Prop :=
  ∃ (h' : Heap) (tk c : Nat), s2 = { s with heap := h', toks := tk } ∧ SetR w h' s.heap.objs.size (fun j => decide (j ∈ ns)) c ∧ c ≤ ns.length ∧ (∀ b o, s.heap.get? b = some o → h'.get? b = some o)
theorem int_items (hit : IntsAre items.toList ns) (i : Nat) (v : Value) (hv : items[i]? = some v) : ∃ k t, ns[i]? = some k ∧ v = .int k t := by
  have hi : i < ns.length := by
    rw [← IntsAre.length hit, Array.length_toList]
    exact (Array.getElem?_eq_some_iff.mp hv).1
  obtain ⟨t, e⟩ := PyProof.Rows.IntsAre.int_at hit i v (by rw [Array.getElem?_toList]; exact hv)
  exact ⟨ns[i], t, List.getElem?_eq_getElem hi, by rw [e, List.getD_eq_getElem?_getD, List.getElem?_eq_getElem hi] <;> rfl⟩
set_option maxHeartbeats 8000000 in
theorem set_list {Q : Value → Shared → Prop} (hh : A.handled = none) (hl : s.heap.IsList l items) (hit : IntsAre items.toList ns) (hb : ns.length + 1 < scanBound) (h : ∀ s2, Made w s ns s2 → Q (.ref s.heap.objs.size) s2) :
    wpAny (model P w) A (call (.type "set") [.ref l]) Q E s := by
  obtain ⟨_, _, hmro⟩ := F.called_set.mro
  obtain ⟨hmade, hsub, h1, h2⟩ := And.intro F.called_set.made (And.intro F.called_set.sub (And.intro F.called_set.notType F.called_set.canCreate))
  have hct := F.typeCall_set_1 (.ref l)
  have hx : (s.heap.push (s0 w)).get? s.heap.objs.size = some (s0 w) := Heap.get?_push_size _ rfl
  have hT : Shared.TypeIs { s with heap := s.heap.push (s0 w) } (.ref s.heap.objs.size) "set" := ⟨_, hx, rfl⟩
  obtain ⟨hli, hbi⟩ := And.intro F.called_set.init.lookup (F.called_set.init.bind (.ref s.heap.objs.size))
  refine wpAny_call (codeAny_of_tree (wpAny_pure ⟨Code.quiet_builtin _ (by decide +kernel), codeAny_builtin F.entry_type_call ?_⟩))
  rw [Around.under_plain (weight_type_call_type "set" [.ref l] []) rfl]
  repeat (any_goals (first | assumption | wp_step))
  refine codeAny_mono (code_set_led1 (.ref l) (E := E) (Q₁ := fun ob s1 => ob = .ref s.heap.objs.size ∧ s1 = { s with heap := s.heap.push (s0 w) }) ⟨rfl, rfl⟩) fun r s1 hr => ?_
  rcases r with e | fl
  · exact hr
  rcases fl with _ | _ | _ | ob
  iterate 3 exact hr.elim
  obtain ⟨rfl, rfl⟩ := hr
  repeat (any_goals (first | assumption | wp_step))
  refine codeAny_mono (codeAny_call_builtin (R := wants (fun r s2 => r = .none ∧ Made w s ns s2) E) F.called_set.init.plain F.entry_set_init (check_set_init_1 hT ?_)) fun r2 s2 hr2 => ?_
  case refine_2 =>
    rcases r2 with e | fl2
    · exact hr2
    rcases fl2 with _ | _ | _ | r
    iterate 3 exact hr2.elim
    obtain ⟨rfl, hM⟩ := hr2
    repeat (any_goals (first | assumption | wp_step))
    exact h _ hM
  obtain ⟨⟨oc, od, dt, sl⟩, hol, hcl, nl, hdl⟩ := id hl
  simp only at hcl hdl
  subst hcl hdl
  have hk := Heap.get?_push_of_some (s0 w) hol
  have hL : (s.heap.push (s0 w)).IsList l items := ⟨_, hk, rfl, nl, rfl⟩
  obtain ⟨hsls, hslf⟩ := And.intro F.sub_list_set F.sub_list_frozenset
  have hne : (Value.type "list" == Value.type "dict") = false := by decide
  unfold Builtin.«set.__init__» noKeywords
  unfold Builtin.Frozenset.updateFrom
  generalize hPI : pyIter = PI
  wp_walk
  subst hPI
  refine wpAny_pyIter_list hL (wpAny_bind (wpAny_runValue ?_))
  have ll : l < s.heap.objs.size := Heap.lt_size hol
  have zz : (s.heap.push (s0 w)).objs.size = s.heap.objs.size + 1 := Heap.size_push ..
  have n1 : l ≠ (s.heap.push (s0 w)).objs.size := by rw [zz]; exact Nat.ne_of_lt (Nat.lt_succ_of_lt ll)
  have n2 : s.heap.objs.size ∉ [(s.heap.push (s0 w)).objs.size, l] := by
    rw [zz]
    simp only [List.mem_cons, List.not_mem_nil, or_false, not_or]
    exact ⟨Nat.ne_of_lt (Nat.lt_succ_self _), Nat.ne_of_gt ll⟩
  have hsz : items.size = ns.length := by rw [← IntsAre.length hit, Array.length_toList]
  refine set_update_ints ((Walks.list (by simp [hh]) _ l n1 items).toS) s.heap.objs.size n2 ns hsz hb (int_items hit) (items.size - 0) 0 _ (by omega) (Nat.zero_le _)
    ⟨⟨_, Heap.get?_push_size _ rfl, rfl, rfl⟩, hL.push _⟩ ⟨0, Nat.le_refl 0, setR_new_at (Heap.get?_push_of_some _ hx)⟩ ?_
  intro s3 c3 hm hc3 hS3
  obtain ⟨h', g, d, tk, os⟩ := s3
  obtain ⟨rfl, rfl, rfl⟩ : g = s.gens ∧ d = s.drawn ∧ os = s.os := ⟨hm.gens, hm.drawn, hm.os⟩
  show wpAny _ _ _ _ _ _
  refine wpAny_pure ?_
  show wpAny _ _ (ret Value.none) _ _ _
  refine wpAny_pure ⟨rfl, h', tk, c3, rfl, hS3, by rw [← hsz]; exact hc3, fun b o e => ?_⟩
  have lb : b < s.heap.objs.size := Heap.lt_size e
  refine hm.heap b o ?_ (Heap.get?_push_of_some _ (Heap.get?_push_of_some _ e))
  rw [zz]
  simp only [List.mem_cons, List.not_mem_nil, or_false, not_or]
  exact ⟨Nat.ne_of_lt lb, Nat.ne_of_lt (Nat.lt_succ_of_lt lb)⟩
end
def rSetOf (K : PySem.W.Frag) (w : World) : List V → Hp → VK → Prop := fun xs H Q => ∃ (p : Addr) (ns : List Int), xs = [.ref p] ∧ (SqL K H p (ns.map V.int) ∨ SqT K H p (ns.map V.int)) ∧ ns.length ≤ 1000 ∧
  ∀ a c, H a = none → c ≤ ns.length → Q (.ref a) (upd H a (SetO w a (fun j => decide (j ∈ ns)) c))
theorem cr_setOf {X : Cx} (hc : X.calm = true) : CallR X (.type "set") (rSetOf X.K X.w) := by
  intro pins s σ H xs us Q I r h
  obtain ⟨p, ns, rfl, hq, hz, q⟩ := h
  rw [Vals.ref1 r]
  have hb : ns.length + 1 < scanBound := by unfold scanBound; omega
  have fin : ∀ s2, Made X.w s ns s2 → EP X pins σ Q (.ref s.heap.objs.size) s2 := fun s2 ⟨h', tk, c, e, R, hcn, k⟩ => by
    subst e
    exact ⟨.ref _, upd H s.heap.objs.size (SetO X.w s.heap.objs.size (fun j => decide (j ∈ ns)) c), I.laid (t' := tk) k (Nat.le_refl _) (setO_new R), rfl, q _ c (I.hok.fresh (Nat.le_refl _)) hcn⟩
  rcases hq with hq | hq
  · obtain ⟨its, rv, hl, _⟩ := I.list hq
    exact set_list (I.ok.hd hc) hl.isList rv.ints hb fin
  · obtain ⟨its, hi, hl, _⟩ := vals_tup I hq
    exact call_set_tupI ns (I.ok.hd hc) hl hi hb fun h' tk c R hcn k => fin _ ⟨h', tk, c, rfl, R, hcn, k⟩
end Kd

set_option Elab.async false
set_option linter.all false
set_option maxRecDepth 100000
set_option maxHeartbeats 4000000
/-! t[::-1] of a tuple; defs with a star parameter, called plainly -/
namespace Kd
open PySem PySem.Spec PyProof.Rows L2 Lk StX
section
variable {prog : Program} {w : World} {A : Around} {E : Value → Shared → Prop} {s : Shared}
theorem fm_range {α : Type} : ∀ (l : List α) (f : Nat → Option α), (∀ k, k < l.length → f k = l[k]?) → (List.range l.length).filterMap f = l
  | [], _, _ => rfl
  | a :: r, f, h => by
    have h0 : f 0 = some a := h 0 (by simp)
    rw [List.length_cons, List.range_succ_eq_map, List.filterMap_cons, h0]
    show a :: List.filterMap f (List.map Nat.succ (List.range r.length)) = a :: r
    rw [List.filterMap_map]
    exact congrArg _ (fm_range r (f ∘ Nat.succ) fun k hk => h (k + 1) (by simp; exact hk))
theorem rev_pick (xs : Array Value) : ((List.range xs.size).filterMap fun (k : Nat) => xs[(((xs.size : Int) - 1) + (k : Int) * (-1)).toNat]?).toArray = xs.toList.reverse.toArray := by
  have e := fm_range xs.toList.reverse (fun (k : Nat) => xs[(((xs.size : Int) - 1) + (k : Int) * (-1)).toNat]?) fun k hk => by
    have hk' : k < xs.size := by simpa using hk
    have z : (((xs.size : Int) - 1) + (k : Int) * (-1)).toNat = xs.size - 1 - k := by omega
    show xs[(((xs.size : Int) - 1) + (k : Int) * (-1)).toNat]? = _
    rw [z, List.getElem?_reverse (by rw [Array.length_toList]; exact hk'), Array.length_toList, Array.getElem?_toList]
  rw [List.length_reverse, Array.length_toList] at e
  rw [e]
theorem applied_rev {sl : Addr} {vl vu vs : Value} {n : Nat} {Q : Int × Int × Nat → Shared → Prop} (hs : s.heap.IsSliceOf sl vl vu vs) (pl : IsPart vl none) (pu : IsPart vu none) (ps : IsPart vs (some (-1)))
    (h : Q ((n : Int) - 1, -1, n) s) : wpAny (model prog w) A (Builtin.Slice.sliceApplied (.ref sl) (pure (n : Int))) Q E s := by
  obtain ⟨os, hos, hcs, hds⟩ := id hs
  unfold Builtin.Slice.sliceApplied
  unfold Builtin.Slice.sliceFields
  refine wpAny_bind (wpAny_bind (wpAny_field hos hds (x := vl) rfl (wpAny_bind (wpAny_field hos hds (x := vu) rfl (wpAny_bind (wpAny_field hos hds (x := vs) rfl (wpAny_pure ?_)))))))
  refine wpAny_bind (HT.slicePart_ ps ?_)
  show wpAny _ _ (if ((-1 : Int) == 0) = true then _ else _) _ _ s
  rw [if_neg (by decide)]
  refine wpAny_bind (HT.slicePart_ pl (wpAny_bind (HT.slicePart_ pu (wpAny_bind (wpAny_pure ?_)))))
  have e1 : Builtin.Slice.sliceAdjust none none (-1) (n : Int) = ((n : Int) - 1, -1) := by
    unfold Builtin.Slice.sliceAdjust
    rfl
  have e2 : Builtin.Slice.slicePlaces ((n : Int) - 1) (-1) (-1) = n := by
    unfold Builtin.Slice.slicePlaces
    rw [if_neg (by decide)]
    have z : ((n : Int) - 1 - -1 - 1) / - -1 = (n : Int) - 1 := by rw [show (- -1 : Int) = 1 from rfl, Int.ediv_one]; omega
    rw [z]
    split <;> omega
  show wpAny _ _ (match Builtin.Slice.sliceAdjust none none (-1) (n : Int) with | (lo, hi) => pure (lo, (-1 : Int), Builtin.Slice.slicePlaces lo hi (-1))) _ _ s
  rw [e1]
  show wpAny _ _ (pure ((n : Int) - 1, (-1 : Int), Builtin.Slice.slicePlaces ((n : Int) - 1) (-1) (-1))) _ _ s
  rw [e2]
  exact wpAny_pure h
theorem item_rev {t sl : Addr} {items : Array Value} {vl vu vs : Value} {Q : Value → Shared → Prop} (ht : IsTup s.heap t items) (hs : s.heap.IsSliceOf sl vl vu vs) (pl : IsPart vl none) (pu : IsPart vu none) (ps : IsPart vs (some (-1)))
    (h : Q (.ref s.heap.objs.size) { s with heap := s.heap.push { cls := .type "tuple", data := .seq items.toList.reverse.toArray } }) (hz : items.size ≤ sizeLine) : wpAny (model prog w) A (getItem (.ref t) (.ref sl)) Q E s := by
  have hok : sizeOk (.seq items.toList.reverse.toArray) := by
    show items.toList.reverse.toArray.size ≤ sizeLine
    rw [List.size_toArray, List.length_reverse, Array.length_toList]; exact hz
  have hTs : s.TypeIs (.ref sl) "slice" := hs.elim fun o q => ⟨o, q.1, q.2.1⟩
  unfold getItem
  try with_reducible refine wpAny_holding ?_
  first | refine wpAny_bind (wpAny_pure ?_) | skip
  refine wpAny_bind (wpAny_sequenceKey ht.typeIs (by decide) (wpAny_bind (wpAny_callSpecial?_slot (name := Str.ofString "__getitem__") ht.typeIs PyProof.Rows.slot_tuple_getitem
    (wpAny_call_entry PyProof.Rows.slot_tuple_getitem ht.typeIs entry_tuple_getitem ?_ (args_tuple_getitem _ _)))))
  show wpAny _ _ (Builtin.Tuple.tupleItemsOf (.ref t) >>= _) _ _ s
  refine wpAny_bind (tupleItemsOf_ ht (wpAny_bind (wpAny_typeOf hTs ?_)))
  rw [if_pos (by decide)]
  refine wpAny_bind (applied_rev hs pl pu ps ?_)
  have hno : ¬ (((items.size : Int) - 1 == 0 && (-1 : Int) == 1 && items.size == items.size) = true) := by simp
  show wpAny _ _ (if ((items.size : Int) - 1 == 0 && (-1 : Int) == 1 && items.size == items.size) = true then _ else _) _ _ s
  rw [if_neg hno, rev_pick]
  first
    | exact wpAny_bind (m := Builtin.Tuple.tupleExact _) (wpAny_newObj_type (wpAny_pure ⟨_, rfl, wpAny_pure h⟩) hok)
    | exact wpAny_bind (m := Builtin.Tuple.tupleExact _) (wpAny_newObj_type (wpAny_bind (wpAny_pure (wpAny_pure ⟨_, rfl, wpAny_pure h⟩))) hok)
    | exact wpAny_bind (wpAny_bind (m := Builtin.Tuple.tupleExact _) (wpAny_newObj_type (wpAny_pure (wpAny_pure ⟨_, rfl, wpAny_pure h⟩)) hok))
    | exact wpAny_bind (wpAny_bind (m := Builtin.Tuple.tupleExact _) (wpAny_newObj_type (wpAny_pure ⟨_, rfl, wpAny_pure h⟩) hok))
end
/-- x[::-1] of a list or a tuple -/
def tRev (K : PySem.W.Frag) (te : TE) : TE := fun σ H Q => te σ H fun x H1 => ∃ a xs, x = .ref a ∧ SqT K H1 a xs ∧ ∀ p, H1 p = none → Q (.ref p) (upd H1 p (.tup xs.reverse))
theorem pe_revT {X : Cx} {te : TE} {e : Expr} {k : Nat} {p1 p2 p3 pos : Pos} (he : PE X e te) : PE X (.Subscript e (.Slice none none (some (.UnaryOp .USub (.Constant (.int 1) k p1) p2)) p3) pos) (tRev X.K te) := by
  refine ⟨fun pins s σ H Q I h => Subscript_ (thn (he.run pins s σ H _ I h) fun v s1 ⟨x, H1, I1, r1, a, xs, ex, hx, q⟩ => ?_)⟩
  subst ex
  cases r1
  have hst : PO X (some (.UnaryOp .USub (.Constant (.int 1) k p1) p2)) _ := po_some (pe_un un_neg pe_int)
  refine wpAny_Slice (thn (po_none.run pins s1 σ H1 (fun o H2 => o = none ∧ H2 = H1) I1 ⟨rfl, rfl⟩) fun vl s2 ⟨lo, H2, I2, pl, e1, e2⟩ => ?_)
  subst e1 e2
  refine thn (po_none.run pins s2 σ H2 (fun o H3 => o = none ∧ H3 = H2) I2 ⟨rfl, rfl⟩) fun vu s3 ⟨up, H3, I3, pu, e1, e3⟩ => ?_
  subst e1 e3
  refine thn (hst.run pins s3 σ H3 (fun o H4 => o = some (-1) ∧ H4 = H3) I3 ⟨1, rfl, -1, rfl, rfl, rfl⟩) fun vs s4 ⟨st, H4, I4, ps, e1, e4⟩ => ?_
  subst e1 e4
  have I5 : Inv X pins σ H4 { s4 with heap := s4.heap.push { cls := .type "slice", data := .fields #[vl, vu, vs] } } := I4.kept (t' := s4.toks) fun b ob q => Heap.get?_push_of_some _ q
  obtain ⟨its, r, ht, hz⟩ := I5.tuple hx
  show wpAny (model X.prog X.w) X.A (subscriptTail e (.Slice none none (some (.UnaryOp .USub (.Constant (.int 1) k p1) p2)) p3) (.ref a) (.ref s4.heap.objs.size)) _ _ _
  refine tail_any (ops := [.ref a, .ref s4.heap.objs.size]) ht.typeIs PyProof.Rows.slot_tuple_getitem.lookup ?_ (by with_unfolding_all rfl)
  refine item_rev ht (Heap.IsSliceOf.new _ vl vu vs) pl pu ps ?_ (by rw [List.size_toArray, ← r.length]; exact hz)
  refine ⟨.ref _, _, I5.laid (t' := s4.toks) (o := .tup xs.reverse) (fun b ob q => Heap.get?_push_of_some _ q) (Nat.le_refl _) ?_, rfl, q _ (I5.hok.fresh (Nat.le_refl _))⟩
  exact ⟨by rw [List.length_reverse]; exact hz, its.reverse, r.reverse, IsTup.new _ _⟩
/-! ### defs with a star parameter -/
theorem pe_callR {X : Cx} {CX : CXT} {k : Nat} {f : Addr} {sp : Sp} {E : XK} {x : Str} {e : Expr} {es : List Expr} {t : TA} {p pos : Pos} (F : FnR X.prog X.w X.K X.mg X.base CX k f sp) (hr : Room k X.A) (hg : Gl X x) (hm : X.mg x = some (.ref f)) (hk : PySem.W.keepIn X.K (.ref f) = true) (hx : Passes CX X E) (ha : PA X (e :: es) t)
    (hd : (x == ("__debug__" : Str)) = false := by decide) (he : starEach (e :: es) X.env = (false, eval e X.env) :: starEach es X.env := by rfl) (hpl : (backTo pos (starEach es X.env)).any (·.1) = false := by rfl) :
    PE X (.Call (.Name x p) (e :: es) [] pos) (fun σ H Q => t σ H fun vs H1 => sp vs H1 Q E) := by
  refine ⟨fun pins s σ H Q I h => wpAny_Call_Name_kw (ld_glob I hg hm ?_ hd)⟩
  exact PySem.W.callWith_K (h₀ := X.base) I.ok.mod.kin hk (thn (ha.run pos pins s σ H _ I h) fun us s1 ⟨vs, H1, I1, r, q⟩ => ⟨I1.kIn, wpAny_call (run_fnR F hr hx I1 r q)⟩) he hpl
section
variable {P : Program} {w : World} {K : PySem.W.Frag} {mg : Str → Option Value} {base : Heap} {x : Str} {st : Stmt} {f : Addr} {fd : FuncData} {N ps : List Str} {pv : Str} {k : Nat} {sp : Sp}
/-- the promise of def f(a, .., *v): what is left over comes as a new tuple -/
def spStar (n : Nat) (sp : Sp) : Sp := fun vs H Q E => ∃ ws rest, vs = ws ++ rest ∧ ws.length = n ∧ rest.length ≤ sizeLine ∧ ∀ p, H p = none → sp (ws ++ [V.ref p]) (upd H p (.tup rest)) Q E
theorem okS (F : Hk.Fn K x st [] f fd) (S : FnScope N (ps ++ [pv]) (defScope st))
    (hb : ∀ (kV doc pm : Value) (an : Option Addr) (cdv ct : Value) (us rest : List Value), us.length = ps.length → bindArgs (PySem.W.fnOf x x (defArgs st) (defBody st) (defScope st) .none kV doc pm an cdv ct) ⟨us ++ rest, []⟩ = (newTuple rest >>= fun t => pure (ps.zip us ++ [(pv, t)])))
    (hbody : ∀ (cdv : Value) (A : Around) (outer : List Env) (s : Shared) (H : Hp) (vs : List V) (Q : VK) (E : XK), Room k (A.deeper (envOfC x (defScope st) s.heap.objs.size f cdv)) → sp vs H Q E →
      ∃ t, PSs (cxOf CX0 P w K mg base N x (defScope st) f cdv A outer s H E).nox (defBody st) t ∧ t { nx := fun _ H' => Q .non H', rt := Q } (start N vs) H) : FnR P w K mg base CX0 (k + 1) f (spStar ps.length sp) := by
  obtain ⟨oc, od, dV, kV, doc, pm, an, cdv, ct, osl, rfl, lk, hcd, hD, _⟩ := F.ex
  have e : dV = .none := by
    rcases hD with ⟨_, e⟩ | ⟨n, _⟩
    · exact e
    · exact absurd rfl n
  subst e
  refine fn_star lk hcd S cxUp_none (fun us rest hl => hb kV doc pm an cdv ct us rest hl) fun A outer s H vs Q E hr hsp => ?_
  obtain ⟨t, h, q⟩ := hbody cdv A outer s H vs Q E hr hsp
  exact ⟨t, h.nox, q⟩
end
/-! ### xs.extend(t), t a tuple -/
def rExtTu (K : PySem.W.Frag) : V → List V → Hp → VK → Prop := fun x vs H Q => ∃ l b xs zs, x = .ref l ∧ vs = [.ref b] ∧ H l = some (.lst xs) ∧ SqT K H b zs ∧ xs.length + zs.length ≤ sizeLine ∧ Q .non (upd H l (.lst (xs ++ zs)))
theorem mt_extTu {X : Cx} : MtM X "list.extend" (rExtTu X.K) := by
  intro pins s σ H x vs v us Q I rx rv h
  obtain ⟨l, b, xs, zs, rfl, rfl, hH, hB, hz, q⟩ := h
  cases rx
  obtain ⟨u, rfl, ru⟩ := rv.one
  cases ru
  obtain ⟨z, its, n, r, hl, e⟩ := I.lstM hH
  obtain ⟨its2, r2, ⟨o2, ho2, hc2, n2, hd2⟩, hz2⟩ := I.tuple hB
  have hsz : its.toArray.size + its2.toArray.size ≤ sizeLine := by rw [List.size_toArray, List.size_toArray, ← r.length, ← r2.length]; exact hz
  refine wpAny_call_entry PySem.F.slot_list_extend ⟨_, e, rfl⟩ PySem.F.entry_list_extend ?_ (PySem.F.args_list_extend_2 _ _)
  show wpAny _ _ (Builtin.List.listExtendWith (.ref l) (.ref b) .none) _ _ s
  unfold Builtin.List.listExtendWith
  refine wpAny_bind (wpAny_typeOf (T := "tuple") ⟨o2, ho2, hc2⟩ ?_)
  rw [if_pos (by rw [show (Value.type "tuple" == Value.type "tuple") = true from rfl, Bool.or_true])]
  refine wpAny_bind (listItems_at ho2 hd2 (wpAny_bind (listItems_at e rfl ?_)))
  rw [if_neg (by rw [notLongL hsz, Bool.and_false]; exact Bool.false_ne_true)]
  have hz1 : its.toArray.size ≤ sizeLine := by omega
  refine wpAny_bind (listUpdate_at e rfl ?_ hz1 (by rw [Array.size_append]; omega))
  refine wpAny_pure ⟨_, rfl, ?_⟩
  refine ⟨.non, _, I.lset (its' := its ++ its2) (t' := s.toks) hH e (by simp) (r.append r2) ?_, rfl, q⟩
  rw [List.length_append]
  exact hz
theorem bareB_ok {K : PySem.W.Frag} {C : Addr} (h : Hk.bareB K C = true) : BareC K C := by
  obtain ⟨h1, h2⟩ := He.ba h
  obtain ⟨h3, h4⟩ := He.ba h2
  exact ⟨h1, He.eqO_ok h3, h4⟩
/-! ### sorted(set of ints), up to 1000 of them -/
section
variable {P : Program} {w : World} {A : Around} {E : Value → Shared → Prop} {s : Shared} {a : Addr}
theorem sorted_many {S : Int → Bool} {n : Nat} {Q : Value → Shared → Prop} (R : SetR w s.heap a S n) (hh : A.handled = none) (h1000 : n ≤ 1000)
    (hQ : ∀ (s2 : Shared) (p : Addr) (out : List Value) (c : Nat) (ns : List Int), (∀ b u, s.heap.get? b = some u → s2.heap.get? b = some u) → s2.gens = s.gens → s2.os = s.os → s.heap.objs.size ≤ p →
      s2.heap.get? p = some (seqObj "list" out.toArray c) → IntsAre out ns → ns.Pairwise (· < ·) → (∀ k, k ∈ ns ↔ S k = true) → ns.length = n → Q (.ref p) s2) : wpAny (model P w) A (call (.builtin "sorted") [.ref a]) Q E s := by
  obtain ⟨o, es, ep, t, ho, hex, hd, g, nd, hm, hb, hf, hn, hr, hl⟩ := R
  refine Calls.call_function_entry kind_sorted plain_sorted entry_sorted (args_sorted1 _) ?_
  unfold Builtin.«sorted»
  refine wpAny_bind (m := checkCount "sorted" 1 1 _) (wpAny_pure (wpAny_bind (collect_set (A := A.in1) hh ⟨o, ho, hex.1, hd⟩ hf hb hr hl fun s1 vs k1 hz g1 o1 pm => ?_)))
  have hvl : vs.length = n := (pm.length_eq.trans (by rw [List.length_map, Array.length_toList])).trans hn
  have hI : IntsAre vs (vs.map Builtin.Re.reRawOf) := ints_of vs fun v hv => (List.mem_map.mp (pm.mem_iff.mp hv)).elim fun e he => (g e he.1).elim fun k hk => hk.elim fun tk hk => ⟨k, tk, by rw [← he.2]; exact hk.1⟩
  have pk : (vs.map Builtin.Re.reRawOf).Perm (es.toList.map keyOf) := by
    have q := pm.map Builtin.Re.reRawOf
    rwa [List.map_map] at q
  have hsz : vs.length ≤ sizeLine := by rw [hvl, sizeLine_eq]; omega
  refine wpAny_bind (wpAny_newList ?_ hsz)
  have hoL : (s1.heap.push (seqObj "list" vs.toArray 0)).get? s1.heap.objs.size = some (seqObj "list" vs.toArray 0) := Heap.get?_push_size _ rfl
  refine wpAny_bind (wpAny_holding (wpAny_call_entry slot_list_sort ⟨_, hoL, rfl⟩ entry_list_sort
    (SrtO.list_sort_ord SrtO.swo_int hoL hsz (fun h2 => SrtO.ints_sortable hI h2) fun out h1 h2 => ⟨_, rfl, ?_⟩) (args_list_sort _)))
  obtain ⟨a1, a2, a3⟩ := SrtO.ints_out hI h1 h2
  obtain ⟨c, hc⟩ := sortedHeap_at (vs := vs) (out := out.toArray) hoL
  have pn := a2.trans pk
  refine wpAny_pure ⟨_, rfl, hQ _ s1.heap.objs.size out c (out.map SrtO.iv) (fun b u e => ?_) g1 o1 hz hc a1 (lt_of_le_nodup _ a3 (pn.nodup_iff.mpr nd)) (fun k => by rw [pn.mem_iff, ← hm k]) ?_⟩
  · have lt := Heap.lt_size (k1 b u e)
    show (sortedHeap (s1.heap.push (seqObj "list" vs.toArray 0)) s1.heap.objs.size vs out.toArray).get? b = some u
    rw [sortedHeap_old (Nat.ne_of_lt lt) (by rw [size_push']; exact Nat.lt_succ_of_lt lt)]
    exact Heap.get?_push_of_some _ (k1 b u e)
  · exact (pn.length_eq.trans (by rw [List.length_map, Array.length_toList])).trans hn
end
def rSortedS (w : World) : List V → Hp → VK → Prop := fun vs H Q => ∃ (a : Addr) (S : Int → Bool) (n : Nat), vs = [V.ref a] ∧ H a = some (SetO w a S n) ∧ n ≤ 1000 ∧
  ∀ (ns : List Int) (p : Addr), ns.Pairwise (· < ·) → (∀ k : Int, k ∈ ns ↔ S k = true) → H p = none → Q (.ref p) (upd H p (.lst (ns.map V.int)))
theorem cr_sortedS {X : Cx} (hc : X.calm = true) : CallR X (.builtin "sorted") (rSortedS X.w) := by
  intro pins s σ H vs us Q I r h
  obtain ⟨a, S, n, rfl, ha, hz, q⟩ := h
  rw [Vals.ref1 r]
  refine sorted_many (setO_get I ha) (I.ok.hd hc) hz fun s2 p out c ns k g o hp hg hi hs hm hl => ?_
  have hlen : (ns.map V.int).length ≤ sizeLine := by rw [List.length_map, hl, sizeLine_eq]; omega
  have hn : H p = none := I.hok.fresh hp
  obtain ⟨h2, g2, d2, t2, o2⟩ := s2
  obtain rfl : g2 = s.gens := g
  obtain rfl : o2 = s.os := o
  exact ⟨.ref p, upd H p (.lst (ns.map V.int)), I.call (ch := []) (Un.laid k hp hn) (I.hok.laid k hp ⟨hlen, out, c, vals_of_ints hi, hg⟩) I.bare (fun _ z => nomatch z), rfl, q ns p hs hm hn⟩
theorem pe_or {X : Cx} {e : Expr} {a b : TE} (h1 : PE X e a) (h2 : PE X e b) : PE X e (fun σ H Q => a σ H Q ∨ b σ H Q) := ⟨fun pins s σ H Q I q => q.elim (h1.run pins s σ H Q I) (h2.run pins s σ H Q I)⟩
theorem pe_revA {X : Cx} {te : TE} {e : Expr} {k : Nat} {p1 p2 p3 pos : Pos} (he : PE X e te) : PE X (.Subscript e (.Slice none none (some (.UnaryOp .USub (.Constant (.int 1) k p1) p2)) p3) pos) (fun σ H Q => tRevL X.K te σ H Q ∨ tRev X.K te σ H Q) := pe_or (pe_revL he) (pe_revT he)
end Kd

set_option Elab.async false
set_option linter.all false
/-! eight ways to make a word plain, as plain functions -/
namespace Km
inductive Kd8 where
  | list | bag | set | first | last | ends | heads | tails
/-! ### keeping the first of each letter -/
def fo (acc : List Int) : List Int → List Int
  | [] => acc
  | x :: r => fo (if x ∈ acc then acc else acc ++ [x]) r
theorem fo_app : ∀ (a : List Int) (acc b : List Int), fo acc (a ++ b) = fo (fo acc a) b
  | [], _, _ => rfl
  | x :: r, acc, b => fo_app r _ b
theorem fo_one (acc : List Int) (x : Int) : fo acc [x] = if x ∈ acc then acc else acc ++ [x] := rfl
theorem mem_fo : ∀ (l acc : List Int) (y : Int), y ∈ fo acc l ↔ y ∈ acc ∨ y ∈ l
  | [], acc, y => by show y ∈ acc ↔ _; simp
  | x :: r, acc, y => by
    show y ∈ fo (if x ∈ acc then acc else acc ++ [x]) r ↔ _
    rw [mem_fo r]
    split
    · rename_i h
      simp only [List.mem_cons]
      constructor
      · rintro (h1 | h1)
        · exact .inl h1
        · exact .inr (.inr h1)
      · rintro (h1 | rfl | h1)
        · exact .inl h1
        · exact .inl h
        · exact .inr h1
    · simp only [List.mem_append, List.mem_cons, List.not_mem_nil, or_false]
      constructor
      · rintro ((h1 | rfl) | h1)
        · exact .inl h1
        · exact .inr (.inl rfl)
        · exact .inr (.inr h1)
      · rintro (h1 | rfl | h1)
        · exact .inl (.inl h1)
        · exact .inl (.inr rfl)
        · exact .inr h1
theorem fo_fo : ∀ (b c d : List Int), fo c (fo d b) = fo (fo c d) b
  | [], _, _ => rfl
  | x :: r, c, d => by
    show fo c (fo (if x ∈ d then d else d ++ [x]) r) = fo (if x ∈ fo c d then fo c d else fo c d ++ [x]) r
    rw [fo_fo r]
    congr 1
    by_cases h : x ∈ d
    · rw [if_pos h, if_pos ((mem_fo _ _ _).mpr (.inr h))]
    · rw [if_neg h, fo_app, fo_one]
theorem fo_idem (a : List Int) : fo [] (fo [] a) = fo [] a := fo_fo a [] []
theorem fo_left (a b : List Int) : fo [] (fo [] a ++ b) = fo [] (a ++ b) := by rw [fo_app, fo_idem, fo_app]
theorem fo_right (a b : List Int) : fo [] (a ++ fo [] b) = fo [] (a ++ b) := by rw [fo_app, fo_fo b (fo [] a) [], fo_app]; rfl
theorem fo_take {l : List Int} {i : Nat} {x : Int} (h : l[i]? = some x) : fo [] (l.take (i + 1)) = if x ∈ fo [] (l.take i) then fo [] (l.take i) else fo [] (l.take i) ++ [x] := by
  rw [List.take_succ, h]
  show fo [] (l.take i ++ [x]) = _
  rw [fo_app, fo_one]
theorem fo_len : ∀ (l acc : List Int), (fo acc l).length ≤ acc.length + l.length
  | [], acc => by show acc.length ≤ _; simp
  | x :: r, acc => by
    show (fo (if x ∈ acc then acc else acc ++ [x]) r).length ≤ _
    refine Nat.le_trans (fo_len r _) ?_
    split
    · simp only [List.length_cons]; omega
    · simp only [List.length_append, List.length_cons, List.length_nil]; omega
/-! ### keeping the last of each -/
def lasts : List Int → List Int
  | [] => []
  | x :: r => if x ∈ r then lasts r else x :: lasts r
theorem lasts_eq : ∀ l : List Int, lasts l = (fo [] l.reverse).reverse
  | [] => rfl
  | x :: r => by
    have ih := lasts_eq r
    rw [List.reverse_cons, fo_app, fo_one]
    show (if x ∈ r then lasts r else x :: lasts r) = _
    by_cases h : x ∈ r
    · rw [if_pos h, if_pos ((mem_fo _ _ _).mpr (.inr (List.mem_reverse.mpr h))), ih]
    · have h2 : ¬ x ∈ fo [] r.reverse := fun z => by
        rcases (mem_fo _ _ _).mp z with z | z
        · cases z
        · exact h (List.mem_reverse.mp z)
      rw [if_neg h, if_neg h2, List.reverse_append, ih]
      rfl
theorem lasts_drop {l : List Int} {i : Nat} {x : Int} (h : l[i]? = some x) : lasts (l.drop i) = if x ∈ l.drop (i + 1) then lasts (l.drop (i + 1)) else x :: lasts (l.drop (i + 1)) := by
  have hi : i < l.length := by
    rcases Nat.lt_or_ge i l.length with z | z
    · exact z
    · rw [List.getElem?_eq_none z] at h; cases h
  have e : l.drop i = x :: l.drop (i + 1) := by
    rw [List.drop_eq_getElem_cons hi]
    rw [List.getElem?_eq_getElem hi] at h
    rw [Option.some.inj h]
  rw [e] <;> rfl
/-! ### sorted -/
def ins (x : Int) : List Int → List Int
  | [] => [x]
  | y :: r => if x ≤ y then x :: y :: r else y :: ins x r
def srt : List Int → List Int
  | [] => []
  | x :: r => ins x (srt r)
theorem ins_perm (x : Int) : ∀ l : List Int, (ins x l).Perm (x :: l)
  | [] => .refl _
  | y :: r => by
    show (if x ≤ y then x :: y :: r else y :: ins x r).Perm _
    split
    · exact .refl _
    · exact ((ins_perm x r).cons y).trans (.swap x y r)
theorem ins_sorted (x : Int) : ∀ l : List Int, l.Pairwise (· ≤ ·) → (ins x l).Pairwise (· ≤ ·)
  | [], _ => List.pairwise_singleton _ _
  | y :: r, h => by
    show (if x ≤ y then x :: y :: r else y :: ins x r).Pairwise _
    rw [List.pairwise_cons] at h
    split
    · rename_i q
      refine List.pairwise_cons.mpr ⟨fun z hz => ?_, List.pairwise_cons.mpr h⟩
      rcases List.mem_cons.mp hz with rfl | hz
      · exact q
      · exact Int.le_trans q (h.1 z hz)
    · rename_i q
      refine List.pairwise_cons.mpr ⟨fun z hz => ?_, ins_sorted x r h.2⟩
      rcases List.mem_cons.mp ((ins_perm x r).mem_iff.mp hz) with rfl | hz
      · omega
      · exact h.1 z hz
theorem srt_perm : ∀ l : List Int, (srt l).Perm l
  | [] => .refl _
  | x :: r => (ins_perm x (srt r)).trans ((srt_perm r).cons x)
theorem srt_sorted : ∀ l : List Int, (srt l).Pairwise (· ≤ ·)
  | [] => .nil
  | x :: r => ins_sorted x _ (srt_sorted r)
theorem sorted_uniq : ∀ {a b : List Int}, a.Perm b → a.Pairwise (· ≤ ·) → b.Pairwise (· ≤ ·) → a = b
  | [], b, p, _, _ => (List.Perm.nil_eq p)
  | x :: r, [], p, _, _ => by have := p.length_eq; simp at this
  | x :: r, y :: t, p, h1, h2 => by
    rw [List.pairwise_cons] at h1 h2
    have e : x = y := by
      have m1 : x ∈ y :: t := p.mem_iff.mp List.mem_cons_self
      have m2 : y ∈ x :: r := p.mem_iff.mpr List.mem_cons_self
      rcases List.mem_cons.mp m1 with e | m1
      · exact e
      · rcases List.mem_cons.mp m2 with e | m2
        · exact e.symm
        · have := h1.1 y m2
          have := h2.1 x m1
          omega
    subst e
    rw [sorted_uniq (List.Perm.cons_inv p) h1.2 h2.2]
theorem srt_of {a l : List Int} (p : a.Perm l) (h : a.Pairwise (· ≤ ·)) : a = srt l := sorted_uniq (p.trans (srt_perm l).symm) h (srt_sorted l)
/-! ### sorted, each once -/
def ins1 (x : Int) : List Int → List Int
  | [] => [x]
  | y :: r => if x < y then x :: y :: r else if x = y then y :: r else y :: ins1 x r
def sst : List Int → List Int
  | [] => []
  | x :: r => ins1 x (sst r)
theorem mem_ins1 (x k : Int) : ∀ l : List Int, k ∈ ins1 x l ↔ k = x ∨ k ∈ l
  | [] => by show k ∈ [x] ↔ _; simp
  | y :: r => by
    show k ∈ (if x < y then x :: y :: r else if x = y then y :: r else y :: ins1 x r) ↔ _
    split
    · simp
    · split
      · rename_i e
        subst e
        simp
      · rw [List.mem_cons, mem_ins1 x k r, List.mem_cons]
        constructor
        · rintro (h | h | h)
          · exact .inr (.inl h)
          · exact .inl h
          · exact .inr (.inr h)
        · rintro (h | h | h)
          · exact .inr (.inl h)
          · exact .inl h
          · exact .inr (.inr h)
theorem ins1_asc (x : Int) : ∀ l : List Int, l.Pairwise (· < ·) → (ins1 x l).Pairwise (· < ·)
  | [], _ => List.pairwise_singleton _ _
  | y :: r, h => by
    show (if x < y then x :: y :: r else if x = y then y :: r else y :: ins1 x r).Pairwise _
    have h0 := h
    rw [List.pairwise_cons] at h
    split
    · rename_i q
      refine List.pairwise_cons.mpr ⟨fun z hz => ?_, h0⟩
      rcases List.mem_cons.mp hz with rfl | hz
      · exact q
      · exact Int.lt_trans q (h.1 z hz)
    · split
      · exact h0
      · rename_i q1 q2
        refine List.pairwise_cons.mpr ⟨fun z hz => ?_, ins1_asc x r h.2⟩
        rcases (mem_ins1 x z r).mp hz with rfl | hz
        · omega
        · exact h.1 z hz
theorem mem_sst (k : Int) : ∀ l : List Int, k ∈ sst l ↔ k ∈ l
  | [] => by show k ∈ [] ↔ _; simp
  | x :: r => by
    show k ∈ ins1 x (sst r) ↔ _
    rw [mem_ins1, mem_sst k r, List.mem_cons]
theorem sst_asc : ∀ l : List Int, (sst l).Pairwise (· < ·)
  | [] => .nil
  | x :: r => ins1_asc x _ (sst_asc r)
theorem asc_uniq : ∀ {a b : List Int}, (∀ k, k ∈ a ↔ k ∈ b) → a.Pairwise (· < ·) → b.Pairwise (· < ·) → a = b
  | [], [], _, _, _ => rfl
  | [], y :: t, m, _, _ => by have := (m y).mpr List.mem_cons_self; cases this
  | x :: r, [], m, _, _ => by have := (m x).mp List.mem_cons_self; cases this
  | x :: r, y :: t, m, h1, h2 => by
    rw [List.pairwise_cons] at h1 h2
    have e : x = y := by
      rcases List.mem_cons.mp ((m x).mp List.mem_cons_self) with e | m1
      · exact e
      · rcases List.mem_cons.mp ((m y).mpr List.mem_cons_self) with e | m2
        · exact e.symm
        · have := h1.1 y m2
          have := h2.1 x m1
          omega
    subst e
    refine congrArg _ (asc_uniq (fun k => ?_) h1.2 h2.2)
    constructor
    · intro hk
      rcases List.mem_cons.mp ((m k).mp (List.mem_cons_of_mem _ hk)) with e | z
      · have := h1.1 k hk; omega
      · exact z
    · intro hk
      rcases List.mem_cons.mp ((m k).mpr (List.mem_cons_of_mem _ hk)) with e | z
      · have := h2.1 k hk; omega
      · exact z
theorem sst_of {a l : List Int} (m : ∀ k, k ∈ a ↔ k ∈ l) (h : a.Pairwise (· < ·)) : a = sst l := asc_uniq (fun k => (m k).trans (mem_sst k l).symm) h (sst_asc l)
/-! ### the last letter, both ends -/
def lst1 (l : List Int) : List Int := l.drop (l.length - 1)
theorem lst1_app {a b : List Int} (h : b ≠ []) : lst1 (a ++ b) = lst1 b := by
  unfold lst1
  have hb : 0 < b.length := List.length_pos_iff.mpr h
  rw [List.length_append, List.drop_append]
  have e1 : a.drop (a.length + b.length - 1) = [] := List.drop_eq_nil_of_le (by omega)
  have e2 : a.length + b.length - 1 - a.length = b.length - 1 := by omega
  rw [e1, e2]
  rfl
theorem lst1_nil {l : List Int} : lst1 l = [] ↔ l = [] := by
  unfold lst1
  rw [List.drop_eq_nil_iff]
  constructor
  · intro h
    cases l with
    | nil => rfl
    | cons x r => simp at h; omega
  · rintro rfl
    simp
theorem lst1_len (l : List Int) : (lst1 l).length ≤ 1 := by
  unfold lst1
  rw [List.length_drop]
  omega
theorem lst1_one (x : Int) : lst1 [x] = [x] := rfl
theorem lst1_idem (l : List Int) : lst1 (lst1 l) = lst1 l := by
  have h := lst1_len l
  match lst1 l, h with
  | [], _ => rfl
  | [x], _ => rfl
/-- what a kind makes of a word -/
def pl : Kd8 → List Int → List Int
  | .list, l => l
  | .bag, l => srt l
  | .set, l => sst l
  | .first, l => l.take 1
  | .last, l => lst1 l
  | .ends, l => l.take 1 ++ lst1 l
  | .heads, l => fo [] l
  | .tails, l => (fo [] l.reverse).reverse
theorem ends_len (l : List Int) : (l.take 1 ++ lst1 l).length ≤ 2 := by
  have := lst1_len l
  simp only [List.length_append, List.length_take]
  omega
theorem ends_last (l : List Int) : lst1 (l.take 1 ++ lst1 l) = lst1 l := by
  by_cases h : l = []
  · subst h; rfl
  · rw [lst1_app (fun z => h (lst1_nil.mp z)), lst1_idem]
theorem ends_head (l : List Int) : (l.take 1 ++ lst1 l).take 1 = l.take 1 := by
  cases l with
  | nil => rfl
  | cons x r => rfl
theorem ends_nil {l : List Int} : l.take 1 ++ lst1 l = [] ↔ l = [] := by
  cases l with
  | nil => simp [lst1]
  | cons x r => simp
theorem ends_app {a b a' b' : List Int} (h1 : a.take 1 = a'.take 1) (h2 : lst1 a = lst1 a') (h3 : b.take 1 = b'.take 1) (h4 : lst1 b = lst1 b') : (a ++ b).take 1 ++ lst1 (a ++ b) = (a' ++ b').take 1 ++ lst1 (a' ++ b') := by
  have na : a = [] ↔ a' = [] := by rw [← lst1_nil, h2, lst1_nil]
  have nb : b = [] ↔ b' = [] := by rw [← lst1_nil, h4, lst1_nil]
  congr 1
  · cases a with
    | nil =>
      rw [na.mp rfl]
      exact h3
    | cons x r =>
      cases a' with
      | nil => cases na.mpr rfl
      | cons y t => simpa using h1
  · by_cases hb : b = []
    · rw [hb, nb.mp hb, List.append_nil, List.append_nil, h2]
    · rw [lst1_app hb, lst1_app (fun z => hb (nb.mpr z)), h4]
theorem pl_left (k : Kd8) (a b : List Int) : pl k (pl k a ++ b) = pl k (a ++ b) := by
  cases k with
  | list => rfl
  | bag => exact srt_of ((srt_perm _).trans (((srt_perm a).append_right b))) (srt_sorted _)
  | set => exact sst_of (fun k => by show k ∈ sst (sst a ++ b) ↔ _; rw [mem_sst, List.mem_append, mem_sst, List.mem_append]) (sst_asc _)
  | first => cases a <;> simp [pl]
  | last =>
    show lst1 (lst1 a ++ b) = lst1 (a ++ b)
    by_cases hb : b = []
    · subst hb; rw [List.append_nil, List.append_nil, lst1_idem]
    · rw [lst1_app hb, lst1_app hb]
  | ends => exact ends_app (ends_head a) (ends_last a) rfl rfl
  | heads => exact fo_left a b
  | tails =>
    show (fo [] ((fo [] a.reverse).reverse ++ b).reverse).reverse = (fo [] (a ++ b).reverse).reverse
    rw [List.reverse_append, List.reverse_reverse, fo_right, List.reverse_append]
theorem pl_right (k : Kd8) (a b : List Int) : pl k (a ++ pl k b) = pl k (a ++ b) := by
  cases k with
  | list => rfl
  | bag => exact srt_of ((srt_perm _).trans (((srt_perm b).append_left a))) (srt_sorted _)
  | set => exact sst_of (fun k => by show k ∈ sst (a ++ sst b) ↔ _; rw [mem_sst, List.mem_append, mem_sst, List.mem_append]) (sst_asc _)
  | first =>
    cases a with
    | nil =>
      show (b.take 1).take 1 = b.take 1
      rw [List.take_take] <;> rfl
    | cons x r => simp [pl]
  | last =>
    show lst1 (a ++ lst1 b) = lst1 (a ++ b)
    by_cases hb : b = []
    · subst hb; rfl
    · rw [lst1_app hb, lst1_app (fun z => hb (lst1_nil.mp z)), lst1_idem]
  | ends => exact ends_app rfl rfl (ends_head b) (ends_last b)
  | heads => exact fo_right a b
  | tails =>
    show (fo [] (a ++ (fo [] b.reverse).reverse).reverse).reverse = (fo [] (a ++ b).reverse).reverse
    rw [List.reverse_append, List.reverse_reverse, fo_left, List.reverse_append]
theorem pl_idem (k : Kd8) (a : List Int) : pl k (pl k a) = pl k a := by
  have h := pl_left k a []
  rw [List.append_nil, List.append_nil] at h
  exact h
theorem pl_nil (k : Kd8) : pl k [] = [] := by cases k <;> rfl
theorem pl_len (k : Kd8) (a : List Int) : (pl k a).length ≤ a.length + 1 := by
  cases k with
  | list => exact Nat.le_succ _
  | bag => rw [show (pl .bag a).length = a.length from (srt_perm a).length_eq]; omega
  | set =>
    have h : ∀ (x : Int) (l : List Int), (ins1 x l).length ≤ l.length + 1 := fun x l => by
      induction l with
      | nil => exact Nat.le_refl _
      | cons y r ih =>
        show (if x < y then x :: y :: r else if x = y then y :: r else y :: ins1 x r).length ≤ _
        split
        · exact Nat.le_refl _
        · split
          · exact Nat.le_succ _
          · simpa using ih
    have h2 : ∀ l : List Int, (sst l).length ≤ l.length := fun l => by
      induction l with
      | nil => exact Nat.le_refl _
      | cons x r ih =>
        have := h x (sst r)
        show (ins1 x (sst r)).length ≤ _
        simp only [List.length_cons]
        omega
    exact Nat.le_succ_of_le (h2 a)
  | first => show (a.take 1).length ≤ _; rw [List.length_take]; omega
  | last => exact Nat.le_trans (lst1_len a) (by omega)
  | ends =>
    show (a.take 1 ++ lst1 a).length ≤ _
    cases a with
    | nil => exact Nat.zero_le _
    | cons x r => have := ends_len (x :: r); simp only [List.length_cons] at *; omega
  | heads => have := fo_len a []; show (fo [] a).length ≤ _; simp only [List.length_nil] at this; omega
  | tails => have := fo_len a.reverse []; show ((fo [] a.reverse).reverse).length ≤ _; rw [List.length_reverse]; simp only [List.length_nil, List.length_reverse] at this; omega
theorem mem_pl {k : Kd8} {x : Int} {l : List Int} (h : x ∈ pl k l) : x ∈ l := by
  cases k with
  | list => exact h
  | bag => exact (srt_perm l).mem_iff.mp h
  | set => exact (mem_sst x l).mp h
  | first => exact List.mem_of_mem_take h
  | last => exact List.mem_of_mem_drop h
  | ends => exact (List.mem_append.mp h).elim List.mem_of_mem_take List.mem_of_mem_drop
  | heads => exact ((mem_fo l [] x).mp h).elim (fun z => by cases z) id
  | tails => exact ((mem_fo l.reverse [] x).mp (List.mem_reverse.mp h)).elim (fun z => by cases z) List.mem_reverse.mp
end Km

set_option Elab.async false
set_option linter.all false
set_option maxRecDepth 100000
set_option maxHeartbeats 4000000
/-! words, effects as data -/
namespace Kx
open PySem PySem.Spec PyProof.Rows L2 Lk Kd Km
def wD (ns : List Int) : PyData := .tuple (ns.map PyData.int)
def eD (f : Bool) (ns : List Int) : PyData := .tuple [.bool f, wD ns]
section
variable {K : PySem.W.Frag} {H H' : Hp} {v : V} {t S c : Addr} {ns ms : List Int} {f g : Bool}
theorem ints_inv : ∀ {ns : List Int} {vs : List V}, DpAll K H vs (ns.map PyData.int) → vs = ns.map V.int
  | [], _, h => by cases h; rfl
  | n :: r, _, h => by
    cases h with
    | cons h1 h2 =>
      cases h1
      rw [ints_inv h2] <;> rfl
theorem w_mk (h : SqT K H t (ns.map V.int)) : Dp K H (.ref t) (wD ns) := .tup h (dpa_ints ns)
theorem w_inv (h : Dp K H v (wD ns)) : ∃ t, v = .ref t ∧ SqT K H t (ns.map V.int) := by
  cases h with
  | tup h1 h2 =>
    have e := ints_inv h2
    subst e
    exact ⟨_, rfl, h1⟩
theorem w_at (h : Dp K H (.ref t) (wD ns)) : SqT K H t (ns.map V.int) := by
  obtain ⟨t', e, h⟩ := w_inv h
  cases e
  exact h
theorem e_mk {e : Addr} (h : SqT K H e [.bl f, v]) (hw : Dp K H v (wD ns)) : Dp K H (.ref e) (eD f ns) := .tup h (.cons (.bl f) (.cons hw .nil))
theorem e_inv (h : Dp K H v (eD f ns)) : ∃ e t, v = .ref e ∧ SqT K H e [.bl f, .ref t] ∧ SqT K H t (ns.map V.int) := by
  cases h with
  | tup h1 h2 =>
    cases h2 with
    | cons a r =>
      cases r with
      | cons b r =>
        cases r
        cases a
        obtain ⟨t, rfl, h⟩ := w_inv b
        exact ⟨_, t, rfl, h1, h⟩
theorem eqv_ints : ∀ ns ms : List Int, PyData.eqvAll (ns.map PyData.int) (ms.map PyData.int) = decide (ns = ms)
  | [], [] => rfl
  | [], _ :: _ => by show false = _; simp
  | _ :: _, [] => by show false = _; simp
  | n :: r, m :: q => by
    show ((n == m) && PyData.eqvAll (r.map PyData.int) (q.map PyData.int)) = _
    rw [eqv_ints r q]
    by_cases h : n = m
    · subst h; simp
    · simp [h]
theorem eqv_w (ns ms : List Int) : PyData.eqv (wD ns) (wD ms) = decide (ns = ms) := eqv_ints ns ms
theorem eqv_e (f g : Bool) (ns ms : List Int) : PyData.eqv (eD f ns) (eD g ms) = (decide (f = g) && decide (ns = ms)) := by
  show ((f == g) && (PyData.eqv (wD ns) (wD ms) && true)) = _
  rw [eqv_w, Bool.and_true]
  cases f <;> cases g <;> rfl
theorem lay_ints : ∀ ns : List Int, PyData.canLayAll0 (ns.map PyData.int) = true ∧ PyData.depthAll (ns.map PyData.int) = 0
  | [] => ⟨rfl, rfl⟩
  | n :: r => by
    obtain ⟨h1, h2⟩ := lay_ints r
    refine ⟨?_, ?_⟩
    · simp only [List.map, PyData.canLayAll0, PyData.canLay0, h1, Bool.and_self]
    · simp only [List.map, PyData.depthAll, PyData.depth, h2, Nat.max_self]
theorem shaped_w (ns : List Int) : SeqAt.shaped (wD ns) = true := by
  obtain ⟨h1, h2⟩ := lay_ints ns
  unfold SeqAt.shaped wD
  rw [PyData.canLay0, PyData.depth, h1, h2]
  rfl
theorem shaped_e (f : Bool) (ns : List Int) : SeqAt.shaped (eD f ns) = true := by
  obtain ⟨h1, h2⟩ := lay_ints ns
  unfold SeqAt.shaped eD wD
  simp only [PyData.canLay0, PyData.canLayAll0, PyData.depth, PyData.depthAll, h1, h2]
  rfl
theorem sqt_hid (hS : Stm S c H) {xs : List V} (h : SqT K H t xs) : SqT K (hid S H) t xs := by
  obtain ⟨_, _, _, h1, _⟩ := hS
  have ne : ∀ o, H t = some o → (∀ l, o ≠ .lst l) → t ≠ S := fun o e n z => by
    rw [z, h1] at e
    exact n _ (Option.some.inj e).symm
  rcases h with (h | ⟨o, h⟩) | h
  · exact .inl (.inl (by rw [hid_at (ne _ h fun l z => HO.noConfusion z)]; exact h))
  · exact .inl (.inr ⟨o, by rw [hid_at (ne _ h fun l z => HO.noConfusion z)]; exact h⟩)
  · exact .inr h
theorem sqt_ext (hS : Stm S c H) (e : Ext S H H') {xs : List V} (h : SqT K H t xs) : SqT K H' t xs := seqT_same hid_le (seqT_same (hid_ext e) (sqt_hid hS h))
theorem w_ext (hS : Stm S c H) (e : Ext S H H') (h : Dp K H v (wD ns)) : Dp K H' v (wD ns) := by
  obtain ⟨t, rfl, h'⟩ := w_inv h
  exact w_mk (sqt_ext hS e h')
theorem e_ext (hS : Stm S c H) (e : Ext S H H') (h : Dp K H v (eD f ns)) : Dp K H' v (eD f ns) := by
  obtain ⟨x, t, rfl, h1, h2⟩ := e_inv h
  exact e_mk (sqt_ext hS e h1) (w_mk (sqt_ext hS e h2))
theorem w_new (h : H t = none) : Dp K (upd H t (.tup (ns.map V.int))) (.ref t) (wD ns) := w_mk (.inl (.inl upd_same))
end
def isW (d : PyData) : Bool := isI "int" d && !isI "bool" d
theorem isW_int (i : Int) : isW (.int i) = true := by unfold isW; rw [isI_int_int, isI_bool_int] <;> rfl
theorem isW_not {d : PyData} (h : isW d = true) : ∃ i, d = .int i := by
  cases d with
  | int i => exact ⟨i, rfl⟩
  | none => unfold isW at h; rw [isI_int_none] at h; cases h
  | bool b => unfold isW at h; rw [isI_int_bool, isI_bool_bool] at h; cases h
  | str b => unfold isW at h; rw [isI_int_str] at h; cases h
  | list b => unfold isW at h; rw [isI_int_list] at h; cases h
  | tuple b => unfold isW at h; rw [isI_int_tuple] at h; cases h
  | dict b => 
    have e : isI "int" (.dict b) = false := by show (kitB "dict" "int").getD false = false; decide +kernel
    unfold isW at h; rw [e] at h; cases h

/-! ### lists or tuples -/
abbrev Sq (K : PySem.W.Frag) (H : Hp) (p : Addr) (xs : List V) : Prop := SqL K H p xs ∨ SqT K H p xs
theorem sq_same {K : PySem.W.Frag} {H H' : Hp} {p : Addr} {xs : List V} (e : Same H H') (h : Sq K H p xs) : Sq K H' p xs := h.imp (fun h => e.seq h) (fun h => seqT_same e h)
theorem for_any {K : PySem.W.Frag} {te : TE} {g : TG} {tb : TS} {D : Ends} {σ : L2.St} {H H0 : Hp} {p : Addr} {xs : List V} (ev : ∀ Q : VK, Q (.ref p) H → te σ H Q) (hq : Sq K H0 p xs) (Pv : Nat → L2.St → Hp → Prop) (h0 : Pv 0 σ H) (hl : ∀ i σ H, Pv i σ H → Same H0 H)
    (hs : ∀ i x σ H, xs[i]? = some x → Pv i σ H → g x σ H fun σ2 H2 => tb { D with nx := Pv (i + 1), ct := Pv (i + 1), bk := D.nx } σ2 H2) (hd : ∀ σ H, Pv xs.length σ H → D.nx σ H) :
    tFor (fun σ H R => iList K te σ H R ∨ iTup K te σ H R) g tb D σ H := by
  rcases hq with hq | hq
  · exact .inl (ev _ ⟨p, rfl, ⟨xs, (hl 0 σ H h0).seq hq⟩, for_list Pv h0 (fun i σ H _ q => (hl i σ H q).seq hq) hs hd⟩)
  · exact .inr (ev _ ⟨p, rfl, ⟨xs, seqT_same (hl 0 σ H h0) hq⟩, for_tup Pv h0 (fun i σ H _ q => seqT_same (hl i σ H q) hq) hs hd⟩)
/-! ### slices, turned rows, tuple(x) -/
section
variable {K : PySem.W.Frag} {te : TE} {σ : L2.St} {H : Hp} {p : Addr} {ns : List Int} {lo hi : Option Int} {Q : VK}
def cutI (ns : List Int) (lo hi : Option Int) : List Int := (ns.drop (HT.sIx ns.length 0 lo)).take (HT.sIx ns.length ns.length hi - HT.sIx ns.length 0 lo)
theorem cut_map : cutV (ns.map V.int) lo hi = (cutI ns lo hi).map V.int := by
  unfold cutV cutI
  rw [List.length_map, List.map_take, List.map_drop]
theorem cut_whole (h : HT.sIx ns.length 0 lo = 0 ∧ HT.sIx ns.length ns.length hi = ns.length) : cutI ns lo hi = ns := by
  unfold cutI
  rw [h.1, h.2, List.drop_zero, Nat.sub_zero, List.take_length]
theorem slA_fin (hq : SqT K H p (ns.map V.int)) (h : ∀ q H', Same H H' → SqT K H' q ((cutI ns lo hi).map V.int) → Q (.ref q) H') : rSlA K (.ref p) lo hi H Q := by
  refine ⟨p, _, rfl, hq, fun w => ?_, fun _ q nq => ?_⟩
  · rw [List.length_map] at w
    exact h _ _ (.refl _) (by rw [cut_whole w]; exact hq)
  · refine h _ _ (same_new nq) ?_
    rw [cut_map]
    exact .inl (.inl upd_same)
theorem sl_fin (hq : Sq K H p (ns.map V.int)) (h : ∀ q H', Same H H' → Sq K H' q ((cutI ns lo hi).map V.int) → Q (.ref q) H') : rSlL K (.ref p) lo hi H Q ∨ rSlA K (.ref p) lo hi H Q := by
  rcases hq with hq | hq
  · refine .inl ⟨p, _, rfl, hq, fun q nq => h _ _ (same_new nq) (.inl ?_)⟩
    rw [cut_map]
    exact SqL.of upd_same
  · exact .inr (slA_fin hq fun q H' e h' => h q H' e (.inr h'))
theorem six_one (n d : Nat) : HT.sIx n d (some 1) = min 1 n := by
  show (if (1 : Int) < 0 then ((1 : Int) + (n : Int)).toNat else min (1 : Int).toNat n) = _
  rw [if_neg (by decide)]
  rfl
theorem six_neg (n d : Nat) : HT.sIx n d (some (-1)) = n - 1 := by
  show (if (-1 : Int) < 0 then ((-1 : Int) + (n : Int)).toNat else min (-1 : Int).toNat n) = _
  rw [if_pos (by decide)]
  omega
theorem cut_first : cutI ns none (some 1) = ns.take 1 := by
  unfold cutI
  rw [six_one, HT.sIx_none, List.drop_zero, Nat.sub_zero, List.take_eq_take_iff]
  omega
theorem cut_last : cutI ns (some (-1)) none = Km.lst1 ns := by
  unfold cutI Km.lst1
  rw [six_neg, HT.sIx_none]
  exact List.take_of_length_le (by rw [List.length_drop]; omega)
theorem tupof (hq : Sq K H p (ns.map V.int)) (k : ∀ v H', Same H H' → Dp K H' v (wD ns) → Q v H') : ∃ q ys, [V.ref p] = [V.ref q] ∧ ((SqL K H q ys ∧ ∀ l, H l = none → Q (.ref l) (upd H l (.tup ys))) ∨ (SqT K H q ys ∧ Q (.ref q) H)) := by
  rcases hq with hq | hq
  · exact ⟨p, _, rfl, .inl ⟨hq, fun l nl => k _ _ (same_new nl) (w_new nl)⟩⟩
  · exact ⟨p, _, rfl, .inr ⟨hq, k _ _ (.refl _) (w_mk hq)⟩⟩
theorem rev_fin (ev : ∀ Q : VK, Q (.ref p) H → te σ H Q) (hq : Sq K H p (ns.map V.int)) (h : ∀ q H', Same H H' → Sq K H' q (ns.reverse.map V.int) → Q (.ref q) H') : tRevL K te σ H Q ∨ Kd.tRev K te σ H Q := by
  rcases hq with hq | hq
  · exact .inl (ev _ ⟨p, _, rfl, hq, fun q nq => h _ _ (same_new nq) (.inl (by rw [List.map_reverse]; exact SqL.of upd_same))⟩)
  · exact .inr (ev _ ⟨p, _, rfl, hq, fun q nq => h _ _ (same_new nq) (.inr (by rw [List.map_reverse]; exact .inl (.inl upd_same)))⟩)
end
/-! ### the kinds by their names -/
def nm : Kd8 → Str
  | .list => "list" | .bag => "bag" | .set => "set" | .first => "first" | .last => "last" | .ends => "ends" | .heads => "heads" | .tails => "tails"
def kNames : List V := [.str "list", .str "bag", .str "set", .str "first", .str "last", .str "ends", .str "heads", .str "tails"]
def kAt : Nat → Kd8
  | 0 => .list | 1 => .bag | 2 => .set | 3 => .first | 4 => .last | 5 => .ends | 6 => .heads | _ => .tails
/-- what == of a kind's name and a text says -/
def isK (k k' : Kd8) : Bool := match k, k' with
  | .list, .list | .bag, .bag | .set, .set | .first, .first | .last, .last | .ends, .ends | .heads, .heads | .tails, .tails => true
  | _, _ => false
theorem eq_nm (k k' : Kd8) : decide (V.str (nm k) = V.str (nm k')) = isK k k' := by cases k <;> cases k' <;> decide +kernel
/-! ### all([f(x) for x in a tuple of data]) -/
theorem dpa_get {K : PySem.W.Frag} {H : Hp} : ∀ {vs : List V} {ds : List PyData} {i : Nat} {v : V}, DpAll K H vs ds → vs[i]? = some v → ∃ d, ds[i]? = some d ∧ Dp K H v d
  | _, _, _, _, .nil, h => by cases h
  | x :: _, d :: _, 0, v, .cons h1 _, h => by
    have e : x = v := Option.some.inj h
    subst e
    exact ⟨d, rfl, h1⟩
  | _ :: vs, _ :: ds, i + 1, v, .cons _ h2, h => dpa_get (vs := vs) (ds := ds) (i := i) h2 h
theorem all_dat {K : PySem.W.Frag} {H : Hp} {p : Addr} {xs : List V} {ds : List PyData} {f : PyData → Bool} {t0 : TE} {g : TG} {te : TE} {vs : List Nat} {σ : L2.St} {Q : VK} (ev : ∀ Q : VK, Q (.ref p) H → t0 σ H Q) (hT : SqT K H p xs) (hd : DpAll K H xs ds) (hz : ds.length ≤ 900)
    (hs : ∀ x d H' (Q' : VK), Same H H' → d ∈ ds → Dp K H' x d → Q' (.bl (f d)) H' → g x (wipe σ vs) H' fun σ2 H2 => wipe σ2 vs = wipe σ vs ∧ te σ2 H2 Q')
    (hQ : ∀ D H', Same H H' → SqL K H' D ((ds.map f).map V.bl) → Q (.ref D) H') : tLc (iTup K t0) g tYes te vs σ H Q := by
  refine ev _ ⟨p, rfl, ⟨xs, hT⟩, fun D nD => ?_⟩
  have hl := dpa_len hd
  refine lc_tup (K := K) (a := p) (xs := xs) (fun i H' => Same H H' ∧ H' D = some (.lst (((ds.take i).map f).map V.bl))) ⟨same_new nD, upd_same⟩ (fun i H' _ h => seqT_same h.1 hT) ?_ ?_
  · rintro i x H' hi ⟨s1, h2⟩
    obtain ⟨d, hdi, hx⟩ := dpa_get hd hi
    have hmem : d ∈ ds := List.mem_of_getElem? hdi
    refine hs x d H' (fun y H4 => ∃ acc, H4 D = some (.lst acc) ∧ acc.length < sizeLine ∧ (Same H (upd H4 D (.lst (acc ++ [y]))) ∧ (upd H4 D (.lst (acc ++ [y]))) D = some (.lst (((ds.take (i + 1)).map f).map V.bl)))) s1 hmem (dp_same s1 hx) ⟨_, h2, ?_, same_mut s1 nD, ?_⟩
    · rw [List.length_map, List.length_map, List.length_take]
      exact small1000 (by omega)
    · rw [upd_same, take_map hdi, List.map_append, List.map_append]
      rfl
  · rintro H' ⟨s1, h2⟩
    rw [hl, List.take_length] at h2
    exact hQ D H' s1 (SqL.of h2)
theorem all_map {α : Type} (l : List α) (f : α → Bool) : (l.map f).all id = l.all f := by
  induction l with
  | nil => rfl
  | cons x r ih => simp [ih]
theorem cb1 {r : List V → Hp → VK → Prop} {te : TE} {σ : L2.St} {H : Hp} {Q : VK} (h : te σ H fun x H1 => r [x] H1 Q) : tCB r (tCons te tNil) σ H Q := h
/-! ### letters, words, effects: what is one -/
def isL (d : PyData) : Bool := match d with
  | .int i => decide (0 ≤ i) && decide (i ≤ 999999999)
  | _ => false
def isWd (f : PyData → Bool) (d : PyData) : Bool := match d with
  | .tuple ds => ds.all f
  | _ => false
def few (d : PyData) : Prop := ∀ ds, d = .tuple ds → ds.length ≤ 900
theorem isW_isI (d : PyData) (h : isI "int" d = true) (h2 : isI "bool" d = false) : ∃ i, d = .int i := isW_not (by unfold isW; rw [h, h2] <;> rfl)
theorem isL_not (d : PyData) (h : isW d = false) : isL d = false := by
  cases d with
  | int i => rw [isW_int] at h; cases h
  | _ => rfl
theorem isWd_not {f : PyData → Bool} (d : PyData) (h : isI "tuple" d = false) : isWd f d = false := by
  cases d with
  | tuple ds => rw [isI_tuple_tuple] at h; cases h
  | _ => rfl
def nF (k : Kd8) (f : Bool) (ns : List Int) : Bool := if isK k .last && !ns.isEmpty then true else f
def nE (k : Kd8) (f : Bool) (ns : List Int) : PyData := eD (nF k f ns) ns
/-- one effect behind the other, plain or not -/
def mulE (a b : Bool × List Int) : Bool × List Int := if b.1 then (true, b.2) else (a.1, a.2 ++ b.2)
def prodE (l : List (Bool × List Int)) : Bool × List Int := l.foldl mulE (false, [])
def nrm (k : Kd8) (e : Bool × List Int) : Bool × List Int := (nF k e.1 (pl k e.2), pl k e.2)
def effs (l : List (Bool × List Int)) : List PyData := l.map fun e => eD e.1 e.2
def onE (k : Kd8) (f : Bool) (ns ms : List Int) : List Int := if f then ns else pl k (ms ++ ns)
theorem isWd_word (d : PyData) (h : isWd isL d = true) : ∃ ns, d = wD ns := by
  cases d with
  | tuple ds =>
    have h' : ds.all isL = true := h
    suffices z : ∃ ns : List Int, ds = ns.map PyData.int from z.elim fun ns e => ⟨ns, by rw [e] <;> rfl⟩
    clear h
    induction ds with
    | nil => exact ⟨[], rfl⟩
    | cons d r ih =>
      rw [List.all_cons, Bool.and_eq_true] at h'
      obtain ⟨ns, e⟩ := ih h'.2
      cases d with
      | int i => exact ⟨i :: ns, by rw [e] <;> rfl⟩
      | _ => cases h'.1
  | _ => cases h
def wInts (d : PyData) : List Int := match d with
  | .tuple ds => ds.map fun d => match d with
    | .int i => i
    | _ => 0
  | _ => []
theorem wInts_w (ns : List Int) : wInts (wD ns) = ns := by
  show (ns.map PyData.int).map _ = ns
  rw [List.map_map]
  exact List.map_id' ns
def isPl (k : Kd8) (d : PyData) : Bool := isWd isL d && decide (pl k (wInts d) = wInts d)
section
variable {X : Cx} {K : PySem.W.Frag}
theorem notInK (h : X.K = K) : OpR X (compareOp .NotIn) (rIn K true) := by subst h; exact op_notIn_seq
theorem inK (h : X.K = K) : OpR X (compareOp .In) (rIn K false) := by subst h; exact op_in_seq
theorem slLK (h : X.K = K) : SlR X (rSlL K) := by subst h; exact sl_list
end
theorem kNames_at : ∀ n : Nat, n < 8 → kNames[n]? = some (.str (nm (kAt n)))
  | 0, _ => rfl
  | 1, _ => rfl
  | 2, _ => rfl
  | 3, _ => rfl
  | 4, _ => rfl
  | 5, _ => rfl
  | 6, _ => rfl
  | 7, _ => rfl
  | n + 8, h => absurd h (by omega)
theorem inV_int (x : Int) (ns : List Int) : inV (.int x) (ns.map V.int) = decide (x ∈ ns) := by
  unfold inV
  induction ns with
  | nil => rfl
  | cons y r ih =>
    rw [List.map_cons, List.any_cons, ih]
    show (decide (y = x) || decide (x ∈ r)) = _
    by_cases h : x = y
    · subst h; simp
    · simp [h, Ne.symm h]
theorem flat_ints (ns : List Int) : (ns.map V.int).all flatV = true := by
  induction ns with
  | nil => rfl
  | cons y r ih => rw [List.map_cons, List.all_cons, ih] <;> rfl
/-- the letters that a word is drawn from, at G -/
structure Lets (S c G : Addr) (gs : List Int) (H : Hp) : Prop where
  at_ : Lst S c G gs H
  one : 1 ≤ gs.length
  ten : gs.length ≤ 10
  rng : ∀ x ∈ gs, 0 ≤ x ∧ x ≤ 999999999
theorem Lets.ext {S c G : Addr} {gs : List Int} {H H' : Hp} (h : Lets S c G gs H) (e : Ext S H H') : Lets S c G gs H' := ⟨h.at_.ext e, h.one, h.ten, h.rng⟩
theorem cut_take {ns : List Int} {i : Nat} (h : i ≤ ns.length) : cutI ns none (some (0 + (i : Int))) = ns.take i := by
  unfold cutI
  rw [Int.zero_add, HT.sIx_nat, HT.sIx_none, List.drop_zero, Nat.sub_zero, Nat.min_eq_left h]
theorem cut_drop {ns : List Int} {i : Nat} {j : Int} (e : j = ((i : Nat) : Int)) (h : i ≤ ns.length) : cutI ns (some j) none = ns.drop i := by
  subst e
  unfold cutI
  rw [HT.sIx_nat, HT.sIx_none, Nat.min_eq_left h]
  exact List.take_of_length_le (by rw [List.length_drop]; omega)
theorem lst1_get {ns : List Int} (h : 0 < ns.length) : Km.lst1 ns = [ns[ns.length - 1]'(by omega)] := by
  unfold Km.lst1
  rw [List.drop_eq_getElem_cons (by omega)]
  congr 1
  exact List.drop_eq_nil_of_le (by omega)
theorem not_in (x : Int) (ns : List Int) : (if true = true then !inV (.int x) (ns.map V.int) else inV (.int x) (ns.map V.int)) = !decide (x ∈ ns) := by
  rw [if_pos rfl, inV_int]
theorem cat_fin {K : PySem.W.Frag} {H : Hp} {p q : Addr} {a b : List Int} {Q : VK} (hp : SqT K H p (a.map V.int)) (hq : SqT K H q (b.map V.int)) (hz : a.length + b.length ≤ 900) (h : ∀ r H', Same H H' → SqT K H' r ((a ++ b).map V.int) → Q (.ref r) H') : rCatA K (.ref p) (.ref q) H Q := by
  refine ⟨p, q, _, _, rfl, rfl, hp, hq, ?_, fun e => ?_, fun n1 e => ?_, fun n1 n2 r nr => ?_⟩
  · rw [List.length_map, List.length_map]
    exact Nat.le_trans hz (by decide)
  · exact h q _ (.refl _) (by rw [List.map_append, e]; exact hq)
  · exact h p _ (.refl _) (by rw [List.map_append, e, List.append_nil]; exact hp)
  · exact h r _ (same_new nr) (by rw [List.map_append]; exact .inl (.inl upd_same))
/-- one effect, then a plain one, as the law counts -/
def thE (k : Kd8) (x y : Bool × List Int) : Bool × List Int := if y.1 then (true, y.2) else (nF k x.1 (pl k (x.2 ++ y.2)), pl k (x.2 ++ y.2))
theorem nF_true (k : Kd8) (l : List Int) : nF k true l = true := by unfold nF; split <;> rfl
theorem nF_nil (k : Kd8) (f : Bool) : nF k f [] = f := by unfold nF; simp
theorem nF_idem (k : Kd8) (f : Bool) (l : List Int) : nF k (nF k f l) l = nF k f l := by unfold nF; split <;> rfl
theorem pl_last_nil {l : List Int} : pl .last l = [] ↔ l = [] := lst1_nil
theorem thE_eq {k : Kd8} {x y : Bool × List Int} (h : pl k y.2 = y.2) : thE k x y = nrm k (mulE x y) := by
  unfold thE nrm mulE
  obtain ⟨g, b⟩ := y
  cases g with
  | true =>
    show (true, b) = (nF k true (pl k b), pl k b)
    rw [nF_true, show pl k b = b from h]
  | false => rfl
theorem nF_left (k : Kd8) (f : Bool) (a b : List Int) : nF k (nF k f (pl k a)) (pl k (a ++ b)) = nF k f (pl k (a ++ b)) := by
  cases k with
  | last =>
    by_cases h : a = []
    · subst h
      show nF .last (nF .last f []) _ = _
      rw [nF_nil]
    · have e : (pl .last (a ++ b)).isEmpty = false := by
        cases z : pl .last (a ++ b) with
        | nil => exact absurd (List.append_eq_nil_iff.mp (pl_last_nil.mp z)).1 h
        | cons _ _ => rfl
      unfold nF
      rw [e] <;> rfl
  | _ => rfl
theorem nrm_mul {k : Kd8} (w z : Bool × List Int) : nrm k (mulE (nrm k w) z) = nrm k (mulE w z) := by
  obtain ⟨g, b⟩ := z
  cases g with
  | true => rfl
  | false =>
    show (nF k (nF k w.1 (pl k w.2)) (pl k (pl k w.2 ++ b)), pl k (pl k w.2 ++ b)) = (nF k w.1 (pl k (w.2 ++ b)), pl k (w.2 ++ b))
    rw [pl_left, nF_left]
theorem nrm_mulR {k : Kd8} (x w : Bool × List Int) : nrm k (mulE x (nrm k w)) = nrm k (mulE x w) := by
  obtain ⟨g, b⟩ := w
  obtain ⟨f, a⟩ := x
  cases g with
  | true =>
    show nrm k (if nF k true (pl k b) = true then (true, pl k b) else _) = nrm k (true, b)
    rw [nF_true, if_pos rfl]
    show (nF k true (pl k (pl k b)), pl k (pl k b)) = (nF k true (pl k b), pl k b)
    rw [pl_idem]
  | false =>
    show nrm k (if nF k false (pl k b) = true then (true, pl k b) else (f, a ++ pl k b)) = nrm k (f, a ++ b)
    by_cases h : nF k false (pl k b) = true
    · rw [if_pos h]
      cases k with
      | last =>
        have hb : b ≠ [] := fun e => by subst e; exact absurd h (by decide)
        show (nF .last true (lst1 (lst1 b)), lst1 (lst1 b)) = (nF .last f (lst1 (a ++ b)), lst1 (a ++ b))
        rw [lst1_idem, lst1_app hb, nF_true]
        have e : (lst1 b).isEmpty = false := by
          cases z : lst1 b with
          | nil => exact absurd (lst1_nil.mp z) hb
          | cons _ _ => rfl
        unfold nF
        rw [e] <;> rfl
      | _ => exact absurd (show false = true from h) Bool.false_ne_true
    · rw [if_neg h]
      show (nF k f (pl k (a ++ pl k b)), pl k (a ++ pl k b)) = _
      rw [pl_right] <;> rfl
theorem mulE_assoc (x y z : Bool × List Int) : mulE (mulE x y) z = mulE x (mulE y z) := by
  obtain ⟨f, a⟩ := x
  obtain ⟨g, b⟩ := y
  obtain ⟨i, c⟩ := z
  cases g <;> cases i <;> simp [mulE]
theorem mulE_e0 (x : Bool × List Int) : mulE (false, []) x = x := by
  obtain ⟨f, a⟩ := x
  cases f <;> simp [mulE]
theorem mulE_0e (x : Bool × List Int) : mulE x (false, []) = x := by
  obtain ⟨f, a⟩ := x
  simp [mulE]
theorem nrm_nrm (k : Kd8) (w : Bool × List Int) : nrm k (nrm k w) = nrm k w := by
  show (nF k (nF k w.1 (pl k w.2)) (pl k (pl k w.2)), pl k (pl k w.2)) = _
  rw [pl_idem, nF_idem] <;> rfl
theorem nrm_pl (k : Kd8) (w : Bool × List Int) : pl k (nrm k w).2 = (nrm k w).2 := pl_idem k w.2
theorem cut_sub (ns : List Int) (lo hi : Option Int) : (cutI ns lo hi).length ≤ ns.length ∧ ∀ x ∈ cutI ns lo hi, x ∈ ns := by
  unfold cutI
  refine ⟨?_, fun x hx => List.mem_of_mem_drop (List.mem_of_mem_take hx)⟩
  rw [List.length_take, List.length_drop]
  omega
section
variable {K : PySem.W.Frag} {H : Hp} {L t : Addr} {xs ys zs : List V} {v : V} {ns : List Int} {f : Bool}
theorem sqt_mut (hL : H L = some (.lst xs)) (h : SqT K H t ys) : SqT K (upd H L (.lst zs)) t ys := by
  have ne : ∀ o, H t = some o → (∀ l, o ≠ .lst l) → t ≠ L := fun o e n z => by
    rw [z, hL] at e
    exact n _ (Option.some.inj e).symm
  rcases h with (h | ⟨o, h⟩) | h
  · exact .inl (.inl (by rw [upd_ne (ne _ h fun l z => HO.noConfusion z)]; exact h))
  · exact .inl (.inr ⟨o, by rw [upd_ne (ne _ h fun l z => HO.noConfusion z)]; exact h⟩)
  · exact .inr h
theorem w_mut (hL : H L = some (.lst xs)) (h : Dp K H v (wD ns)) : Dp K (upd H L (.lst zs)) v (wD ns) := by
  obtain ⟨t, rfl, h'⟩ := w_inv h
  exact w_mk (sqt_mut hL h')
theorem ef_mut (hL : H L = some (.lst xs)) (h : Dp K H v (eD f ns)) : Dp K (upd H L (.lst zs)) v (eD f ns) := by
  obtain ⟨x, t, rfl, h1, h2⟩ := e_inv h
  exact e_mk (sqt_mut hL h1) (w_mk (sqt_mut hL h2))
end
theorem on_nrm (k : Kd8) (w : Bool × List Int) (ms : List Int) : onE k (nrm k w).1 (nrm k w).2 ms = if w.1 then pl k w.2 else pl k (ms ++ w.2) := by
  obtain ⟨f, a⟩ := w
  show onE k (nF k f (pl k a)) (pl k a) ms = _
  cases f with
  | true => rw [nF_true] <;> rfl
  | false =>
    show onE k (nF k false (pl k a)) (pl k a) ms = pl k (ms ++ a)
    by_cases h : nF k false (pl k a) = true
    · rw [h]
      show pl k a = pl k (ms ++ a)
      cases k with
      | last =>
        have ha : a ≠ [] := fun e => by subst e; exact absurd h (by decide)
        exact (lst1_app ha).symm
      | _ => exact absurd (show false = true from h) Bool.false_ne_true
    · have e : nF k false (pl k a) = false := by cases z : nF k false (pl k a) <;> simp_all
      rw [e]
      exact pl_right k ms a
theorem on_three {k : Kd8} {x y z : Bool × List Int} (px : pl k x.2 = x.2) (py : pl k y.2 = y.2) (pz : pl k z.2 = z.2) (ms : List Int) :
    onE k (nrm k (mulE (mulE x y) z)).1 (nrm k (mulE (mulE x y) z)).2 ms = onE k z.1 z.2 (onE k y.1 y.2 (onE k x.1 x.2 ms)) := by
  rw [on_nrm]
  obtain ⟨f, a⟩ := x
  obtain ⟨g, b⟩ := y
  obtain ⟨i, c⟩ := z
  cases i with
  | true => exact pz
  | false =>
    cases g with
    | true => rfl
    | false =>
      cases f with
      | true =>
        show pl k (a ++ b ++ c) = pl k (pl k (a ++ b) ++ c)
        rw [pl_left]
      | false =>
        show pl k (ms ++ (a ++ b ++ c)) = pl k (pl k (pl k (ms ++ a) ++ b) ++ c)
        rw [pl_left k (ms ++ a) b, pl_left, List.append_assoc, List.append_assoc, List.append_assoc]
theorem dpa_snoc {K : PySem.W.Frag} {H : Hp} {v : V} {d : PyData} : ∀ {vs : List V} {ds : List PyData}, DpAll K H vs ds → Dp K H v d → DpAll K H (vs ++ [v]) (ds ++ [d])
  | _, _, .nil, h => .cons h .nil
  | _ :: _, _ :: _, .cons h1 h2, h => .cons h1 (dpa_snoc h2 h)
theorem isPl_ints {k : Kd8} {ns : List Int} (h : ∀ x ∈ ns, 0 ≤ x ∧ x ≤ 999999999) : isPl k (wD ns) = decide (pl k ns = ns) := by
  unfold isPl
  rw [wInts_w]
  have e : isWd isL (wD ns) = true := by
    show (ns.map PyData.int).all isL = true
    rw [List.all_eq_true]
    intro d hd
    obtain ⟨i, hi, rfl⟩ := List.mem_map.mp hd
    obtain ⟨h1, h2⟩ := h i hi
    show (decide (0 ≤ i) && decide (i ≤ 999999999)) = true
    simp [h1, h2]
  rw [e, Bool.true_and]
theorem mulE_flag (x y : Bool × List Int) : (mulE x y).1 = (x.1 || y.1) := by
  obtain ⟨f, a⟩ := x
  obtain ⟨g, b⟩ := y
  cases f <;> cases g <;> rfl
/-- in which order: the words tell -/
theorem swap_eq {k : Kd8} {x y : Bool × List Int} (h : (nrm k (mulE x y)).2 = (nrm k (mulE y x)).2) : nrm k (mulE x y) = nrm k (mulE y x) := by
  refine Prod.ext ?_ h
  have e : pl k (mulE x y).2 = pl k (mulE y x).2 := h
  show nF k (mulE x y).1 (pl k (mulE x y).2) = nF k (mulE y x).1 (pl k (mulE y x).2)
  rw [e, mulE_flag, mulE_flag, Bool.or_comm]
theorem dec_pair (x y : Bool × List Int) : (decide (x.1 = y.1) && decide (x.2 = y.2)) = decide (x = y) := by
  rw [Bool.eq_iff_iff]
  simp [Prod.ext_iff]
theorem on_two (k : Kd8) {x y : Bool × List Int} (px : pl k x.2 = x.2) (py : pl k y.2 = y.2) (ms : List Int) :
    onE k (nrm k (mulE x y)).1 (nrm k (mulE x y)).2 ms = onE k y.1 y.2 (onE k x.1 x.2 ms) := by
  rw [on_nrm]
  obtain ⟨f, a⟩ := x
  obtain ⟨g, b⟩ := y
  cases g with
  | true => exact py
  | false =>
    cases f with
    | true => rfl
    | false =>
      show pl k (ms ++ (a ++ b)) = pl k (pl k (ms ++ a) ++ b)
      rw [pl_left, List.append_assoc]
theorem on_nil (k : Kd8) (w : Bool × List Int) : onE k (nrm k w).1 (nrm k w).2 [] = (nrm k w).2 := by
  rw [on_nrm]
  split
  · rfl
  · rfl
/-- an effect as a value -/
abbrev Ef (K : PySem.W.Frag) (H : Hp) (v : V) (e : Bool × List Int) : Prop := Dp K H v (eD e.1 e.2)
theorem isWd_ints (ns : List Int) : isWd isW (wD ns) = true := by
  show (ns.map PyData.int).all isW = true
  rw [List.all_eq_true]
  intro d hd
  obtain ⟨i, _, rfl⟩ := List.mem_map.mp hd
  exact isW_int i
end Kx

set_option Elab.async false
set_option linter.all false
set_option maxRecDepth 100000
set_option maxHeartbeats 4000000
/-! {e for a in x for b in y}, a set of ints out of two clauses without tests -/
namespace Kc
open PySem PySem.Spec PyProof.Rows L2 Lk
abbrev two (e t0 i0 t1 i1 : Expr) (sp : Scope) (ps : Pos) : Expr := .SetComp e [⟨t0, i0, [], 0⟩, ⟨t1, i1, [], 0⟩] sp ps
section
variable {P : Program} {w : World} {A : Around} {R : Result → Shared → Prop} {s : Shared} {e t0 i0 t1 i1 : Expr} {sp : Scope} {ps : Pos} {it ac : Value} {env : Env}
abbrev Er (P : Program) (w : World) (A : Around) (env : Env) (R : Result → Shared → Prop) : Value → Shared → Prop := notedBy (model P w) A env fun x s' => R (.error x) s'
theorem turn0 : compTurn (two e t0 i0 t1 i1 sp ps) 0 it ac env = (do
    standAt i0.pos
    match ← pyNext it with
    | none => pure (.done .next)
    | some v =>
      letOwnedTupleGo t0 it v
      assign t0 env v
      let y ← eval i1 env
      standAt i1.pos
      let y ← foldedSetIterable i1 env y
      let _ ← runOwn (.compStart (two e t0 i0 t1 i1 sp ps) 1 (← holding [y] (pyIter y)) ac env) env
      again (.compLoop (two e t0 i0 t1 i1 sp ps) 0 it ac env)) := by rfl
theorem turn1 : compTurn (two e t0 i0 t1 i1 sp ps) 1 it ac env = (do
    standAt i1.pos
    match ← pyNext it with
    | none => pure (.done .next)
    | some v =>
      letOwnedTupleGo t1 it v
      assign t1 env v
      (do let y ← eval e env; standAt e.pos; let _ ← call (.builtin "set.add") [ac, y])
      again (.compLoop (two e t0 i0 t1 i1 sp ps) 1 it ac env)) := by rfl
/-- what a turn of the outer loop has to show -/
def Go0 (P : Program) (w : World) (A : Around) (R : Result → Shared → Prop) (e t0 i0 t1 i1 : Expr) (sp : Scope) (ps : Pos) (it ac : Value) (env : Env) (N : Shared → Prop) (s : Shared) : Prop :=
  wpAny (model P w) A (pyNext it) (fun r s1 => match r with
    | none => R (.ok .next) s1
    | some v => wpAny (model P w) A (letOwnedTupleGo t0 it v) (fun _ s2 => wpAny (model P w) A (assign t0 env v) (fun _ s3 =>
        wpAny (model P w) A (eval i1 env) (fun x s4 => wpAny (model P w) A (pyIter x) (fun j s5 =>
          codeAny (model P w) A (.compStart (two e t0 i0 t1 i1 sp ps) 1 j ac env) (fun r s6 => match r with
            | .ok _ => N s6
            | .error _ => False) s5) (Er P w A env R) s4) (Er P w A env R) s3) (Er P w A env R) s2) (Er P w A env R) s1) (Er P w A env R) s
def Go1 (P : Program) (w : World) (A : Around) (R : Result → Shared → Prop) (e t1 : Expr) (it ac : Value) (env : Env) (N : Shared → Prop) (s : Shared) : Prop :=
  wpAny (model P w) A (pyNext it) (fun r s1 => match r with
    | none => R (.ok .next) s1
    | some v => wpAny (model P w) A (letOwnedTupleGo t1 it v) (fun _ s2 => wpAny (model P w) A (assign t1 env v) (fun _ s3 =>
        wpAny (model P w) A (eval e env) (fun x s4 => wpAny (model P w) A (call (.builtin "set.add") [ac, x]) (fun _ s5 => N s5) (Er P w A env R) s4) (Er P w A env R) s3) (Er P w A env R) s2) (Er P w A env R) s1) (Er P w A env R) s
theorem loop0 (hf : ∀ x, foldedSetIterable i1 env x = pure x) (I : Nat → Shared → Prop) (go : ∀ n s, I n s → Go0 P w A R e t0 i0 t1 i1 sp ps it ac env (fun s' => ∃ m, m < n ∧ I m s') s) (n : Nat) (h : I n s) :
    codeAny (model P w) A (.compLoop (two e t0 i0 t1 i1 sp ps) 0 it ac env) R s := by
  refine codeAny_loop rfl I (fun n s hI => ?_) n h
  show wpAny _ A (Sem.onRaise (compTurn (two e t0 i0 t1 i1 sp ps) 0 it ac env) (fun x => do noteFrame x env; theTreesLotGoes x)) _ _ s
  refine wpAny_noted ?_
  rw [turn0]
  refine wpAny_bind (wpAny_standAt (wpAny_bind (thn (go n s hI) fun r s1 k1 => ?_)))
  cases r with
  | none => exact wpAny_pure k1
  | some v =>
    refine wpAny_bind (thn k1 fun _ s2 k2 => wpAny_bind (thn k2 fun _ s3 k3 => wpAny_bind (thn k3 fun x s4 k4 => ?_)))
    refine wpAny_bind (wpAny_standAt (wpAny_bind (wpAny_of_eq (hf x) (wpAny_bind (wpAny_holding (thn k4 fun j s5 k5 => ?_))))))
    refine wpAny_bind (wpAny_runOwn ?_)
    rw [Around.mark_none]
    refine codeAny_mono k5 fun r s6 k6 => ?_
    cases r with
    | ok f => first | exact wpAny_pure ⟨rfl, k6⟩ | exact wpAny_bind (wpAny_pure (wpAny_pure ⟨rfl, k6⟩))
    | error x => exact k6.elim
theorem loop1 (I : Nat → Shared → Prop) (go : ∀ n s, I n s → Go1 P w A R e t1 it ac env (fun s' => ∃ m, m < n ∧ I m s') s) (n : Nat) (h : I n s) :
    codeAny (model P w) A (.compLoop (two e t0 i0 t1 i1 sp ps) 1 it ac env) R s := by
  refine codeAny_loop rfl I (fun n s hI => ?_) n h
  show wpAny _ A (Sem.onRaise (compTurn (two e t0 i0 t1 i1 sp ps) 1 it ac env) (fun x => do noteFrame x env; theTreesLotGoes x)) _ _ s
  refine wpAny_noted ?_
  rw [turn1]
  refine wpAny_bind (wpAny_standAt (wpAny_bind (thn (go n s hI) fun r s1 k1 => ?_)))
  cases r with
  | none => exact wpAny_pure k1
  | some v =>
    refine wpAny_bind (thn k1 fun _ s2 k2 => wpAny_bind (thn k2 fun _ s3 k3 => ?_))
    exact wpAny_bind (wpAny_bind (thn k3 fun x s4 k4 => wpAny_bind (wpAny_standAt (wpAny_bind (thn k4 fun _ s5 k5 => wpAny_pure (wpAny_pure ⟨rfl, k5⟩))))))
theorem begin1 (h0 : codeAny (model P w) A (.compLoop (two e t0 i0 t1 i1 sp ps) 1 it ac env) R s)
    (h : wpAny (model P w) A (pyIter it) (fun j s' => codeAny (model P w) A (.compLoop (two e t0 i0 t1 i1 sp ps) 1 j ac env) R s') (Er P w A env R) s) :
    codeAny (model P w) A (.compStart (two e t0 i0 t1 i1 sp ps) 1 it ac env) R s := by
  refine codeAny_of_tree ?_
  show wpAny _ _ (Sem.onRaise (compStart (two e t0 i0 t1 i1 sp ps) 1 it ac env) (fun x => do noteFrame x env; standAt theWindowsPlace)) _ _ s
  refine wpAny_notedAt ?_
  unfold compStart
  show wpAny _ _ (ask >>= _) _ _ s
  refine wpAny_bind (wpAny_askSetting (wpAny_ite ?_))
  split
  · first | exact wpAny_bind (wpAny_pure (wpAny_pure (And.intro rfl h0))) | exact wpAny_pure (And.intro rfl h0)
  · refine wpAny_bind (wpAny_rule ?_)
    show wpAny _ _ (standAt i1.pos >>= _) _ _ s
    exact wpAny_bind (wpAny_standAt (wpAny_bind (thn h fun j s' k => wpAny_pure (And.intro rfl k))))
end
section
variable {X : Cx}
/-- set.add(D, c), c an int -/
theorem add_int {pins : List (Addr × Obj)} {σ : L2.St} {H : Hp} {s : Shared} {E : Value → Shared → Prop} {D : Addr} {S : Int → Bool} {n : Nat} {c : Int} {u : Value} {Q : Value → Shared → Prop} (I : Inv X pins σ H s) (r : RelV (.int c) u)
    (hD : H D = some (SetO X.w D S n)) (room : n + 1 < scanBound) (h : ∀ s', Inv X pins σ (upd H D (SetO X.w D (fun j => S j || decide (j = c)) (if S c = true then n else n + 1))) s' → Q .none s') :
    wpAny (model X.prog X.w) X.A (call (.builtin "set.add") [.ref D, u]) Q E s := by
  obtain ⟨tk, rfl⟩ := r
  refine setR_add (setO_get I hD) room fun h' sb new => ?_
  refine h _ (I.write (e := D) (t' := s.toks + 1) (by rw [hD]; trivial) (.inl rfl) (fun b u hb hu => (sb.2 b hb).trans hu) ?_ (setO_new new))
  obtain ⟨o, _, _, _, ho, _⟩ := new
  exact ⟨o, ho⟩
/-- the reading: W, W1 for the two loops, Nx what leads on to the next turn of the outer one -/
def In1 (w : World) (g1 : TG) (te : TE) (vs1 : List Nat) (D : Addr) (Nx : Hp → Prop) (σ2 : L2.St) (J : It) (H4 : Hp) : Prop :=
  ∃ W1 : Nat → Nat → Hp → Prop, (∃ m, W1 0 m H4) ∧ ∀ j k H, W1 j k H → (J.stop j H ∧ Nx H) ∨ (J.go j H ∧ ∃ N1 : Hp → Prop, (∀ H', N1 H' → ∃ k', k' < k ∧ W1 (j + 1) k' H') ∧
    ∀ x H', J.yld j H x H' → g1 x (wipe σ2 vs1) H' fun σ3 H5 => wipe σ3 vs1 = wipe σ2 vs1 ∧ te σ3 H5 fun y H7 => ∃ (c : Int) (S : Int → Bool) (n : Nat), y = .int c ∧ H7 D = some (SetO w D S n) ∧ n + 1 < scanBound ∧
      N1 (upd H7 D (SetO w D (fun j => S j || decide (j = c)) (if S c = true then n else n + 1))))
def tSc2 (w : World) (wi : TI) (g : TG) (wi1 : TI) (g1 : TG) (te : TE) (vs vs1 : List Nat) : TE := fun σ H Q => wi σ H fun J H1 => ∀ D, H1 D = none →
  ∃ W : Nat → Nat → Hp → Prop, (∃ m, W 0 m (upd H1 D (SetO w D (fun _ => false) 0))) ∧ ∀ i m H, W i m H → (J.stop i H ∧ Q (.ref D) H) ∨ (J.go i H ∧ ∃ Nx : Hp → Prop, (∀ H', Nx H' → ∃ m', m' < m ∧ W (i + 1) m' H') ∧
    ∀ x H', J.yld i H x H' → g x (wipe σ vs) H' fun σ2 H2 => wipe σ2 vs = wipe σ vs ∧ wi1 σ2 H2 fun J1 H4 => In1 w g1 te vs1 D Nx σ2 J1 H4)
theorem core {pins : List (Addr × Obj)} {s : Shared} {σ : L2.St} {H : Hp} {Q : VK} {e t0 i0 t1 i1 : Expr} {sp : Scope} {own : List (PySem.Str × Nat)} {vs1 : List Nat} {ps ps' : Pos} {wi wi1 : TI} {g g1 : TG} {te : TE} {use : Option (Value → Sem Unit)} {Qf : Value → Shared → Prop}
    (hc : X.calm = true) (hN : X.N.Nodup) (I : Inv X pins σ H s) (hi : PI X t0 i0 wi) (ok : BlkOk X.N X.env.scope sp own) (hv : ∀ i ∈ vs1, i ∈ own.map (·.2)) (hg : ∀ (s : Shared) (H : Hp) (C : Addr) (cl : List (PySem.Str × Addr)) (fp : List Addr), PG (X.blk s H sp (compEnvC sp cl C X.env) fp) t0 g) (hi1 : ∀ (s : Shared) (H : Hp) (C : Addr) (cl : List (PySem.Str × Addr)) (fp : List Addr), PI (X.blk s H sp (compEnvC sp cl C X.env) fp) t1 i1 wi1)
    (hg1 : ∀ (s : Shared) (H : Hp) (C : Addr) (cl : List (PySem.Str × Addr)) (fp : List Addr), PG (X.blk s H sp (compEnvC sp cl C X.env) fp) t1 g1) (he : ∀ (s : Shared) (H : Hp) (C : Addr) (cl : List (PySem.Str × Addr)) (fp : List Addr), PE (X.blk s H sp (compEnvC sp cl C X.env) fp) e te) (f0 : ∀ x, foldedSetIterable i0 X.env x = pure x) (f1 : ∀ env x, foldedSetIterable i1 env x = pure x) (h : tSc2 X.w wi g wi1 g1 te (own.map (·.2)) vs1 σ H Q)
    (out : ∀ D C s' m H', Inv X pins σ H' s' → Q (.ref D) H' → s'.heap.Ns C m → FpOk X pins H' C → compPost (model X.prog X.w) X.A X.xe use Qf (.ref D) C (.ok .next) s') :
    wpAny (model X.prog X.w) X.A (comprehension (two e t0 i0 t1 i1 sp ps) sp X.env ps' (newSet (.type "set")) false (eval i0 X.env) use) Qf X.xe s := by
  have free : ∀ y ∈ sp.names, y.2 = .free → ∃ c, X.env.cells.lookup y.1 = some c := fun y hy z => (ok.free y hy z).elim (fun k => I.ok.has _ (.inl k)) fun k => I.ok.has _ (.inr k)
  refine wpAny_comprehension_free (use := use) rfl f0 (closure_ok free) ok.kind (fun y hy z => by rw [ok.uniq y hy, z]) (thn (hi.run pins s σ H _ I h) fun xv s1 hx => thn hx fun itv s2 h2 => ?_)
  obtain ⟨it, fp, tn, J, H2, ez, I2, T, a2, b2, q⟩ := h2
  subst ez
  refine PpSet.newSet_ok (newEnv_comp ?_)
  generalize hD : s2.heap.objs.size = D
  obtain ⟨W, ⟨m0, w0⟩, turn⟩ := q D (I2.hok.fresh (Nat.le_of_eq hD))
  -- behind the making of the empty set
  generalize es3 : ({ s2 with heap := s2.heap.push { cls := .type "set", dict := none, data := .set #[] 0 (.fresh 0 0 (!X.w.params.followText "set-order")) } } : Shared) = s3
  have h3 : s3.heap = s2.heap.push { cls := .type "set", dict := none, data := .set #[] 0 (.fresh 0 0 (!X.w.params.followText "set-order")) } := by rw [← es3]
  have I3 : Inv X pins σ (upd H2 D (SetO X.w D (fun _ => false) 0)) s3 := by
    rw [← es3]
    refine I2.laid (t' := s2.toks) (fun b o z => Heap.get?_push_of_some _ z) (Nat.le_of_eq hD) ?_
    rw [← hD]
    refine setO_new ?_
    exact ⟨_, #[], 0, _, Heap.get?_push_size _ rfl, ⟨rfl, rfl, rfl⟩, rfl, (fun e he => by simp at he), (by simp), (fun k => by simp), (by decide), (by rfl), rfl, List.Pairwise.nil, by
      show _ ∨ (!X.w.params.followText "set-order") = true
      cases X.w.params.followText "set-order" <;> simp⟩
  have b3 : ∀ b ∈ fp, FpOk X pins (upd H2 D (SetO X.w D (fun _ => false) 0)) b ∧ b < s3.heap.objs.size := fun b hb => by
    obtain ⟨o, z, _⟩ := T.obj _ _ a2 b hb
    have lt := Heap.lt_size z
    refine ⟨⟨?_, (b2 b hb).2⟩, by rw [h3, Heap.size_push]; exact Nat.lt_succ_of_lt lt⟩
    rw [upd_ne (by rw [← hD]; exact Nat.ne_of_lt lt)]
    exact (b2 b hb).1
  have a3 : tn 0 s3.heap := T.keep _ _ _ a2 fun b _ o z => by rw [h3]; exact Heap.get?_push_of_some _ z
  have I4 := block_start I3 ok hN b3
  generalize ecl : cellsFrom (s3.heap.objs.size + 1) sp.names (cloFrom X.env.cells sp.names []) = cl at I4
  have pg := hg s3 (upd H2 D (SetO X.w D (fun _ => false) 0)) s3.heap.objs.size cl fp
  have pe := he s3 (upd H2 D (SetO X.w D (fun _ => false) 0)) s3.heap.objs.size cl fp
  have pi1 := hi1 s3 (upd H2 D (SetO X.w D (fun _ => false) 0)) s3.heap.objs.size cl fp
  have pg1 := hg1 s3 (upd H2 D (SetO X.w D (fun _ => false) 0)) s3.heap.objs.size cl fp
  have nfp : ∀ b ∈ fp, (upd H2 D (SetO X.w D (fun _ => false) 0)) b = none := fun b hb => (b3 b hb).1.1
  show codeAny _ _ (.compStart (two e t0 i0 t1 i1 sp ps) 0 (.ref it) (.ref D) (compEnvC sp cl s3.heap.objs.size X.env)) (compPost (model X.prog X.w) X.A X.xe use Qf (.ref D) s3.heap.objs.size) { s3 with heap := pushCells (s3.heap.push { cls := .type "dict", data := .dict #[] }) sp.names }
  generalize ece : compEnvC sp cl s3.heap.objs.size X.env = ce at I4 pg pe pi1 pg1 ⊢
  have cL : ce.locals = s3.heap.objs.size := by subst ece; rfl
  generalize eH3 : upd H2 D (SetO X.w D (fun _ => false) 0) = H3 at I3 I4 pg pe pi1 pg1 w0 nfp b3
  generalize es4 : ({ s3 with heap := pushCells (s3.heap.push { cls := .type "dict", data := .dict #[] }) sp.names } : Shared) = s4 at I4 ⊢
  have a4 : tn 0 s4.heap := T.keep _ _ _ a3 fun b _ o z => by rw [← es4]; exact pushCells_keeps _ _ _ _ (Heap.get?_push_of_some _ z)
  have own0 : ∀ {σ' : L2.St} {H' : Hp} {s' : Shared}, Inv (X.blk s3 H3 sp ce fp) [] σ' H' s' → (∀ b ∈ fp, H' b = none) → ∀ b ∈ fp, FpOk (X.blk s3 H3 sp ce fp) [] H' b := fun I' hn b hb =>
    ⟨hn b hb, (I'.ok.exf b hb).1, I'.ok.exfs b hb, .inl hb, fun x c z => (I'.ok.exf b hb).2 x c z, fun p hp => absurd hp (by simp)⟩
  -- between two turns of the outer loop
  let M : Nat → Shared → Prop := fun n s' => ∃ i H', Inv (X.blk s3 H3 sp ce fp) [] (wipe σ (own.map (·.2))) H' s' ∧ tn i s'.heap ∧ (∀ b ∈ fp, H' b = none) ∧ W i n H'
  have outer : codeAny (model X.prog X.w) X.A (.compLoop (two e t0 i0 t1 i1 sp ps) 0 (.ref it) (.ref D) ce) (compPost (model X.prog X.w) X.A X.xe use Qf (.ref D) s3.heap.objs.size) s4 := by
    refine loop0 (f1 ce) M ?_ m0 ⟨0, H3, I4, a4, nfp, w0⟩
    rintro n s5 ⟨i, H5, I5, a5, n5, w5⟩
    unfold Go0
    rcases turn i n H5 w5 with ⟨stop, qq⟩ | ⟨go, Nx, hNx, step⟩
    · refine thnF (T.done (X.blk s3 H3 sp ce fp) rfl rfl rfl hc i [] s5 _ H5 (fun _ _ => False) I5 (own0 I5 n5) a5 stop) fun r s6 ⟨hr, I6⟩ => ?_
      cases hr
      have nC : H5 s3.heap.objs.size = none := cL ▸ (show H5 ce.locals = none from I6.free)
      obtain ⟨m, hm, _⟩ := I6.loc
      have hm : s6.heap.Ns s3.heap.objs.size m := cL ▸ (show s6.heap.Ns ce.locals m from hm)
      refine out D s3.heap.objs.size s6 m H5 ?_ qq hm (I3.fpOk (Nat.le_refl _) nC)
      refine I3.call' (ch := fp) I6.os I6.base I6.hok I6.bare fun b hb => ?_
      obtain ⟨⟨_, x1, x2, x3, x4⟩, _⟩ := b3 b hb
      exact ⟨x3, x1, x4.1, x4.2⟩
    · refine thnF (T.item (X.blk s3 H3 sp ce fp) rfl rfl rfl hc i [] s5 _ H5 (fun _ _ => False) I5 (own0 I5 n5) a5 go) fun r s6 ⟨u, hr, h6⟩ => ?_
      subst hr
      refine thnF h6 fun _ s7 ⟨x, H7, I7, r7, y7, a7, n7⟩ => ?_
      refine thnF (pg.run _ s7 _ H7 x u _ (I7.pinned (own0 I7 n7) (T.obj _ _ a7)) r7 (step x H7 y7)) fun _ s8 ⟨σ8, H8, I8, hw8, q8⟩ => ?_
      have len8 : (wipe σ (own.map (·.2))).length = (wipe σ8 vs1).length := by rw [← hw8, wipe_length, wipe_length]
      have kept8 : ∀ (j : Nat) v, (wipe σ (own.map (·.2)))[j]? = some (some v) → (wipe σ8 vs1)[j]? = some (some v) := fun j v z => by
        rw [← hw8] at z
        rw [wipe_out fun m => (wipe_some z).2 (hv j m)]
        exact (wipe_some z).1
      -- the outer turn ends
      have end0 : ∀ {s' : Shared} {H' : Hp}, Inv (X.blk s3 H3 sp ce fp) ([] ++ pinsAt fp s7.heap) (wipe σ8 vs1) H' s' → Nx H' → ∃ m, m < n ∧ M m s' := fun {s' H'} I' nx => by
        obtain ⟨m', hm, w'⟩ := hNx H' nx
        have pin : ∀ b ∈ fp, ∀ o, s7.heap.get? b = some o → s'.heap.get? b = some o ∧ H' b = none := fun b hb o z => by
          have y := I'.pin (b, o) (List.mem_append_right _ (List.mem_append_right _ (mem_pinsAt hb z)))
          exact ⟨y.1, y.2.1⟩
        refine ⟨m', hm, i + 1, H', (I'.unpinned (pins := [])).weak len8 kept8, T.keep _ _ _ a7 fun b hb o z => (pin b hb o z).1, fun b hb => ?_, w'⟩
        obtain ⟨o, z, _⟩ := T.obj _ _ a7 b hb
        exact (pin b hb o z).2
      refine thnF (pi1.run _ s8 σ8 H8 _ I8 q8) fun xv s10 hx => thnF hx fun itv s11 h11 => ?_
      obtain ⟨it1, fp1, tn1, J1, H11, z1, I11, T1, a11, b11, W1, ⟨m1, w1⟩, turn1⟩ := h11
      subst z1
      have own1 : ∀ {H' : Hp}, (∀ b ∈ fp1, H' b = none) → ∀ b ∈ fp1, FpOk (X.blk s3 H3 sp ce fp) ([] ++ pinsAt fp s7.heap) H' b := fun hn b hb => ⟨hn b hb, (b11 b hb).2⟩
      -- between two turns of the inner loop
      let M1 : Nat → Shared → Prop := fun k s' => ∃ j H', Inv (X.blk s3 H3 sp ce fp) ([] ++ pinsAt fp s7.heap) (wipe σ8 vs1) H' s' ∧ tn1 j s'.heap ∧ (∀ b ∈ fp1, H' b = none) ∧ W1 j k H'
      have inner : codeAny (model X.prog X.w) X.A (.compLoop (two e t0 i0 t1 i1 sp ps) 1 (.ref it1) (.ref D) ce) (fun r s' => match r with
          | .ok _ => ∃ m, m < n ∧ M m s'
          | .error _ => False) s11 := by
        refine loop1 M1 ?_ m1 ⟨0, H11, I11.weak (wipe_length _ _) (fun j v z => (wipe_some z).1), a11, fun b hb => (b11 b hb).1, w1⟩
        rintro k s12 ⟨j, H12, I12, a12, n12, w12⟩
        unfold Go1
        rcases turn1 j k H12 w12 with ⟨stop1, nx1⟩ | ⟨go1, N1, hN1, step1⟩
        · refine thnF (T1.done (X.blk s3 H3 sp ce fp) rfl rfl rfl hc j _ s12 (wipe σ8 vs1) H12 (fun _ _ => False) I12 (own1 n12) a12 stop1) fun r s13 ⟨hr, I13⟩ => ?_
          cases hr
          exact end0 I13 nx1
        · refine thnF (T1.item (X.blk s3 H3 sp ce fp) rfl rfl rfl hc j _ s12 (wipe σ8 vs1) H12 (fun _ _ => False) I12 (own1 n12) a12 go1) fun r s13 ⟨u1, hr, h13⟩ => ?_
          subst hr
          refine thnF h13 fun _ s14 ⟨x1, H14, I14, r14, y14, a14, n14⟩ => ?_
          refine thnF (pg1.run _ s14 (wipe σ8 vs1) H14 x1 u1 _ (I14.pinned (own1 n14) (T1.obj _ _ a14)) r14 (step1 x1 H14 y14)) fun _ s15 ⟨σ15, H15, I15, hw15, q15⟩ => ?_
          refine thnF (pe.run _ s15 σ15 H15 _ I15 q15) fun z s17 ⟨yv, H17, I17, r17, c, S, nn, ey, hD17, room, nx⟩ => ?_
          subst ey
          refine add_int (X := X.blk s3 H3 sp ce fp) I17 r17 hD17 room fun s18 I18 => ?_
          obtain ⟨m', hm, w'⟩ := hN1 _ nx
          have pin : ∀ b ∈ fp1, ∀ o, s14.heap.get? b = some o → s18.heap.get? b = some o ∧ _ = none := fun b hb o z => by
            have y := I18.pin (b, o) (List.mem_append_right _ (List.mem_append_right _ (mem_pinsAt hb z)))
            exact ⟨y.1, y.2.1⟩
          refine ⟨m', hm, j + 1, _, I18.unpinned.weak (by rw [← hw15, wipe_length]) (fun j v z => by rw [← hw15] at z; exact (wipe_some z).1), T1.keep _ _ _ a14 fun b hb o z => (pin b hb o z).1, fun b hb => ?_, w'⟩
          obtain ⟨o, z, _⟩ := T1.obj _ _ a14 b hb
          exact (pin b hb o z).2
      exact begin1 inner (T1.self X.A 0 _ _ _ a11 inner)
  exact PpSet.codeAny_compStart_set outer (T.self X.A 0 _ _ _ a4 outer)
/-- as a value -/
theorem pe_sc2 {e t0 i0 t1 i1 : Expr} {sp : Scope} {own : List (PySem.Str × Nat)} {vs1 : List Nat} {ps : Pos} {wi wi1 : TI} {g g1 : TG} {te : TE} (hc : X.calm = true) (hN : X.N.Nodup) (hi : PI X t0 i0 wi) (ok : BlkOk X.N X.env.scope sp own) (hv : ∀ i ∈ vs1, i ∈ own.map (·.2))
    (hg : ∀ (s : Shared) (H : Hp) (C : Addr) (cl : List (PySem.Str × Addr)) (fp : List Addr), PG (X.blk s H sp (compEnvC sp cl C X.env) fp) t0 g) (hi1 : ∀ (s : Shared) (H : Hp) (C : Addr) (cl : List (PySem.Str × Addr)) (fp : List Addr), PI (X.blk s H sp (compEnvC sp cl C X.env) fp) t1 i1 wi1) (hg1 : ∀ (s : Shared) (H : Hp) (C : Addr) (cl : List (PySem.Str × Addr)) (fp : List Addr), PG (X.blk s H sp (compEnvC sp cl C X.env) fp) t1 g1) (he : ∀ (s : Shared) (H : Hp) (C : Addr) (cl : List (PySem.Str × Addr)) (fp : List Addr), PE (X.blk s H sp (compEnvC sp cl C X.env) fp) e te) (f0 : ∀ x, foldedSetIterable i0 X.env x = pure x := by intro _; rfl) (f1 : ∀ env x, foldedSetIterable i1 env x = pure x := by intro _ _; rfl) :
    PE X (two e t0 i0 t1 i1 sp ps) (tSc2 X.w wi g wi1 g1 te (own.map (·.2)) vs1) := by
  refine ⟨fun pins s σ H Q I h => ?_⟩
  rw [PpSet.eval_SetComp]
  refine core hc hN I hi ok hv hg hi1 hg1 he f0 f1 h fun D C s' m H' I' q hn f => ⟨m, hn, fun h'' sb => ⟨.ref D, H', ?_, rfl, q⟩⟩
  obtain ⟨x0, x1, x2, x3, x4, x5⟩ := f
  exact I'.turned (t' := s'.toks) (fun b o hb z => (sb.2 b hb).trans z) x0 x1 x3 x4 x5
/-- y = {..}, y a local name -/
theorem ps_setSc2 {i : Nat} {y : PySem.Str} {py : Pos} {e t0 i0 t1 i1 : Expr} {sp : Scope} {own : List (PySem.Str × Nat)} {vs1 : List Nat} {ps spos : Pos} {wi wi1 : TI} {g g1 : TG} {te : TE} (hc : X.calm = true) (hN : X.N.Nodup) (hy : X.N[i]? = some y) (hyl : X.env.scope.names.lookup y = some .local)
    (hsw : swapsWith (two e t0 i0 t1 i1 sp ps) (some (.Name y py)) spos.line X.env = pure true) (hi : PI X t0 i0 wi) (ok : BlkOk X.N X.env.scope sp own) (hv : ∀ i ∈ vs1, i ∈ own.map (·.2))
    (hg : ∀ (s : Shared) (H : Hp) (C : Addr) (cl : List (PySem.Str × Addr)) (fp : List Addr), PG (X.blk s H sp (compEnvC sp cl C X.env) fp) t0 g) (hi1 : ∀ (s : Shared) (H : Hp) (C : Addr) (cl : List (PySem.Str × Addr)) (fp : List Addr), PI (X.blk s H sp (compEnvC sp cl C X.env) fp) t1 i1 wi1) (hg1 : ∀ (s : Shared) (H : Hp) (C : Addr) (cl : List (PySem.Str × Addr)) (fp : List Addr), PG (X.blk s H sp (compEnvC sp cl C X.env) fp) t1 g1) (he : ∀ (s : Shared) (H : Hp) (C : Addr) (cl : List (PySem.Str × Addr)) (fp : List Addr), PE (X.blk s H sp (compEnvC sp cl C X.env) fp) e te) (f0 : ∀ x, foldedSetIterable i0 X.env x = pure x := by intro _; rfl) (f1 : ∀ env x, foldedSetIterable i1 env x = pure x := by intro _ _; rfl) :
    PS X (.Assign [.Name y py] (two e t0 i0 t1 i1 sp ps) spos) (tAsg (tSc2 X.w wi g wi1 g1 te (own.map (·.2)) vs1) (gName i)) := by
  refine ⟨fun pins s σ H D I h => ?_⟩
  rw [exec_Assign_Name_used _ _ _ _ hsw]
  refine wpAny_bind (wpAny_standAt (wpAny_bind ?_))
  show wpAny _ X.A (do let _ ← comprehension (two e t0 i0 t1 i1 sp ps) sp X.env (firstIterPos [⟨t0, i0, [], 0⟩, ⟨t1, i1, [], 0⟩] ps) (newSet (.type "set")) false (eval i0 X.env) (some (assign (.Name y py) X.env))) _ _ s
  have h : tSc2 X.w wi g wi1 g1 te (own.map (·.2)) vs1 σ H (fun x H1 => gName i x σ H1 D.nx) := h
  refine wpAny_bind (thn (core (Qf := fun _ s' => SP X pins D .next s') hc hN I hi ok hv hg hi1 hg1 he f0 f1 h fun L C s' m H' I' q hn f => ?_) fun _ s' hq => wpAny_pure (wpAny_pure hq))
  show wpAny _ _ (assign (.Name y py) X.env (.ref L)) _ _ _
  refine wpAny_assign_Name (store_ok2 (v := V.ref L) I' hN hy (.inl hyl) rfl (fun s2 I2 ⟨a, sb, ha⟩ => ?_) (.inr hyl))
  obtain ⟨x0, x1, x2, x3, x4, x5⟩ := f
  have ne : C ≠ a := ha.elim (fun z => by rw [z]; exact x1) fun z k => x4 y a z k.symm
  exact ⟨m, hn.sameBut sb ne, fun h3 sb3 => ⟨_, H', I2.turned (t' := s2.toks) (fun b o hb z => (sb3.2 b hb).trans z) x0 x1 x3 x4 x5, q⟩⟩
end
/-- a set comprehension that is stored at once -/
theorem sw_set {e : Expr} {gs : List Comprehension} {sp : Scope} {ps py : Pos} {y : PySem.Str} {l : Nat} {env : Env} (hk : env.scope.kind = .function) (hy : env.scope.names.lookup y = some .local) (hl : (py.line == ps.line) = true)
    (ha : (sp.names.any fun (n, k) => n == y && (k == .local || k == .cell)) = false) : swapsWith (.SetComp e gs sp ps) (some (.Name y py)) l env = pure true := by
  have hb : env.blockKind = .function := by unfold Env.blockKind; rw [hk] <;> rfl
  unfold swapsWith
  simp only [hb, show env.kindOf y = some .local from hy, ha, Expr.pos, hl]
  rfl
/-- both clauses over tuples -/
theorem sc2_tup {w : World} {K : PySem.W.Frag} {a : Addr} {xs : List V} {g g1 : TG} {wi1 : TI} {te : TE} {vs vs1 : List Nat} {σ : L2.St} {H1 : Hp} {D : Addr} {Qd : Hp → Prop} (Pv : Nat → Hp → Prop) (h0 : Pv 0 (upd H1 D (SetO w D (fun _ => false) 0)))
    (hl : ∀ i H, i ≤ xs.length → Pv i H → SqT K H a xs) (hd : ∀ H, Pv xs.length H → Qd H) (hs : ∀ i x H, xs[i]? = some x → Pv i H → g x (wipe σ vs) H fun σ2 H2 => wipe σ2 vs = wipe σ vs ∧ wi1 σ2 H2 fun J1 H4 => In1 w g1 te vs1 D (Pv (i + 1)) σ2 J1 H4) :
    ∃ W : Nat → Nat → Hp → Prop, (∃ m, W 0 m (upd H1 D (SetO w D (fun _ => false) 0))) ∧ ∀ i m H, W i m H → ((Itt K a).stop i H ∧ Qd H) ∨ ((Itt K a).go i H ∧ ∃ Nx : Hp → Prop, (∀ H', Nx H' → ∃ m', m' < m ∧ W (i + 1) m' H') ∧
      ∀ x H', (Itt K a).yld i H x H' → g x (wipe σ vs) H' fun σ2 H2 => wipe σ2 vs = wipe σ vs ∧ wi1 σ2 H2 fun J1 H4 => In1 w g1 te vs1 D Nx σ2 J1 H4) := by
  refine ⟨fun i m H => m = xs.length - i ∧ i ≤ xs.length ∧ Pv i H, ⟨xs.length, rfl, Nat.zero_le _, h0⟩, fun i m H ⟨em, hi, p⟩ => ?_⟩
  subst em
  have q := hl i H hi p
  rcases Nat.lt_or_ge i xs.length with lt | ge
  · refine .inr ⟨⟨xs, xs[i], q, by simp [lt]⟩, Pv (i + 1), fun H' p' => ⟨xs.length - (i + 1), by omega, rfl, lt, p'⟩, ?_⟩
    rintro x H' ⟨rfl, y⟩
    exact hs i x _ (y xs q) p
  · have ei : i = xs.length := by omega
    subst ei
    exact .inl ⟨⟨xs, q, Nat.le_refl _⟩, hd H p⟩
theorem in1_tup {w : World} {K : PySem.W.Frag} {a : Addr} {xs : List V} {g1 : TG} {te : TE} {vs1 : List Nat} {σ2 : L2.St} {H4 : Hp} {D : Addr} {Nx : Hp → Prop} (Pv : Nat → Hp → Prop) (h0 : Pv 0 H4) (hl : ∀ i H, i ≤ xs.length → Pv i H → SqT K H a xs) (hd : ∀ H, Pv xs.length H → Nx H)
    (hs : ∀ i x H, xs[i]? = some x → Pv i H → g1 x (wipe σ2 vs1) H fun σ3 H5 => wipe σ3 vs1 = wipe σ2 vs1 ∧ te σ3 H5 fun y H7 => ∃ (c : Int) (S : Int → Bool) (n : Nat), y = .int c ∧ H7 D = some (SetO w D S n) ∧ n + 1 < scanBound ∧
      Pv (i + 1) (upd H7 D (SetO w D (fun j => S j || decide (j = c)) (if S c = true then n else n + 1)))) : In1 w g1 te vs1 D Nx σ2 (Itt K a) H4 := by
  refine ⟨fun i m H => m = xs.length - i ∧ i ≤ xs.length ∧ Pv i H, ⟨xs.length, rfl, Nat.zero_le _, h0⟩, fun i m H ⟨em, hi, p⟩ => ?_⟩
  subst em
  have q := hl i H hi p
  rcases Nat.lt_or_ge i xs.length with lt | ge
  · refine .inr ⟨⟨xs, xs[i], q, by simp [lt]⟩, Pv (i + 1), fun H' p' => ⟨xs.length - (i + 1), by omega, rfl, lt, p'⟩, ?_⟩
    rintro x H' ⟨rfl, y⟩
    exact hs i x _ (y xs q) p
  · have ei : i = xs.length := by omega
    subst ei
    exact .inl ⟨⟨xs, q, Nat.le_refl _⟩, hd H p⟩
/-! ### the least letter that a word lacks -/
def frI (ns : List Int) : Nat → Nat
  | 0 => 0
  | i + 1 => if (frI ns i : Int) ∈ ns then frI ns i + 1 else frI ns i
def fr (ns : List Int) : Int := (frI ns ns.length : Nat)
theorem holes : ∀ (n : Nat) (ns : List Int), (∀ j : Nat, j < n → (j : Int) ∈ ns) → n ≤ ns.length
  | 0, _, _ => Nat.zero_le _
  | n + 1, ns, h => by
    have m := h n (Nat.lt_succ_self n)
    have z := holes n (ns.erase (n : Int)) fun j hj => (List.mem_erase_of_ne (by omega)).mpr (h j (by omega))
    rw [List.length_erase_of_mem m] at z
    have := List.length_pos_of_mem m
    omega
/-- as far as all smaller ones are there, one step leads one on -/
theorem frI_up {ns : List Int} : ∀ i : Nat, (∀ j : Nat, j < i → (j : Int) ∈ ns) → frI ns i = i
  | 0, _ => rfl
  | i + 1, h => by
    have e := frI_up i fun j hj => h j (by omega)
    show (if (frI ns i : Int) ∈ ns then frI ns i + 1 else frI ns i) = _
    rw [e, if_pos (h i (Nat.lt_succ_self i))]
theorem frI_stay {ns : List Int} {i : Nat} (h : ¬ (frI ns i : Int) ∈ ns) : ∀ k : Nat, frI ns (i + k) = frI ns i
  | 0 => rfl
  | k + 1 => by
    have e := frI_stay h k
    show (if (frI ns (i + k) : Int) ∈ ns then frI ns (i + k) + 1 else frI ns (i + k)) = _
    rw [e, if_neg h]
theorem fr_of {ns : List Int} {i : Nat} (h : ∀ j : Nat, j < i → (j : Int) ∈ ns) (hi : ¬ (i : Int) ∈ ns) : fr ns = i := by
  have e := frI_up i h
  have le := holes i ns h
  have z := frI_stay (ns := ns) (i := i) (by rw [e]; exact hi) (ns.length - i)
  rw [show i + (ns.length - i) = ns.length by omega, e] at z
  unfold fr
  rw [z]
theorem fr_not (ns : List Int) : ¬ fr ns ∈ ns := by
  have key : ∀ n : Nat, (∀ j : Nat, j < n → (j : Int) ∈ ns) ∨ ∃ i, (∀ j : Nat, j < i → (j : Int) ∈ ns) ∧ ¬ (i : Int) ∈ ns := fun n => by
    induction n with
    | zero => exact .inl fun j h => absurd h (Nat.not_lt_zero _)
    | succ n ih =>
      rcases ih with h | h
      · by_cases q : (n : Int) ∈ ns
        · exact .inl fun j hj => (Nat.lt_succ_iff_lt_or_eq.mp hj).elim (h j) fun e => by rw [e]; exact q
        · exact .inr ⟨n, h, q⟩
      · exact .inr h
  rcases key (ns.length + 1) with h | ⟨i, h, q⟩
  · have := holes _ _ h
    omega
  · rw [fr_of h q]
    exact q
theorem fr_nn (ns : List Int) : 0 ≤ fr ns := Int.natCast_nonneg _
theorem frI_le (ns : List Int) : ∀ i : Nat, frI ns i ≤ i
  | 0 => Nat.le_refl _
  | i + 1 => by
    have := frI_le ns i
    show (if (frI ns i : Int) ∈ ns then frI ns i + 1 else frI ns i) ≤ _
    split <;> omega
/-- same letters: same least one that lacks -/
theorem fr_congr {a b : List Int} (h : ∀ x, x ∈ a ↔ x ∈ b) : fr a = fr b := by
  have up : ∀ n : Nat, n ≤ frI a a.length → ∀ j : Nat, j < n → (j : Int) ∈ a := fun n hn j hj => by
    refine Classical.byContradiction fun c => ?_
    have ex : ∃ i, i ≤ j ∧ (∀ k : Nat, k < i → (k : Int) ∈ a) ∧ ¬ (i : Int) ∈ a := by
      clear hn hj
      induction j using Nat.strongRecOn with
      | _ j ih =>
        by_cases q : ∀ k : Nat, k < j → (k : Int) ∈ a
        · exact ⟨j, Nat.le_refl _, q, c⟩
        · have ⟨k, hk, hc⟩ : ∃ k, k < j ∧ ¬ (k : Int) ∈ a := Classical.byContradiction fun z => q fun k hk => Classical.byContradiction fun y => z ⟨k, hk, y⟩
          obtain ⟨i, h1, h2, h3⟩ := ih k hk hc
          exact ⟨i, by omega, h2, h3⟩
    obtain ⟨i, h1, h2, h3⟩ := ex
    have z := fr_of h2 h3
    unfold fr at z
    omega
  have e : fr b = (frI a a.length : Nat) := fr_of (fun j hj => (h _).mp (up _ (Nat.le_refl _) j hj)) fun c => fr_not a ((h _).mpr c)
  rw [e] <;> rfl
/-- what is walked, in a block -/
theorem piTK {X : Cx} {K : PySem.W.Frag} {tg e : Expr} {te : TE} (h : X.K = K) (he : PE X e te) : PI X tg e (iTup K te) := by subst h; exact pi_tup he
theorem piLK {X : Cx} {K : PySem.W.Frag} {tg e : Expr} {te : TE} (h : X.K = K) (he : PE X e te) : PI X tg e (iList K te) := by subst h; exact pi_list he
/-- the int in a slot -/
def slotN (σ : L2.St) (i : Nat) : Nat := match σ[i]? with
  | some (some (L2.V.int k)) => k.toNat
  | _ => 0
theorem frI_in {ns : List Int} {i : Nat} (h : (frI ns i : Int) ∈ ns) : frI ns (i + 1) = frI ns i + 1 := if_pos h
theorem frI_out {ns : List Int} {i : Nat} (h : ¬ (frI ns i : Int) ∈ ns) : frI ns (i + 1) = frI ns i := if_neg h
end Kc

set_option Elab.async false
set_option linter.all false
set_option maxRecDepth 100000
set_option maxHeartbeats 4000000
/-! star parameters and exceptions: a def f(a, .., *v) that may raise; its call within a try; a raise that goes through a def -/
namespace Kd
open PySem PySem.Spec PyProof.Rows L2 Lk StX
section
variable {P : Program} {w : World} {K : PySem.W.Frag} {mg : Str → Option Value} {base : Heap} {x : Str} {st : Stmt} {f : Addr} {fd : FuncData} {N ps : List Str} {pv : Str} {k : Nat} {sp : Sp}
theorem okSX (F : Hk.Fn K x st [] f fd) (S : FnScope N (ps ++ [pv]) (defScope st))
    (hb : ∀ (kV doc pm : Value) (an : Option Addr) (cdv ct : Value) (us rest : List Value), us.length = ps.length → bindArgs (PySem.W.fnOf x x (defArgs st) (defBody st) (defScope st) .none kV doc pm an cdv ct) ⟨us ++ rest, []⟩ = (newTuple rest >>= fun t => pure (ps.zip us ++ [(pv, t)])))
    (hbody : ∀ (cdv : Value) (A : Around) (outer : List Env) (s : Shared) (H : Hp) (vs : List V) (Q : VK) (E : XK), Room k (A.deeper (envOfC x (defScope st) s.heap.objs.size f cdv)) → sp vs H Q E →
      ∃ t, PSs (cxOf (L2.CX P w) P w K mg base N x (defScope st) f cdv A outer s H E) (defBody st) t ∧ t { nx := fun _ H' => Q .non H', rt := Q } (start N vs) H) : L2.FnR P w K mg base (L2.CX P w) (k + 1) f (spStar ps.length sp) := by
  obtain ⟨oc, od, dV, kV, doc, pm, an, cdv, ct, osl, rfl, lk, hcd, hD, _⟩ := F.ex
  have e : dV = .none := hD.elim (fun h => h.2) fun h => absurd rfl h.1
  subst e
  exact fn_star lk hcd S cxUp (fun us rest hl => hb kV doc pm an cdv ct us rest hl) fun A outer s H vs Q E hr hsp => hbody cdv A outer s H vs Q E hr hsp
end
/-- f(e, ..) of such a def within a try: what is raised is wished for at the caller's slots -/
def tCallRS (sp : Sp) (E : L2.St → XK) (t : TA) : TE := fun σ H Q => t σ H fun vs H1 => sp vs H1 Q (E σ)
theorem pe_callRS {X : Cx} {CX : CXT} {k : Nat} {f : Addr} {sp : Sp} {E : L2.St → XK} {x : Str} {e : Expr} {es : List Expr} {t : TA} {p pos : Pos} (F : L2.FnR X.prog X.w X.K X.mg X.base CX k f sp) (hr : Room k X.A) (hg : Gl X x) (hm : X.mg x = some (.ref f)) (hk : PySem.W.keepIn X.K (.ref f) = true) (hx : ∀ σ, PassesAt CX X σ (E σ)) (ha : PA X (e :: es) t)
    (hd : (x == ("__debug__" : Str)) = false := by decide) (he : starEach (e :: es) X.env = (false, eval e X.env) :: starEach es X.env := by rfl) (hpl : (backTo pos (starEach es X.env)).any (·.1) = false := by rfl) :
    PE X (.Call (.Name x p) (e :: es) [] pos) (tCallRS sp E t) := by
  refine ⟨fun pins s σ H Q I h => wpAny_Call_Name_kw (ld_glob I hg hm ?_ hd)⟩
  refine PySem.W.callWith_K (h₀ := X.base) I.ok.mod.kin hk (thn (ha.run pos pins s σ H _ I h) fun us s1 ⟨vs, H1, I1, r, q⟩ => ⟨I1.kIn, wpAny_call ?_⟩) he hpl
  refine codeAny_mono (F X.A X.stack s1 H1 us vs Q (E σ) hr I1.env0 r q) fun r s' hq => ?_
  rcases r with u | fl
  · exact hx σ pins H1 s1 u s' I1 hq
  · cases fl with
    | ret u => exact I1.after hq
    | _ => exact False.elim hq
/-- a def that lets out what its callee raises -/
theorem through {P : Program} {w : World} {K : PySem.W.Frag} {mg : Str → Option Value} {base : Heap} {N : List Str} {x : Str} {sc : Scope} {f : Addr} {cdv : Value} {A : Around} {outer : List Env} {s : Shared} {H : Hp} {E : XK}
    (tk : Takes (cxOf (L2.CX P w) P w K mg base N x sc f cdv A outer s H E) (fun cls d _ H => E cls d H)) : Passes (L2.CX P w) (cxOf (L2.CX P w) P w K mg base N x sc f cdv A outer s H E) E := passes_call tk fun _ _ _ _ h => h
end Kd

set_option Elab.async false
set_option linter.all false
set_option maxRecDepth 100000
set_option maxHeartbeats 4000000
/-! enumerate(tuple); isinstance of data by a pair of types -/
namespace PySem
section
variable {prog : Program} {w : World} {A : Around} {E : Value → Shared → Prop} {s : Shared}
theorem kt_next {jt tp : Addr} {i : Nat} {its : Array Value} {x : Value} {Q : Value → Shared → Prop} (hj : s.heap.IsTupleIter jt tp i) (ht : s.heap.IsTuple tp its) (hx : its[i]? = some x)
    (hQ : ∀ h', h'.IsTupleIter jt tp (i + 1) → Heap.SameBut jt s.heap h' → Q x { s with heap := h' }) : wpAny (model prog w) A (Builtin.SmallTypes.nextOf (.ref jt)) Q E s := by
  obtain ⟨oj, ej, cj, dj⟩ := id hj
  obtain ⟨ot, et, _, nt, dt⟩ := ht
  unfold Builtin.SmallTypes.nextOf
  refine wpAny_bind (wpAny_callSpecial?_slot (name := Str.ofString "__next__") hj.typeIs F.slot_tuple_iterator_next (wpAny_call_entry F.slot_tuple_iterator_next hj.typeIs F.entry_tuple_iterator_next ?_ (F.args_tuple_iterator_next_1 _)))
  show wpAny _ _ (field (.ref jt) 0 >>= _) _ _ s; refine wpAny_bind (wpAny_field ej dj (x := .ref tp) rfl ?_)
  show wpAny _ _ (if (Value.ref tp == Value.none) = true then _ else _) _ _ s; rw [if_neg (show ¬ ((Value.ref tp == Value.none) = true) from Bool.false_ne_true)]
  show wpAny _ _ (field (.ref jt) 1 >>= _) _ _ s; refine wpAny_bind (wpAny_field ej dj (x := .int i 0) rfl ?_)
  show wpAny _ _ (seqItems? (.ref tp) >>= _) _ _ s; refine wpAny_bind (wpAny_seqItems et dt ?_)
  simp only [Int.toNat_natCast, hx]
  refine wpAny_bind (wpAny_setField ej dj (by simp) (wpAny_pure ⟨x, rfl, wpAny_pure (hQ _ ⟨_, Heap.get?_update_self _ ej (Obj.isFreed_of_fields (Obj.data_mapFields dj _)), (Obj.cls_mapFields ..).trans cj, ?_⟩ (Heap.SameBut.update ..))⟩))
  rw [Obj.data_mapFields dj]; simp [rawInt]
theorem kt_end {jt tp : Addr} {i : Nat} {its : Array Value} {Q : Value → Shared → Prop} (hh : A.handled = none) (hj : s.heap.IsTupleIter jt tp i) (ht : s.heap.IsTuple tp its) (hx : its[i]? = none)
    (hE : ∀ h' e, Heap.ExtBut jt s.heap h' → (∃ o, h'.get? e = some o ∧ o.cls = .type "StopIteration") → E (.ref e) { s with heap := h' }) : wpAny (model prog w) A (Builtin.SmallTypes.nextOf (.ref jt)) Q E s := by
  obtain ⟨oj, ej, cj, dj⟩ := id hj
  obtain ⟨ot, et, _, nt, dt⟩ := ht
  unfold Builtin.SmallTypes.nextOf
  refine wpAny_bind (wpAny_callSpecial?_slot (name := Str.ofString "__next__") hj.typeIs F.slot_tuple_iterator_next (wpAny_call_entry F.slot_tuple_iterator_next hj.typeIs F.entry_tuple_iterator_next ?_ (F.args_tuple_iterator_next_1 _)))
  show wpAny _ _ (field (.ref jt) 0 >>= _) _ _ s; refine wpAny_bind (wpAny_field ej dj (x := .ref tp) rfl ?_)
  show wpAny _ _ (if (Value.ref tp == Value.none) = true then _ else _) _ _ s; rw [if_neg (show ¬ ((Value.ref tp == Value.none) = true) from Bool.false_ne_true)]
  show wpAny _ _ (field (.ref jt) 1 >>= _) _ _ s; refine wpAny_bind (wpAny_field ej dj (x := .int i 0) rfl ?_)
  show wpAny _ _ (seqItems? (.ref tp) >>= _) _ _ s; refine wpAny_bind (wpAny_seqItems et dt ?_)
  simp only [Int.toNat_natCast, hx]
  refine wpAny_bind (wpAny_rule (wpAny_bind (wpAny_setField ej dj (by simp) ?_)))
  show wpAny _ _ (newExc (.type "StopIteration") [] >>= _) _ _ _; refine wpAny_bind ?_
  simp only [newExc, newTuple]
  refine wpAny_bind (wpAny_newObj_type (wpAny_bind (m := firstArgMember _ _) (wpAny_of_eq (a := Value.none) (by first | rfl | (simp only [firstArgMember]; rfl)) (wpAny_newObj_type ?_ (by size_fits)))) (by size_fits))
  simp only [raiseNew]
  refine wpAny_bind (wpAny_handled ?_); first | rw [show A.in1.handled = none from hh] | rw [hh]
  exact wpAny_bind (wpAny_pure (wpAny_throw (hE _ _ (((Heap.SameBut.update ..).extBut.push _).push _) ⟨_, Heap.get?_push_size _ rfl, rfl⟩)))
end
theorem kt_over {prog : Program} {w : World} {A : Around} {E : Value → Shared → Prop} {s : Shared} {e jt tp : Addr} {i : Nat} {k : Int} {its : Array Value} {old : Value} {Q : Option Value → Shared → Prop} (hh : A.handled = none) (he : IsEnum s.heap e jt k old) (hj : s.heap.IsTupleIter jt tp i) (ht : s.heap.IsTuple tp its) (hx : its[i]? = none)
    (hQ : ∀ h', Heap.ExtBut jt s.heap h' → Q none { s with heap := h' }) : wpAny (model prog w) A (pyNext (.ref e)) Q E s := by
  have hT : s.TypeIs (.ref e) "enumerate" := ⟨_, he, rfl⟩
  unfold pyNext
  refine wpAny_bind (wpAny_attempt (wpAny_callSpecial?_slot (name := Str.ofString "__next__") hT F.slot_enumerate_next (wpAny_call_entry F.slot_enumerate_next hT F.entry_enumerate_next ?_ (F.args_enumerate_next_1 _))))
  show wpAny _ _ (field (.ref e) 2 >>= _) _ _ _; refine wpAny_bind (wpAny_field he rfl (x := .ref jt) rfl ?_)
  refine wpAny_bind (kt_end hh hj ht hx fun h' x q1 q2 => ?_)
  obtain ⟨o, ho, hc⟩ := q2
  exact wpAny_bind (wpAny_isInstance (T := "StopIteration") (b := true) ⟨o, ho, hc⟩ isSubtype_stop (wpAny_pure (hQ _ q1)))
theorem kt_draws {prog : Program} {w : World} {A : Around} (hh : A.handled = none) (jt tp : Addr) (ne : tp ≠ jt) (its : Array Value) : Draws prog w A jt [jt, tp] its.size (fun i v => its[i]? = some v) (fun i h => h.IsTupleIter jt tp i ∧ h.IsTuple tp its) where
  live := fun _ _ st => let ⟨o, ho, _⟩ := st.1; ⟨o, ho⟩
  frame := fun _ _ _ st k => ⟨st.1.at fun o e => k jt (by simp) o e, st.2.at fun o e => k tp (by simp) o e⟩
  item := fun i s Q E hi st hQ => kt_next st.1 st.2 (x := its[i]) (by simp [hi]) fun h' j' sb => hQ _ h' s.toks (by simp [hi]) ⟨j', st.2.extBut sb.extBut ne⟩ sb
  done := fun s Q E st hE => kt_end hh st.1 st.2 (by simp) hE
open AutoSeq1 (wpAny_loadPart') in
theorem kt_make (tp : Addr) (its : Array Value) (n : Nat) (dct : Option Addr) (sl : Array (Option Value)) :
    Meets (Builtin.«enumerate.__new__» ⟨[.type "enumerate", .ref tp], []⟩) (fun _ R s => s.heap.get? tp = some { cls := .type "tuple", dict := dct, data := .seq its n, slots := sl } ∧
      R (.ok (.ret (.ref (s.heap.push { cls := .type "tuple_iterator", data := .fields #[.ref tp, .int 0 0] }).objs.size))) { s with heap := (s.heap.push { cls := .type "tuple_iterator", data := .fields #[.ref tp, .int 0 0] }).push { cls := .type "enumerate", data := .fields #[.none, .bool false, .ref s.heap.objs.size, rawInt 0, .none, .none] } }) :=
  .of_wp fun prog w A R s h => by
    obtain ⟨hp, g, d, tk, os⟩ := s; obtain ⟨hl, h⟩ := h
    have hs := sub_enumerate
    have hT : Heap.IsTuple (Shared.heap ⟨hp, g, d, tk, os⟩) tp its := ⟨_, hl, rfl, n, rfl⟩
    wp_walk using wpAny_loadPart' hl
    refine wpAny_stack_any fun st => wpAny_pure ?_
    split
    · rename_i c _ _ _ _ _
      cases (c == Value.type "enumerate") <;> (wp_walk using wpAny_loadPart' hl, wpAny_pyIter_tuple hT; exact ⟨_, rfl, h⟩)
    · wp_walk using wpAny_loadPart' hl, wpAny_pyIter_tuple hT; exact ⟨_, rfl, h⟩
theorem kt_call {prog : Program} {w : World} {A : Around} {E : Value → Shared → Prop} {s : Shared} {tp : Addr} {its : Array Value} {Q : Value → Shared → Prop} (hT : s.heap.IsTuple tp its)
    (h : ∀ h', IsEnum h' (s.heap.objs.size + 1) s.heap.objs.size 0 .none → h'.IsTupleIter s.heap.objs.size tp 0 → (∀ b o, s.heap.get? b = some o → h'.get? b = some o) → Q (.ref (s.heap.objs.size + 1)) { s with heap := h' }) :
    wpAny (model prog w) A (call (.type "enumerate") [.ref tp]) Q E s := by
  obtain ⟨⟨c, dct, dt, sl⟩, ht, hc, n, hd⟩ := hT
  cases (show c = .type "tuple" from hc)
  cases (show dt = .seq its n from hd)
  refine callType_new F.called_enumerate (by decide) (F.typeCall_enumerate_1 _) (F.newCall_enumerate_1 _) (fun obj => F.args_object_init_2 obj _) F.entry_enumerate_new (kt_make tp its n dct sl) ⟨ht, ?_⟩
  have hz : (s.heap.push { cls := .type "tuple_iterator", data := .fields #[.ref tp, .int 0 0] }).objs.size = s.heap.objs.size + 1 := Heap.size_push ..
  show _ ∧ _; rw [hz]
  have he := Heap.get?_push_size (s.heap.push { cls := .type "tuple_iterator", data := .fields #[.ref tp, .int 0 0] }) (o := { cls := .type "enumerate", data := .fields #[.none, .bool false, .ref s.heap.objs.size, rawInt 0, .none, .none] }) rfl
  rw [hz] at he
  exact ⟨⟨_, he, rfl⟩, h _ he ⟨_, Heap.get?_push_of_some _ (Heap.get?_push_size _ rfl), rfl, rfl⟩ fun b o x => Heap.get?_push_of_some _ (Heap.get?_push_of_some _ x)⟩
end PySem
namespace Kc
open PySem PySem.Spec PyProof.Rows L2 Lk
/-- the tuple at a, each item in a new pair -/
def ItT (K : PySem.W.Frag) (a : Addr) : It :=
  ⟨fun i H => ∃ (xs : List V) (x : V), SqT K H a xs ∧ xs[i]? = some x, fun i H v H' => ∃ T x, v = .ref T ∧ H T = none ∧ H' = upd H T (.tup [.int (i : Nat), x]) ∧ ∀ xs, SqT K H a xs → xs[i]? = some x, fun i H => ∃ xs : List V, SqT K H a xs ∧ xs.length ≤ i⟩
theorem turn_en {P : Program} {w : World} {K : PySem.W.Frag} {elts : List Expr} {kk : Nat} {tpos : Pos} (a e it : Addr) (nai : a ≠ it) (nae : a ≠ e) :
    Turn P w K (.Tuple elts kk tpos) (ItT K a) [e, it] e (fun i h => (∃ old, IsEnum h e it ((i : Nat) : Int) old) ∧ h.IsTupleIter it a i ∧ e ≠ it) where
  mem := by simp
  obj := fun i h st b hb => by
    obtain ⟨⟨old, he⟩, ⟨o, ho, hc, hd⟩, _⟩ := st
    rcases (show b = e ∨ b = it by simpa using hb) with rfl | rfl
    · exact ⟨_, he, fun v q => nomatch q⟩
    · exact ⟨o, ho, fun v q => by rw [hd] at q; cases q⟩
  keep := fun i h h' st k => let ⟨⟨old, he⟩, hi, ne⟩ := st; ⟨⟨old, k e (by simp) _ he⟩, hi.at fun o q => k it (by simp) o q, ne⟩
  item := by
    intro X hP hw hK hc i pins s σ H E I hf st hg
    subst hP hw hK
    obtain ⟨⟨old, he⟩, hit, ne⟩ := st
    obtain ⟨xs, x, hq, hx⟩ := hg
    obtain ⟨its, rv, p, hz⟩ := I.tuple hq
    obtain ⟨u, hu, ru⟩ := rv.get hx
    have le1 : e < s.heap.objs.size := Heap.lt_size he
    have le2 : it < s.heap.objs.size := by obtain ⟨_, q, _⟩ := hit; exact Heap.lt_size q
    have hiu : its.toArray[i]? = some u := by simpa using hu
    have hil : i < its.toArray.size := (Array.getElem?_eq_some_iff.mp hiu).1
    refine wpAny_pyNext_enum_itemD (kt_draws (A := X.A.in1) (by exact I.ok.hd hc) it a nai its.toArray) he ⟨hit, p⟩ hil ne (by simp [ne, Ne.symm nae]) fun v h' tk hv ho st' hT hsz hk => ?_
    obtain rfl : v = u := Option.some.inj (hv.symm.trans hiu)
    refine ⟨_, rfl, wpAny_letOwnedTupleGo_enum (s := { s with heap := h', toks := tk + 1 }) ho fun h'' he' sb => ?_⟩
    have hT2 : h''.get? s.heap.objs.size = some { cls := .type "tuple", data := .seq #[.int i tk, v] } := (sb.2 _ (Nat.ne_of_gt le1)).trans hT
    have new : ObjOk X.prog X.w (upd H s.heap.objs.size (.tup [.int (i : Nat), x])) h'' s.heap.objs.size (.tup [.int (i : Nat), x]) := ⟨by show 2 ≤ sizeLine; decide, [.int i tk, v], .cons ⟨_, rfl⟩ (.cons ru .nil), ⟨_, hT2, rfl, _, rfl⟩⟩
    have I1 : Inv X pins σ (upd H s.heap.objs.size (.tup [.int (i : Nat), x])) { s with heap := h'', toks := tk + 1 } :=
      I.turnedNew (ch := [e, it]) (fun b ob hb q => (sb.2 b (fun z => hb (by simp [z]))).trans (hk b ob (fun z => hb (by simp [z])) (fun z => hb (by simp [z])) q)) hf (Nat.le_refl _) new
    refine ⟨.ref s.heap.objs.size, _, I1, rfl, ⟨_, x, rfl, I.hok.fresh (Nat.le_refl _), rfl, fun ys hy => by rw [I.tuple_inj hy hq]; exact hx⟩, ⟨⟨v, ?_⟩, st'.1.at fun o q => (sb.2 it (Ne.symm ne)).trans q, ne⟩, fun b hb => ?_⟩
    · rw [show ((i + 1 : Nat) : Int) = (i : Int) + 1 by omega]
      exact he'
    · have lb : b < s.heap.objs.size := by rcases (show b = e ∨ b = it by simpa using hb) with rfl | rfl <;> assumption
      rw [upd_ne (Nat.ne_of_lt lb)]
      exact (hf b hb).1
  done := by
    intro X hP hw hK hc i pins s σ H E I hf st hg
    subst hP hw hK
    obtain ⟨⟨old, he⟩, hit, ne⟩ := st
    obtain ⟨xs, hq, hx⟩ := hg
    obtain ⟨its, rv, p, hz⟩ := I.tuple hq
    obtain ⟨f0, f1, f2, f3, f4, f5⟩ := hf it (by simp)
    have hl := rv.length
    exact kt_over (I.ok.hd hc) he hit p (by simp; omega) fun h' eb => ⟨rfl, I.turned (t' := s.toks) (fun b o hb q => eb b o hb q) f0 f1 f3 f4 f5⟩
  self := fun A i s Q E st h => let ⟨⟨_, he⟩, _⟩ := st; wpAny_pyIter_enum he h
def iEnT (K : PySem.W.Frag) (ta : TA) : TI := fun σ H R => ta σ H fun vs H1 => ∃ a xs, vs = [.ref a] ∧ SqT K H1 a xs ∧ R (ItT K a) H1
theorem pi_enT {X : Cx} {e : Expr} {ta : TA} {p pos tpos : Pos} {elts : List Expr} {kk : Nat} (hg : Gl X "enumerate") (hm : X.mg "enumerate" = none) (ha : PA X [e] ta) (hs : starEach [e] X.env = [(false, eval e X.env)] := by rfl) :
    PI X (.Tuple elts kk tpos) (.Call (.Name "enumerate" p) [e] [] pos) (iEnT X.K ta) := by
  refine ⟨fun pins s σ H R I h => Call_ (ld_blt I hg hm boot_enumerate (PyProof.Rows.callWith_type1 (thn (ha.run pos pins s σ H _ I h) fun us s1 ⟨vs, H1, I1, r1, q1⟩ => ?_) hs rfl))⟩
  obtain ⟨a, xs, ex, hq, q⟩ := q1
  subst ex
  cases r1 with
  | cons r rr =>
    cases rr
    cases r
    obtain ⟨its, rv, p', hz⟩ := I1.tuple hq
    have la : a < s1.heap.objs.size := by obtain ⟨o, ho, _⟩ := p'; exact Heap.lt_size ho
    refine kt_call p' fun h' he hit hk => wpAny_pyIter_enum he ?_
    refine ⟨s1.heap.objs.size + 1, [s1.heap.objs.size + 1, s1.heap.objs.size], _, _, H1, rfl, I1.kept (t' := s1.toks) hk, turn_en a (s1.heap.objs.size + 1) s1.heap.objs.size (Nat.ne_of_lt la) (Nat.ne_of_lt (Nat.lt_succ_of_lt la)), ⟨⟨.none, he⟩, hit, Nat.succ_ne_self _⟩, fun b hb => ?_, q⟩
    have hle : s1.heap.objs.size ≤ b := by rcases (show b = s1.heap.objs.size + 1 ∨ b = s1.heap.objs.size by simpa using hb) with rfl | rfl <;> omega
    exact I1.fpOk hle (I1.hok.fresh hle)
/-- for i, x in enumerate(list or tuple) -/
theorem for_en {K : PySem.W.Frag} {a : Addr} {xs : List V} {g : TG} {tb : TS} {D : Ends} {σ : L2.St} {H : Hp} (Pv : Nat → L2.St → Hp → Prop) (h0 : Pv 0 σ H) (hl : ∀ i σ H, i ≤ xs.length → Pv i σ H → SqL K H a xs)
    (hs : ∀ i x σ H T, xs[i]? = some x → Pv i σ H → H T = none → g (.ref T) σ (upd H T (.tup [.int (i : Nat), x])) fun σ2 H2 => tb { D with nx := Pv (i + 1), ct := Pv (i + 1), bk := D.nx } σ2 H2) (hd : ∀ σ H, Pv xs.length σ H → D.nx σ H) :
    ∃ W : Nat → Nat → L2.St → Hp → Prop, (∃ m, W 0 m σ H) ∧ ∀ i m σ H, W i m σ H → ((Ite K a).stop i H ∧ D.nx σ H) ∨ ((Ite K a).go i H ∧ ∃ N : L2.St → Hp → Prop, (∀ σ' H', N σ' H' → ∃ m', m' < m ∧ W (i + 1) m' σ' H') ∧ ∀ x H', (Ite K a).yld i H x H' → g x σ H' fun σ2 H2 => tb { D with nx := N, ct := N, bk := D.nx } σ2 H2) := by
  refine ⟨fun i m σ H => m = xs.length - i ∧ i ≤ xs.length ∧ Pv i σ H, ⟨xs.length, rfl, Nat.zero_le _, h0⟩, fun i m σ H ⟨em, hi, p⟩ => ?_⟩
  subst em
  have q := hl i σ H hi p
  rcases Nat.lt_or_ge i xs.length with lt | ge
  · refine .inr ⟨⟨xs, xs[i], q, by simp [lt]⟩, Pv (i + 1), fun σ' H' p' => ⟨xs.length - (i + 1), by omega, rfl, lt, p'⟩, ?_⟩
    rintro x H' ⟨T, y, rfl, nT, rfl, hy⟩
    exact hs i y σ H T (hy xs q) p nT
  · have ei : i = xs.length := by omega
    subst ei
    exact .inl ⟨⟨xs, q, Nat.le_refl _⟩, hd σ H p⟩
theorem for_enT {K : PySem.W.Frag} {a : Addr} {xs : List V} {g : TG} {tb : TS} {D : Ends} {σ : L2.St} {H : Hp} (Pv : Nat → L2.St → Hp → Prop) (h0 : Pv 0 σ H) (hl : ∀ i σ H, i ≤ xs.length → Pv i σ H → SqT K H a xs)
    (hs : ∀ i x σ H T, xs[i]? = some x → Pv i σ H → H T = none → g (.ref T) σ (upd H T (.tup [.int (i : Nat), x])) fun σ2 H2 => tb { D with nx := Pv (i + 1), ct := Pv (i + 1), bk := D.nx } σ2 H2) (hd : ∀ σ H, Pv xs.length σ H → D.nx σ H) :
    ∃ W : Nat → Nat → L2.St → Hp → Prop, (∃ m, W 0 m σ H) ∧ ∀ i m σ H, W i m σ H → ((ItT K a).stop i H ∧ D.nx σ H) ∨ ((ItT K a).go i H ∧ ∃ N : L2.St → Hp → Prop, (∀ σ' H', N σ' H' → ∃ m', m' < m ∧ W (i + 1) m' σ' H') ∧ ∀ x H', (ItT K a).yld i H x H' → g x σ H' fun σ2 H2 => tb { D with nx := N, ct := N, bk := D.nx } σ2 H2) := by
  refine ⟨fun i m σ H => m = xs.length - i ∧ i ≤ xs.length ∧ Pv i σ H, ⟨xs.length, rfl, Nat.zero_le _, h0⟩, fun i m σ H ⟨em, hi, p⟩ => ?_⟩
  subst em
  have q := hl i σ H hi p
  rcases Nat.lt_or_ge i xs.length with lt | ge
  · refine .inr ⟨⟨xs, xs[i], q, by simp [lt]⟩, Pv (i + 1), fun σ' H' p' => ⟨xs.length - (i + 1), by omega, rfl, lt, p'⟩, ?_⟩
    rintro x H' ⟨T, y, rfl, nT, rfl, hy⟩
    exact hs i y σ H T (hy xs q) p nT
  · have ei : i = xs.length := by omega
    subst ei
    exact .inl ⟨⟨xs, q, Nat.le_refl _⟩, hd σ H p⟩
/-! ### isinstance(x, (T1, T2)), x data -/
def rIsD2 (K : PySem.W.Frag) : List V → Hp → VK → Prop := fun xs H Q => ∃ (x : V) (tp : Addr) (T1 T2 : String) (d : PyData), xs = [x, .ref tp] ∧ H tp = some (.tup [.ty T1, .ty T2]) ∧ okT T1 = true ∧ okT T2 = true ∧ Dp K H x d ∧ Q (.bl (isI T1 d || isI T2 d)) H
theorem call_isD2 {X : Cx} : CallR X (.builtin "isinstance") (rIsD2 X.K) := by
  intro pins s σ H xs us Q I r h
  obtain ⟨x, tp, T1, T2, d, rfl, ht, o1, o2, hd, q⟩ := h
  refine call_isiT pins s σ H _ us Q I r ⟨x, tp, [.ty T1, .ty T2], .type (tname d), [.type T1, .type T2], isI T1 d || isI T2 d, rfl, ht, .cons (.ty T1) (.cons (.ty T2) .nil), ty_of hd, ?_, q⟩
  refine kitAny_cons (kit_ty (kit_isI o1 d)) (fun e => ?_) fun e => by rw [e] <;> rfl
  rw [e, Bool.false_or]
  exact kitAny_cons (kit_ty (kit_isI o2 d)) (fun z => by rw [z]; exact kitAny_nil) fun z => z
/-- what a callee raises leaves the def -/
theorem passT {X : Cx} {E : XK} (tk : Takes X (fun cls d _ H => E cls d H)) : Passes (L2.CX X.prog X.w) X E := passes_call tk fun _ _ _ _ h => h
/-! ### [e for a in x for b in y] -/
def In2 (g1 : TG) (tt1 : TT) (te : TE) (vs1 : List Nat) (D : Addr) (Nx : Hp → Prop) (σ2 : L2.St) (J1 : It) (H4 : Hp) : Prop := ∃ W1 : Nat → Nat → Hp → Prop, (∃ m, W1 0 m H4) ∧ ∀ j k H, W1 j k H →
  (J1.stop j H ∧ Nx H) ∨ (J1.go j H ∧ ∃ N1 : Hp → Prop, (∀ H', N1 H' → ∃ k', k' < k ∧ W1 (j + 1) k' H') ∧ ∀ x H', J1.yld j H x H' → g1 x (wipe σ2 vs1) H' fun σ3 H5 => wipe σ3 vs1 = wipe σ2 vs1 ∧ tt1 σ3 H5 fun b H6 =>
    if b = true then te σ3 H6 fun y H7 => ∃ acc, H7 D = some (.lst acc) ∧ acc.length < sizeLine ∧ N1 (upd H7 D (.lst (acc ++ [y]))) else N1 H6)
theorem lc2_tup {K : PySem.W.Frag} {a : Addr} {xs : List V} {g g1 : TG} {tt tt1 : TT} {wi1 : TI} {te : TE} {vs vs1 : List Nat} {σ : L2.St} {H1 : Hp} {D : Addr} {Qd : Hp → Prop} (Pv : Nat → Hp → Prop) (h0 : Pv 0 (upd H1 D (.lst []))) (hl : ∀ i H, i ≤ xs.length → Pv i H → SqT K H a xs) (hd : ∀ H, Pv xs.length H → Qd H)
    (hs : ∀ i x H, xs[i]? = some x → Pv i H → g x (wipe σ vs) H fun σ2 H2 => wipe σ2 vs = wipe σ vs ∧ tt σ2 H2 fun b H3 => if b = true then wi1 σ2 H3 fun J1 H4 => In2 g1 tt1 te vs1 D (Pv (i + 1)) σ2 J1 H4 else Pv (i + 1) H3) :
    ∃ W : Nat → Nat → Hp → Prop, (∃ m, W 0 m (upd H1 D (.lst []))) ∧ ∀ i m H, W i m H → ((Itt K a).stop i H ∧ Qd H) ∨ ((Itt K a).go i H ∧ ∃ Nx : Hp → Prop, (∀ H', Nx H' → ∃ m', m' < m ∧ W (i + 1) m' H') ∧
      ∀ x H', (Itt K a).yld i H x H' → g x (wipe σ vs) H' fun σ2 H2 => wipe σ2 vs = wipe σ vs ∧ tt σ2 H2 fun b H3 => if b = true then wi1 σ2 H3 fun J1 H4 => In2 g1 tt1 te vs1 D Nx σ2 J1 H4 else Nx H3) := by
  refine ⟨fun i m H => m = xs.length - i ∧ i ≤ xs.length ∧ Pv i H, ⟨xs.length, rfl, Nat.zero_le _, h0⟩, fun i m H ⟨em, hi, p⟩ => ?_⟩
  subst em
  have q := hl i H hi p
  rcases Nat.lt_or_ge i xs.length with lt | ge
  · refine .inr ⟨⟨xs, xs[i], q, by simp [lt]⟩, Pv (i + 1), fun H' p' => ⟨xs.length - (i + 1), by omega, rfl, lt, p'⟩, ?_⟩
    rintro x H' ⟨rfl, y⟩
    exact hs i x _ (y xs q) p
  · have ei : i = xs.length := by omega
    subst ei
    exact .inl ⟨⟨xs, q, Nat.le_refl _⟩, hd H p⟩
theorem in2_tup {K : PySem.W.Frag} {a : Addr} {xs : List V} {g1 : TG} {tt1 : TT} {te : TE} {vs1 : List Nat} {σ2 : L2.St} {H4 : Hp} {D : Addr} {Nx : Hp → Prop} (Pv : Nat → Hp → Prop) (h0 : Pv 0 H4) (hl : ∀ i H, i ≤ xs.length → Pv i H → SqT K H a xs) (hd : ∀ H, Pv xs.length H → Nx H)
    (hs : ∀ i x H, xs[i]? = some x → Pv i H → g1 x (wipe σ2 vs1) H fun σ3 H5 => wipe σ3 vs1 = wipe σ2 vs1 ∧ tt1 σ3 H5 fun b H6 => if b = true then te σ3 H6 fun y H7 => ∃ acc, H7 D = some (.lst acc) ∧ acc.length < sizeLine ∧ Pv (i + 1) (upd H7 D (.lst (acc ++ [y]))) else Pv (i + 1) H6) :
    In2 g1 tt1 te vs1 D Nx σ2 (Itt K a) H4 := by
  refine ⟨fun i m H => m = xs.length - i ∧ i ≤ xs.length ∧ Pv i H, ⟨xs.length, rfl, Nat.zero_le _, h0⟩, fun i m H ⟨em, hi, p⟩ => ?_⟩
  subst em
  have q := hl i H hi p
  rcases Nat.lt_or_ge i xs.length with lt | ge
  · refine .inr ⟨⟨xs, xs[i], q, by simp [lt]⟩, Pv (i + 1), fun H' p' => ⟨xs.length - (i + 1), by omega, rfl, lt, p'⟩, ?_⟩
    rintro x H' ⟨rfl, y⟩
    exact hs i x _ (y xs q) p
  · have ei : i = xs.length := by omega
    subst ei
    exact .inl ⟨⟨xs, q, Nat.le_refl _⟩, hd H p⟩
theorem in2_lst {K : PySem.W.Frag} {a : Addr} {xs : List V} {g1 : TG} {tt1 : TT} {te : TE} {vs1 : List Nat} {σ2 : L2.St} {H4 : Hp} {D : Addr} {Nx : Hp → Prop} (Pv : Nat → Hp → Prop) (h0 : Pv 0 H4) (hl : ∀ i H, i ≤ xs.length → Pv i H → SqL K H a xs) (hd : ∀ H, Pv xs.length H → Nx H)
    (hs : ∀ i x H, xs[i]? = some x → Pv i H → g1 x (wipe σ2 vs1) H fun σ3 H5 => wipe σ3 vs1 = wipe σ2 vs1 ∧ tt1 σ3 H5 fun b H6 => if b = true then te σ3 H6 fun y H7 => ∃ acc, H7 D = some (.lst acc) ∧ acc.length < sizeLine ∧ Pv (i + 1) (upd H7 D (.lst (acc ++ [y]))) else Pv (i + 1) H6) :
    In2 g1 tt1 te vs1 D Nx σ2 (Itl K a) H4 := by
  refine ⟨fun i m H => m = xs.length - i ∧ i ≤ xs.length ∧ Pv i H, ⟨xs.length, rfl, Nat.zero_le _, h0⟩, fun i m H ⟨em, hi, p⟩ => ?_⟩
  subst em
  have q := hl i H hi p
  rcases Nat.lt_or_ge i xs.length with lt | ge
  · refine .inr ⟨⟨xs, xs[i], q, by simp [lt]⟩, Pv (i + 1), fun H' p' => ⟨xs.length - (i + 1), by omega, rfl, lt, p'⟩, ?_⟩
    rintro x H' ⟨rfl, y⟩
    exact hs i x _ (y xs q) p
  · have ei : i = xs.length := by omega
    subst ei
    exact .inl ⟨⟨xs, q, Nat.le_refl _⟩, hd H p⟩
end Kc

set_option Elab.async false
set_option linter.all false
set_option maxRecDepth 100000
set_option maxHeartbeats 4000000
namespace Kx
open PySem PySem.Spec PyProof.Rows L2 Lk
def lD (ns : List Int) : PyData := .list (ns.map PyData.int)
theorem eqv_l (ns ms : List Int) : PyData.eqv (lD ns) (lD ms) = decide (ns = ms) := eqv_ints ns ms
theorem shaped_l (ns : List Int) : SeqAt.shaped (lD ns) = true := by
  obtain ⟨h1, h2⟩ := lay_ints ns
  unfold SeqAt.shaped lD
  rw [PyData.canLay0, PyData.depth, h1, h2]
  rfl
theorem l_mk {K : PySem.W.Frag} {H : Hp} {p : Addr} {ns : List Int} (h : SqL K H p (ns.map V.int)) : Dp K H (.ref p) (lD ns) := .lst h (dpa_ints ns)
/-- all([.. for x in a list]) -/
theorem all_datL {K : PySem.W.Frag} {H : Hp} {p : Addr} {xs : List V} {ds : List PyData} {f : PyData → Bool} {t0 : TE} {g : TG} {te : TE} {vs : List Nat} {σ : L2.St} {Q : VK} (ev : ∀ Q : VK, Q (.ref p) H → t0 σ H Q) (hT : SqL K H p xs) (hd : DpAll K H xs ds) (hz : ds.length ≤ 900)
    (hs : ∀ x d H' (Q' : VK), Same H H' → d ∈ ds → Dp K H' x d → (∀ H2, Same H' H2 → Q' (.bl (f d)) H2) → g x (wipe σ vs) H' fun σ2 H2 => wipe σ2 vs = wipe σ vs ∧ te σ2 H2 Q')
    (hQ : ∀ D H', Same H H' → SqL K H' D ((ds.map f).map V.bl) → Q (.ref D) H') : tLc (iList K t0) g tYes te vs σ H Q := by
  refine ev _ ⟨p, rfl, ⟨xs, hT⟩, fun D nD => ?_⟩
  have hl := dpa_len hd
  refine lc_list (K := K) (a := p) (xs := xs) (fun i H' => Same H H' ∧ H' D = some (.lst (((ds.take i).map f).map V.bl))) ⟨same_new nD, upd_same⟩ (fun i H' _ h => h.1.seq hT) ?_ ?_
  · rintro i x H' hi ⟨s1, h2⟩
    obtain ⟨d, hdi, hx⟩ := dpa_get hd hi
    refine hs x d H' (fun y H4 => ∃ acc, H4 D = some (.lst acc) ∧ acc.length < sizeLine ∧ (Same H (upd H4 D (.lst (acc ++ [y]))) ∧ (upd H4 D (.lst (acc ++ [y]))) D = some (.lst (((ds.take (i + 1)).map f).map V.bl)))) s1 (List.mem_of_getElem? hdi) (dp_same s1 hx) fun H2 s2 => ⟨_, s2 _ _ h2, ?_, same_mut (s1.trans s2) nD, ?_⟩
    · rw [List.length_map, List.length_map, List.length_take]
      exact small1000 (by omega)
    · rw [upd_same, take_map hdi, List.map_append, List.map_append]
      rfl
  · rintro H' ⟨s1, h2⟩
    rw [hl, List.take_length] at h2
    exact hQ D H' s1 (SqL.of h2)
end Kx

set_option Elab.async false
set_option linter.all false
/-! when two plain words may change places: the kinds' mathematics -/
namespace Km
theorem fo_all : ∀ {l acc : List Int}, (∀ x ∈ l, x ∈ acc) → fo acc l = acc
  | [], _, _ => rfl
  | x :: r, acc, h => by
    show fo (if x ∈ acc then acc else acc ++ [x]) r = acc
    rw [if_pos (h x List.mem_cons_self)]
    exact fo_all fun y hy => h y (List.mem_cons_of_mem _ hy)
theorem fo_pre : ∀ (l acc : List Int), acc <+: fo acc l
  | [], acc => ⟨[], by rw [List.append_nil] <;> rfl⟩
  | x :: r, acc => by
    have ih := fo_pre r (if x ∈ acc then acc else acc ++ [x])
    refine List.IsPrefix.trans ?_ ih
    split
    · exact List.prefix_refl _
    · exact List.prefix_append _ _
theorem fo_app_nodup : ∀ {l acc : List Int}, (acc ++ l).Nodup → fo acc l = acc ++ l
  | [], acc, _ => by rw [List.append_nil] <;> rfl
  | x :: r, acc, h => by
    have hx : ¬ x ∈ acc := fun z => by
      rw [List.nodup_append] at h
      exact h.2.2 x z x List.mem_cons_self rfl
    show fo (if x ∈ acc then acc else acc ++ [x]) r = _
    rw [if_neg hx, fo_app_nodup (l := r) (acc := acc ++ [x]) (by rw [List.append_assoc]; exact h), List.append_assoc]
    rfl
theorem fo_nodup : ∀ {l acc : List Int}, acc.Nodup → (fo acc l).Nodup
  | [], _, h => h
  | x :: r, acc, h => by
    show (fo (if x ∈ acc then acc else acc ++ [x]) r).Nodup
    refine fo_nodup ?_
    split
    · exact h
    · rename_i hx
      rw [List.nodup_append]
      refine ⟨h, by simp, fun a ha b hb => ?_⟩
      rw [List.mem_singleton.mp hb]
      exact fun e => hx (e ▸ ha)
theorem fo_plain {a : List Int} (h : fo [] a = a) : a.Nodup := by
  rw [← h]
  exact fo_nodup .nil
/-- heads: both orders make the same iff one of the words begins the other -/
theorem heads_both {a b : List Int} (ha : fo [] a = a) (hb : fo [] b = b) : fo [] (a ++ b) = fo [] (b ++ a) ↔ a.take b.length = b.take a.length := by
  rw [fo_app, fo_app, ha, hb]
  constructor
  · intro h
    obtain ⟨t, ht⟩ := fo_pre b a
    obtain ⟨u, hu⟩ := fo_pre a b
    rw [h, ← hu] at ht
    have h1 := congrArg (List.take (min a.length b.length)) ht
    rw [List.take_append_of_le_length (Nat.min_le_left _ _), List.take_append_of_le_length (Nat.min_le_right _ _)] at h1
    rcases Nat.le_total a.length b.length with hl | hl
    · rw [Nat.min_eq_left hl, List.take_length] at h1
      rw [List.take_of_length_le hl]
      exact h1
    · rw [Nat.min_eq_right hl, List.take_length] at h1
      rw [List.take_of_length_le (l := b) hl]
      exact h1
  · intro h
    have key : ∀ {p q : List Int}, p.length ≤ q.length → q.Nodup → p = q.take p.length → fo p q = q ∧ fo q p = q := fun {p q} hl nq e => by
      have hq : q = p ++ q.drop p.length := by
        have z := (List.take_append_drop p.length q).symm
        rw [← e] at z
        exact z
      refine ⟨?_, fo_all fun x hx => by rw [e] at hx; exact List.mem_of_mem_take hx⟩
      have z : fo p (p ++ q.drop p.length) = p ++ q.drop p.length := by
        rw [fo_app, fo_all fun x hx => hx]
        exact fo_app_nodup (by rw [← hq]; exact nq)
      rw [← hq] at z
      exact z
    rcases Nat.le_total a.length b.length with hl | hl
    · rw [List.take_of_length_le hl] at h
      obtain ⟨k1, k2⟩ := key hl (fo_plain hb) h
      rw [k1, k2]
    · rw [List.take_of_length_le (l := b) hl] at h
      obtain ⟨k1, k2⟩ := key hl (fo_plain ha) h.symm
      rw [k1, k2]
theorem rev_take (l : List Int) (n : Nat) : l.reverse.take n = (l.drop (l.length - n)).reverse := List.take_reverse
/-- tails: iff one of them ends the other -/
theorem tails_both {a b : List Int} (ha : pl .tails a = a) (hb : pl .tails b = b) : pl .tails (a ++ b) = pl .tails (b ++ a) ↔ a.drop (a.length - b.length) = b.drop (b.length - a.length) := by
  have ha' : fo [] a.reverse = a.reverse := by
    have z : (fo [] a.reverse).reverse = a := ha
    rw [← List.reverse_reverse (fo [] a.reverse), z]
  have hb' : fo [] b.reverse = b.reverse := by
    have z : (fo [] b.reverse).reverse = b := hb
    rw [← List.reverse_reverse (fo [] b.reverse), z]
  have h := heads_both hb' ha'
  rw [List.length_reverse, List.length_reverse, rev_take, rev_take] at h
  show (fo [] (a ++ b).reverse).reverse = (fo [] (b ++ a).reverse).reverse ↔ _
  rw [List.reverse_append, List.reverse_append, List.reverse_inj, h, List.reverse_inj]
  exact eq_comm
theorem bag_both (a b : List Int) : pl .bag (a ++ b) = pl .bag (b ++ a) := srt_of ((srt_perm _).trans List.perm_append_comm) (srt_sorted _)
theorem set_both (a b : List Int) : pl .set (a ++ b) = pl .set (b ++ a) := sst_of (fun k => by
  show k ∈ sst (a ++ b) ↔ _
  rw [mem_sst, List.mem_append, List.mem_append]
  exact or_comm) (sst_asc _)
/-- first, ends: plain words that are not empty -/
theorem first_app {a b : List Int} (h : a ≠ []) : pl .first (a ++ b) = pl .first a := by
  cases a with
  | nil => exact absurd rfl h
  | cons x r => simp [pl]
theorem first_both {a b : List Int} (ha : pl .first a = a) (hb : pl .first b = b) (na : a ≠ []) (nb : b ≠ []) : pl .first (a ++ b) = pl .first (b ++ a) ↔ a = b := by
  rw [first_app na, first_app nb, ha, hb]
theorem ends_pair {a : List Int} (ha : pl .ends a = a) (na : a ≠ []) : ∃ x y, a = [x, y] := by
  have h : a.take 1 ++ lst1 a = a := ha
  have hl := lst1_len a
  match a, na with
  | [x], _ => exact absurd h (by simp [lst1])
  | [x, y], _ => exact ⟨x, y, rfl⟩
  | x :: y :: z :: r, _ =>
    have z := congrArg List.length h
    simp only [List.length_append, List.length_take, List.length_cons] at z
    omega
theorem ends_both {a b : List Int} (ha : pl .ends a = a) (hb : pl .ends b = b) (na : a ≠ []) (nb : b ≠ []) : pl .ends (a ++ b) = pl .ends (b ++ a) ↔ a = b := by
  obtain ⟨x, y, rfl⟩ := ends_pair ha na
  obtain ⟨u, v, rfl⟩ := ends_pair hb nb
  show [x, v] = [u, y] ↔ _
  simp
  intro _
  exact eq_comm
theorem ends_kept {x y u v : Int} : pl .ends ([x, y] ++ [u, v]) = [x, y] ↔ y = v := by
  show [x, v] = [x, y] ↔ _
  simp
  exact eq_comm
/-! ### what a clearing effect keeps of the one behind it: pl (a ++ b) = a -/
theorem list_kept {a b : List Int} (nb : b ≠ []) : ¬ a ++ b = a := fun h => by
  have z := congrArg List.length h
  rw [List.length_append] at z
  have := List.length_pos_iff.mpr nb
  omega
theorem bag_kept {a b : List Int} (nb : b ≠ []) : ¬ pl .bag (a ++ b) = a := fun h => by
  have z := (srt_perm (a ++ b)).length_eq
  have e : (srt (a ++ b)).length = a.length := congrArg List.length h
  rw [e, List.length_append] at z
  have := List.length_pos_iff.mpr nb
  omega
theorem set_kept {a b : List Int} (ha : pl .set a = a) : pl .set (a ++ b) = a ↔ ∀ x ∈ b, x ∈ a := by
  constructor
  · intro h x hx
    rw [← h]
    exact (mem_sst x (a ++ b)).mpr (List.mem_append_right _ hx)
  · intro h
    have z : a.Pairwise (· < ·) := by rw [← ha]; exact sst_asc a
    exact (sst_of (l := a ++ b) (fun k => by
      rw [List.mem_append]
      exact ⟨Or.inl, fun q => q.elim id (h k)⟩) z).symm
theorem heads_kept {a b : List Int} (ha : fo [] a = a) : pl .heads (a ++ b) = a ↔ ∀ x ∈ b, x ∈ a := by
  show fo [] (a ++ b) = a ↔ _
  rw [fo_app, ha]
  constructor
  · intro h x hx
    rw [← h]
    exact (mem_fo b a x).mpr (.inr hx)
  · exact fo_all
theorem first_kept {a b : List Int} (ha : pl .first a = a) (hb : pl .first b = b) (nb : b ≠ []) : pl .first (a ++ b) = a ↔ a ≠ [] := by
  constructor
  · rintro h rfl
    exact nb (hb.symm.trans h)
  · intro h
    rw [first_app h, ha]
theorem tails_kept {a b : List Int} (ha : pl .tails a = a) (hb : pl .tails b = b) : pl .tails (a ++ b) = a ↔ b.length ≤ a.length ∧ a.drop (a.length - b.length) = b := by
  have ha' : fo [] a.reverse = a.reverse := by
    have z : (fo [] a.reverse).reverse = a := ha
    rw [← List.reverse_reverse (fo [] a.reverse), z]
  have hb' : fo [] b.reverse = b.reverse := by
    have z : (fo [] b.reverse).reverse = b := hb
    rw [← List.reverse_reverse (fo [] b.reverse), z]
  have e : pl .tails (a ++ b) = (fo b.reverse a.reverse).reverse := by
    show (fo [] (a ++ b).reverse).reverse = _
    rw [List.reverse_append, fo_app, hb']
  rw [e]
  constructor
  · intro h
    have h2 : fo b.reverse a.reverse = a.reverse := by rw [← List.reverse_reverse (fo b.reverse a.reverse), h]
    obtain ⟨t, ht⟩ := fo_pre a.reverse b.reverse
    rw [h2] at ht
    have hl : b.length ≤ a.length := by
      have z := congrArg List.length ht
      simp only [List.length_append, List.length_reverse] at z
      omega
    refine ⟨hl, ?_⟩
    have z := congrArg (List.take b.length) ht
    rw [List.take_append_of_le_length (by simp), List.take_of_length_le (by simp), rev_take] at z
    exact (List.reverse_inj.mp z).symm
  · rintro ⟨hl, h⟩
    have hs : b.reverse = a.reverse.take b.length := by rw [rev_take, h]
    have z : fo b.reverse a.reverse = a.reverse := by
      have q : a.reverse = b.reverse ++ a.reverse.drop b.length := by
        rw [hs]
        simp
      have q2 : fo b.reverse (b.reverse ++ a.reverse.drop b.length) = b.reverse ++ a.reverse.drop b.length := by
        rw [fo_app, fo_all fun x hx => hx]
        exact fo_app_nodup (by rw [← q]; exact fo_plain ha')
      rw [← q] at q2
      exact q2
    rw [z, List.reverse_reverse]
end Km

set_option Elab.async false
set_option linter.all false
/-! what is swallowed, what is done twice: the kinds' mathematics -/
namespace Km
/-- is a small word hidden by a large one -/
def hid6 (k : Kd8) (a b : List Int) : Bool := a.isEmpty || (match k with
  | .set => a.all fun x => decide (x ∈ b)
  | .tails => a.all fun x => decide (x ∈ b)
  | .last => !b.isEmpty
  | _ => false)
theorem hid6_set {a : List Int} (h : a ≠ []) (b : List Int) : hid6 .set a b = a.all fun x => decide (x ∈ b) := by
  cases a with
  | nil => exact absurd rfl h
  | cons _ _ => rfl
theorem hid6_tails {a : List Int} (h : a ≠ []) (b : List Int) : hid6 .tails a b = a.all fun x => decide (x ∈ b) := by
  cases a with
  | nil => exact absurd rfl h
  | cons _ _ => rfl
theorem hid6_last {a : List Int} (h : a ≠ []) (b : List Int) : hid6 .last a b = !decide (b = []) := by
  cases a with
  | nil => exact absurd rfl h
  | cons _ _ => cases b <;> simp [hid6]
def tw0 : Kd8 → Bool
  | .list => false
  | .bag => false
  | _ => true
def tw1 : Kd8 → Bool
  | .set => true
  | .first => true
  | .heads => true
  | _ => false
def tw2 : Kd8 → Bool
  | .set => true
  | .last => true
  | .tails => true
  | _ => false
theorem pl_mid (k : Kd8) (a x b : List Int) : pl k (a ++ (pl k x ++ b)) = pl k (a ++ (x ++ b)) := by
  rw [← pl_right k a (pl k x ++ b), pl_left, pl_right]
theorem mem_tails (x : Int) (l : List Int) : x ∈ pl .tails l ↔ x ∈ l := by
  show x ∈ (fo [] l.reverse).reverse ↔ _
  rw [List.mem_reverse, mem_fo, List.mem_reverse]
  simp
theorem mem_set (x : Int) (l : List Int) : x ∈ pl .set l ↔ x ∈ l := mem_sst x l
theorem head_heads (x : Int) (l : List Int) : (pl .heads (x :: l)).head? = some x := by
  show (fo [x] l).head? = some x
  obtain ⟨t, e⟩ := fo_pre l [x]
  rw [← e]
  rfl
theorem last_lst1 {l : List Int} : (lst1 l).getLast? = l.getLast? := by
  cases h : l.reverse with
  | nil => rw [List.reverse_eq_nil_iff] at h; subst h; rfl
  | cons x r =>
    have e : l = r.reverse ++ [x] := by rw [← List.reverse_reverse l, h, List.reverse_cons]
    rw [e, lst1_app (by simp)]
    simp [lst1]
theorem last_tails (x : Int) (l : List Int) : (pl .tails (l ++ [x])).getLast? = some x := by
  show ((fo [] (l ++ [x]).reverse).reverse).getLast? = some x
  rw [List.getLast?_reverse, List.reverse_append]
  exact head_heads x l.reverse
theorem last_ends (x : Int) (l : List Int) : (pl .ends (l ++ [x])).getLast? = some x := by
  show ((l ++ [x]).take 1 ++ lst1 (l ++ [x])).getLast? = some x
  rw [lst1_app (by simp), lst1_one]
  simp
theorem head_ends (x : Int) (l : List Int) : (pl .ends (x :: l)).head? = some x := rfl
theorem last_snoc {a : List Int} (h : a ≠ []) : ∃ r y, a = r ++ [y] := by
  cases z : a.reverse with
  | nil => exact absurd (List.reverse_eq_nil_iff.mp z) h
  | cons y r => exact ⟨r.reverse, y, by rw [← List.reverse_reverse a, z, List.reverse_cons]⟩
theorem len_bag (l : List Int) : (pl .bag l).length = l.length := (srt_perm l).length_eq
/-- what is hidden makes no difference -/
theorem hid_same {k : Kd8} {a b : List Int} (h : hid6 k a b = true) (w : List Int) : pl k (a ++ (w ++ b)) = pl k (w ++ b) := by
  cases a with
  | nil => rfl
  | cons x r =>
    generalize x :: r = a at *
    have hb : ∀ {a : List Int}, (a.all fun x => decide (x ∈ b)) = true → ∀ y ∈ a, y ∈ b := fun h y hy => of_decide_eq_true (List.all_eq_true.mp h y hy)
    by_cases ea : a = []
    · rw [ea]; rfl
    have ea' : a.isEmpty = false := by cases a with
      | nil => exact absurd rfl ea
      | cons _ _ => rfl
    unfold hid6 at h
    rw [ea', Bool.false_or] at h
    cases k with
    | set =>
      have h := hb h
      refine sst_of (fun z => ?_) (sst_asc _)
      show z ∈ sst _ ↔ _
      rw [mem_sst, List.mem_append]
      constructor
      · rintro (q | q)
        · exact List.mem_append.mpr (.inr (h z q))
        · exact q
      · exact .inr
    | tails =>
      have h := hb h
      show (fo [] (a ++ (w ++ b)).reverse).reverse = (fo [] (w ++ b).reverse).reverse
      rw [List.reverse_append, fo_app, fo_all]
      intro z hz
      rw [mem_fo, List.mem_reverse, List.mem_append]
      exact .inr (.inr (h z (List.mem_reverse.mp hz)))
    | last =>
      have nb : b ≠ [] := fun e => by rw [e] at h; cases h
      show lst1 _ = lst1 _
      rw [lst1_app (by simp [nb])]
    | _ => cases h
/-- the word of one letter that no one has parts them -/
theorem hid_parted {k : Kd8} {a b : List Int} {m : Int} (nl : k ≠ .last) (h : hid6 k a b = false) (hm : ¬ m ∈ a ++ b) : pl k (a ++ (pl k [m] ++ b)) ≠ pl k (pl k [m] ++ b) := by
  rw [pl_mid, pl_left]
  intro e
  have na : a ≠ [] := fun z => by rw [z] at h; cases h
  have ma : ¬ m ∈ a := fun z => hm (List.mem_append.mpr (.inl z))
  have ea' : a.isEmpty = false := by cases a with
    | nil => exact absurd rfl na
    | cons _ _ => rfl
  unfold hid6 at h
  rw [ea', Bool.false_or] at h
  have ex : ∀ {a : List Int}, (a.all fun x => decide (x ∈ b)) = false → ∃ y ∈ a, ¬ y ∈ b := fun h => by
    obtain ⟨y, h1, h2⟩ := List.all_eq_false.mp h
    exact ⟨y, h1, fun z => h2 (decide_eq_true z)⟩
  have hd : ∀ f : List Int → List Int, (∀ x l, (f (x :: l)).head? = some x) → f (a ++ ([m] ++ b)) ≠ f ([m] ++ b) := fun f hf e => by
    cases a with
    | nil => exact na rfl
    | cons x r =>
      have z := congrArg List.head? e
      rw [List.cons_append, hf, show [m] ++ b = m :: b from rfl, hf] at z
      exact ma (by rw [Option.some.inj z]; exact List.mem_cons_self)
  have la : 0 < a.length := List.length_pos_iff.mpr na
  cases k with
  | list =>
    have z := congrArg List.length e
    simp only [pl, List.length_append] at z
    omega
  | bag =>
    have z := congrArg List.length e
    rw [len_bag, len_bag] at z
    simp only [List.length_append] at z
    omega
  | set =>
    obtain ⟨y, h1, h2⟩ := ex h
    have z := (mem_set y _).mp (e ▸ (mem_set y _).mpr (List.mem_append.mpr (.inl h1)))
    rcases List.mem_append.mp z with q | q
    · rw [List.mem_singleton.mp q] at h1
      exact ma h1
    · exact h2 q
  | tails =>
    obtain ⟨y, h1, h2⟩ := ex h
    have z := (mem_tails y _).mp (e ▸ (mem_tails y _).mpr (List.mem_append.mpr (.inl h1)))
    rcases List.mem_append.mp z with q | q
    · rw [List.mem_singleton.mp q] at h1
      exact ma h1
    · exact h2 q
  | last => exact nl rfl
  | first => exact hd (pl .first) (fun x l => rfl) e
  | ends => exact hd (pl .ends) (fun x l => rfl) e
  | heads => exact hd (pl .heads) head_heads e
theorem hid_parted_last {a b : List Int} (h : hid6 .last a b = false) : pl .last (a ++ ([] ++ b)) ≠ pl .last ([] ++ b) := by
  have na : a ≠ [] := fun z => by rw [z] at h; cases h
  have nb : b = [] := by
    cases b with
    | nil => rfl
    | cons x r => unfold hid6 at h; rw [Bool.or_eq_false_iff] at h; cases h.2
  subst nb
  rw [List.append_nil, List.append_nil]
  intro e
  exact na (lst1_nil.mp e)
theorem tw0_same {k : Kd8} {a : List Int} (h : (a.isEmpty || tw0 k) = true) (b : List Int) : pl k (b ++ (a ++ a)) = pl k (b ++ a) := by
  by_cases na : a = []
  · subst na; rfl
  have ea : a.isEmpty = false := by cases a with
    | nil => exact absurd rfl na
    | cons _ _ => rfl
  rw [ea, Bool.false_or] at h
  rw [← pl_right k b (a ++ a), ← pl_right k b a]
  congr 2
  cases k with
  | list => cases h
  | bag => cases h
  | set => exact sst_of (fun z => by show z ∈ sst _ ↔ _; rw [mem_sst, List.mem_append, or_self]) (sst_asc _)
  | first => exact first_app na
  | last => exact lst1_app na
  | ends =>
    show (a ++ a).take 1 ++ lst1 (a ++ a) = a.take 1 ++ lst1 a
    rw [lst1_app na, show (a ++ a).take 1 = a.take 1 from first_app na]
  | heads =>
    show fo [] (a ++ a) = fo [] a
    rw [fo_app, fo_all]
    intro z hz
    exact (mem_fo _ _ _).mpr (.inr hz)
  | tails =>
    show (fo [] (a ++ a).reverse).reverse = (fo [] a.reverse).reverse
    rw [List.reverse_append, fo_app, fo_all]
    intro z hz
    exact (mem_fo _ _ _).mpr (.inr hz)
theorem tw0_not {k : Kd8} {a : List Int} (h : (a.isEmpty || tw0 k) = false) (b : List Int) : pl k (b ++ (a ++ a)) ≠ pl k (b ++ a) := by
  have na : a ≠ [] := fun z => by rw [z] at h; cases h
  have la : 0 < a.length := List.length_pos_iff.mpr na
  rw [Bool.or_eq_false_iff] at h
  intro e
  have z := congrArg List.length e
  cases k with
  | list => simp only [pl, List.length_append] at z; omega
  | bag => rw [len_bag, len_bag] at z; simp only [List.length_append] at z; omega
  | _ => cases h.2
theorem tw1_same {k : Kd8} {a : List Int} (h : (a.isEmpty || tw1 k) = true) (b g : List Int) : pl k (b ++ (a ++ (g ++ a))) = pl k (b ++ (a ++ g)) := by
  by_cases na : a = []
  · subst na; simp
  have ea : a.isEmpty = false := by cases a with
    | nil => exact absurd rfl na
    | cons _ _ => rfl
  rw [ea, Bool.false_or] at h
  rw [← pl_right k b (a ++ (g ++ a)), ← pl_right k b (a ++ g)]
  congr 2
  cases k with
  | set =>
    refine sst_of (fun z => ?_) (sst_asc _)
    show z ∈ sst (a ++ (g ++ a)) ↔ _
    rw [mem_sst]
    simp only [List.mem_append]
    constructor
    · rintro (q | q | q)
      · exact .inl q
      · exact .inr q
      · exact .inl q
    · rintro (q | q)
      · exact .inl q
      · exact .inr (.inl q)
  | first => rw [first_app na, first_app na]
  | heads =>
    show fo [] (a ++ (g ++ a)) = fo [] (a ++ g)
    rw [← List.append_assoc, fo_app (a ++ g), fo_all]
    intro z hz
    exact (mem_fo _ _ _).mpr (.inr (List.mem_append.mpr (.inl hz)))
  | _ => cases h
theorem tw1_not {k : Kd8} {a : List Int} {m : Int} (h : (a.isEmpty || tw1 k) = false) (hm : ¬ m ∈ a) : pl k (a ++ (pl k [m] ++ a)) ≠ pl k (a ++ pl k [m]) := by
  rw [pl_mid, pl_right]
  have na : a ≠ [] := fun z => by rw [z] at h; cases h
  have la : 0 < a.length := List.length_pos_iff.mpr na
  rw [Bool.or_eq_false_iff] at h
  intro e
  have lt : ∀ f : List Int → List Int, (∀ x l, (f (l ++ [x])).getLast? = some x) → f (a ++ ([m] ++ a)) ≠ f (a ++ [m]) := fun f hf e => by
    obtain ⟨r, y, ea⟩ := last_snoc na
    have z := congrArg List.getLast? e
    have e2 : a ++ ([m] ++ a) = (a ++ ([m] ++ r)) ++ [y] := by
      conv => lhs; rw [ea]
      conv => rhs; rw [ea]
      simp
    rw [hf, e2, hf] at z
    exact hm (by rw [ea, ← Option.some.inj z]; simp)
  cases k with
  | list => have z := congrArg List.length e; simp only [pl, List.length_append] at z; omega
  | bag => have z := congrArg List.length e; rw [len_bag, len_bag] at z; simp only [List.length_append] at z; omega
  | last => exact lt (pl .last) (fun x l => by show (lst1 _).getLast? = _; rw [last_lst1]; simp) e
  | ends => exact lt (pl .ends) last_ends e
  | tails => exact lt (pl .tails) last_tails e
  | _ => cases h.2
theorem tw2_same {k : Kd8} {a : List Int} (h : (a.isEmpty || tw2 k) = true) (b g : List Int) : pl k (b ++ (a ++ (g ++ a))) = pl k (b ++ (g ++ a)) := by
  by_cases na : a = []
  · subst na; simp
  have ea : a.isEmpty = false := by cases a with
    | nil => exact absurd rfl na
    | cons _ _ => rfl
  rw [ea, Bool.false_or] at h
  rw [← pl_right k b (a ++ (g ++ a)), ← pl_right k b (g ++ a)]
  congr 2
  cases k with
  | set => exact hid_same (k := .set) (by unfold hid6; rw [ea, Bool.false_or]; exact List.all_eq_true.mpr fun x hx => decide_eq_true hx) g
  | tails => exact hid_same (k := .tails) (by unfold hid6; rw [ea, Bool.false_or]; exact List.all_eq_true.mpr fun x hx => decide_eq_true hx) g
  | last => exact hid_same (k := .last) (by unfold hid6; rw [ea] <;> rfl) g
  | _ => cases h
theorem tw2_not {k : Kd8} {a : List Int} {m : Int} (h : (a.isEmpty || tw2 k) = false) (hm : ¬ m ∈ a) : pl k (a ++ (pl k [m] ++ a)) ≠ pl k (pl k [m] ++ a) := by
  have na : a ≠ [] := fun z => by rw [z] at h; cases h
  have ea : a.isEmpty = false := by cases a with
    | nil => exact absurd rfl na
    | cons _ _ => rfl
  have h' := h
  rw [Bool.or_eq_false_iff] at h'
  refine hid_parted (b := a) (fun z => by rw [z] at h'; cases h'.2) ?_ (fun z => hm ((List.mem_append.mp z).elim id id))
  unfold hid6
  rw [ea, Bool.false_or]
  cases k with
  | set => cases h'.2
  | last => cases h'.2
  | tails => cases h'.2
  | _ => rfl
/-- the long and the short row of the three ways -/
def lng (i : Nat) (h a g : List Int) : List Int := if i = 0 then h ++ (a ++ a) else h ++ (a ++ (g ++ a))
def sht (i : Nat) (h a g : List Int) : List Int := if i = 0 then h ++ a else if i = 1 then h ++ (a ++ g) else h ++ (g ++ a)
def twd (i : Nat) (k : Kd8) : Bool := if i = 0 then tw0 k else if i = 1 then tw1 k else tw2 k
theorem tw_same {i : Nat} {k : Kd8} {a : List Int} (h : (a.isEmpty || twd i k) = true) (b g : List Int) : pl k (lng i b a g) = pl k (sht i b a g) := by
  unfold lng sht twd at *
  by_cases e0 : i = 0
  · simp only [e0, if_true] at *; exact tw0_same h b
  · by_cases e1 : i = 1
    · simp only [e0, e1, if_true, if_false] at *; exact tw1_same h b g
    · simp only [e0, e1, if_false] at *; exact tw2_same h b g
theorem tw_not {i : Nat} {k : Kd8} {a : List Int} {m : Int} (h : (a.isEmpty || twd i k) = false) (hm : ¬ m ∈ a) : pl k (lng i [] a (pl k [m])) ≠ pl k (sht i [] a (pl k [m])) := by
  unfold lng sht twd at *
  by_cases e0 : i = 0
  · simp only [e0, if_true] at *; exact tw0_not h []
  · by_cases e1 : i = 1
    · simp only [e0, e1, if_true, if_false] at *; exact tw1_not h hm
    · simp only [e0, e1, if_false] at *; exact tw2_not h hm
end Km

set_option Elab.async false
set_option linter.all false
/-! what is left from one plain word to another: the kinds' mathematics -/
namespace Km
/-- the first of each letter of the second word taken out of the first -/
def cutAll : List Int → List Int → List Int
  | l, [] => l
  | l, x :: r => cutAll (l.erase x) r
/-- the rest from one plain word to another -/
def rstA (a b : List Int) : Option (List Int) := if b.take a.length = a then some (b.drop a.length) else none
theorem rstA_some {a b w : List Int} : rstA a b = some w ↔ b = a ++ w := by
  unfold rstA
  split
  · rename_i h
    constructor
    · intro e
      rw [← Option.some.inj e, ← h, List.length_take]
      conv => lhs; rw [← List.take_append_drop a.length b]
      congr 2
      have := congrArg List.length h
      rw [List.length_take] at this
      omega
    · rintro rfl
      simp
  · rename_i h
    constructor
    · intro e; cases e
    · rintro rfl
      simp at h
def lst0 (a b : List Int) : Option (List Int) := if a = b then some [] else if b = [] then none else some b
def end0 (a b : List Int) : Option (List Int) := if a = b then some [] else if a ≠ [] ∧ a.take 1 ≠ b.take 1 then none else some b
/-- list -/
theorem list_rst {a b w : List Int} : rstA a b = some w ↔ pl .list (a ++ w) = b := by
  rw [rstA_some]
  exact ⟨fun h => h.symm, fun h => h.symm⟩
/-- heads -/
theorem heads_rst {a b w : List Int} (ha : pl .heads a = a) (hb : pl .heads b = b) (h : rstA a b = some w) : pl .heads w = w ∧ pl .heads (a ++ w) = b := by
  have e := rstA_some.mp h
  have nd := fo_plain (show fo [] b = b from hb)
  rw [e] at nd
  have nw : w.Nodup := (List.nodup_append.mp nd).2.1
  refine ⟨?_, by rw [← e]; exact hb⟩
  show fo [] w = w
  rw [fo_app_nodup (l := w) (acc := []) (by simpa using nw)]
  rfl
theorem fo_split : ∀ (w acc : List Int), ∃ r, fo acc w = acc ++ r ∧ r.length ≤ w.length ∧ (r.length = w.length → r = w)
  | [], acc => ⟨[], by simp [fo], Nat.le_refl _, fun _ => rfl⟩
  | x :: l, acc => by
    by_cases h : x ∈ acc
    · obtain ⟨r, e1, e2, e3⟩ := fo_split l acc
      refine ⟨r, ?_, by simp only [List.length_cons]; omega, fun z => by simp only [List.length_cons] at z; omega⟩
      show fo (if x ∈ acc then acc else acc ++ [x]) l = _
      rw [if_pos h, e1]
    · obtain ⟨r, e1, e2, e3⟩ := fo_split l (acc ++ [x])
      refine ⟨x :: r, ?_, by simp only [List.length_cons]; omega, fun z => ?_⟩
      · show fo (if x ∈ acc then acc else acc ++ [x]) l = _
        rw [if_neg h, e1, List.append_assoc]
        rfl
      · rw [e3 (by simp only [List.length_cons] at z; omega)]
theorem heads_short {a b w : List Int} (ha : pl .heads a = a) (h : pl .heads (a ++ w) = b) : ∃ v, rstA a b = some v ∧ v.length ≤ w.length ∧ (v.length = w.length → v = w) := by
  have e : fo a w = b := by
    have : fo [] (a ++ w) = b := h
    rw [fo_app, show fo [] a = a from ha] at this
    exact this
  obtain ⟨r, e1, e2, e3⟩ := fo_split w a
  exact ⟨r, rstA_some.mpr (by rw [← e, e1]), e2, e3⟩
/-- first -/
theorem first_rst {a b w : List Int} (ha : pl .first a = a) (hb : pl .first b = b) (h : rstA a b = some w) : pl .first w = w ∧ pl .first (a ++ w) = b := by
  have e := rstA_some.mp h
  refine ⟨?_, by rw [← e]; exact hb⟩
  have : (a ++ w).length ≤ 1 := by
    rw [← e, ← hb]
    show (b.take 1).length ≤ 1
    rw [List.length_take]
    omega
  show w.take 1 = w
  rw [List.take_of_length_le]
  rw [List.length_append] at this
  omega
theorem first_short {a b w : List Int} (ha : pl .first a = a) (hw : pl .first w = w) (h : pl .first (a ++ w) = b) : ∃ v, rstA a b = some v ∧ v.length ≤ w.length ∧ (v.length = w.length → v = w) := by
  by_cases na : a = []
  · subst na
    exact ⟨b, rstA_some.mpr rfl, by rw [← h]; show (pl .first w).length ≤ _; rw [hw]; exact Nat.le_refl _, fun _ => by rw [← h]; exact hw⟩
  · have e : b = a := by rw [← h, first_app na, ha]
    exact ⟨[], rstA_some.mpr (by rw [e, List.append_nil]), Nat.zero_le _, fun z => (List.length_eq_zero_iff.mp z.symm).symm⟩
/-- last -/
theorem last_rst {a b w : List Int} (ha : pl .last a = a) (hb : pl .last b = b) (h : lst0 a b = some w) : pl .last w = w ∧ pl .last (a ++ w) = b := by
  unfold lst0 at h
  split at h
  · rename_i e
    rw [← Option.some.inj h, List.append_nil]
    exact ⟨rfl, ha.trans e⟩
  · split at h
    · cases h
    · rename_i nb
      rw [← Option.some.inj h]
      exact ⟨hb, (lst1_app nb).trans hb⟩
theorem last_short {a b w : List Int} (ha : pl .last a = a) (hw : pl .last w = w) (h : pl .last (a ++ w) = b) : ∃ v, lst0 a b = some v ∧ v.length ≤ w.length ∧ (v.length = w.length → v = w) := by
  unfold lst0
  by_cases nw : w = []
  · subst nw
    rw [List.append_nil, ha] at h
    exact ⟨[], if_pos h, Nat.le_refl _, fun _ => rfl⟩
  · have e : b = w := by rw [← h]; exact (lst1_app nw).trans hw
    by_cases ab : a = b
    · exact ⟨[], if_pos ab, Nat.zero_le _, fun z => (List.length_eq_zero_iff.mp z.symm).symm⟩
    · exact ⟨b, by rw [if_neg ab, if_neg (by rw [e]; exact nw)], by rw [e]; exact Nat.le_refl _, fun _ => e⟩
/-- ends -/
theorem ends_rst {a b w : List Int} (ha : pl .ends a = a) (hb : pl .ends b = b) (h : end0 a b = some w) : pl .ends w = w ∧ pl .ends (a ++ w) = b := by
  unfold end0 at h
  split at h
  · rename_i e
    rw [← Option.some.inj h, List.append_nil]
    exact ⟨rfl, ha.trans e⟩
  · split at h
    · cases h
    · rename_i n1 n2
      rw [← Option.some.inj h]
      refine ⟨hb, ?_⟩
      by_cases na : a = []
      · subst na; exact hb
      by_cases nb : b = []
      · subst nb
        obtain ⟨x, y, rfl⟩ := ends_pair ha na
        exact absurd ⟨na, by simp⟩ n2
      · obtain ⟨x, y, rfl⟩ := ends_pair ha na
        obtain ⟨u, v, rfl⟩ := ends_pair hb nb
        have : x = u := by
          rcases Decidable.em (x = u) with q | q
          · exact q
          · exact absurd ⟨na, by simpa using q⟩ n2
        subst this
        rfl
theorem ends_short {a b w : List Int} (ha : pl .ends a = a) (hw : pl .ends w = w) (h : pl .ends (a ++ w) = b) : ∃ v, end0 a b = some v ∧ v.length ≤ w.length := by
  unfold end0
  by_cases nw : w = []
  · subst nw
    rw [List.append_nil, ha] at h
    exact ⟨[], if_pos h, Nat.le_refl _⟩
  · by_cases ab : a = b
    · exact ⟨[], if_pos ab, Nat.zero_le _⟩
    · obtain ⟨u, v, rfl⟩ := ends_pair hw nw
      by_cases na : a = []
      · subst na
        refine ⟨b, by rw [if_neg ab, if_neg (fun z => z.1 rfl)], ?_⟩
        rw [← h]
        exact Nat.le_refl _
      · obtain ⟨x, y, rfl⟩ := ends_pair ha na
        have e : b = [x, v] := by rw [← h]; rfl
        refine ⟨b, by rw [if_neg ab, if_neg (fun z => z.2 (by rw [e] <;> rfl))], by rw [e]; exact Nat.le_refl _⟩
end Km
namespace Km
/-- bag -/
def subM : List Int → List Int → Bool
  | [], _ => true
  | x :: r, b => decide (x ∈ b) && subM r (b.erase x)
theorem cutAll_sub : ∀ (a b : List Int), (cutAll b a).Sublist b
  | [], b => List.Sublist.refl _
  | x :: r, b => (cutAll_sub r (b.erase x)).trans List.erase_sublist
theorem bag_perm : ∀ (a b : List Int), subM a b = true → (a ++ cutAll b a).Perm b
  | [], b, _ => List.Perm.refl _
  | x :: r, b, h => by
    unfold subM at h
    rw [Bool.and_eq_true, decide_eq_true_eq] at h
    exact ((bag_perm r (b.erase x) h.2).cons x).trans (List.perm_cons_erase h.1).symm
theorem bag_subM : ∀ (a b w : List Int), (a ++ w).Perm b → subM a b = true
  | [], _, _, _ => rfl
  | x :: r, b, w, h => by
    have h' := (List.cons_perm_iff_perm_erase (l₁ := r ++ w)).mp h
    unfold subM
    rw [Bool.and_eq_true, decide_eq_true_eq]
    exact ⟨h'.1, bag_subM r _ w h'.2⟩
def bag0 (a b : List Int) : Option (List Int) := if subM a b then some (cutAll b a) else none
theorem bag_sorted {b : List Int} (hb : pl .bag b = b) : b.Pairwise (· ≤ ·) := by
  rw [← hb]
  exact srt_sorted b
theorem bag_rst {a b w : List Int} (hb : pl .bag b = b) (h : bag0 a b = some w) : pl .bag w = w ∧ pl .bag (a ++ w) = b := by
  unfold bag0 at h
  split at h
  · rename_i s
    rw [← Option.some.inj h]
    exact ⟨(srt_of (List.Perm.refl _) ((bag_sorted hb).sublist (cutAll_sub a b))).symm, (srt_of (bag_perm a b s).symm (bag_sorted hb)).symm⟩
  · cases h
theorem bag_short {a b w : List Int} (hw : pl .bag w = w) (h : pl .bag (a ++ w) = b) : bag0 a b = some w := by
  have p : (a ++ w).Perm b := by rw [← h]; exact (srt_perm _).symm
  have s := bag_subM a b w p
  have hb : b.Pairwise (· ≤ ·) := by rw [← h]; exact srt_sorted _
  unfold bag0
  rw [if_pos s]
  congr 1
  have q : (a ++ cutAll b a).Perm (a ++ w) := (bag_perm a b s).trans p.symm
  exact sorted_uniq ((List.perm_append_left_iff a).mp q) (hb.sublist (cutAll_sub a b)) (bag_sorted hw)
/-- set -/
def set0 (a b : List Int) : Option (List Int) := if (a.all fun x => decide (x ∈ b)) then some (cutAll b a) else none
theorem mem_cutAll : ∀ (a b : List Int) (x : Int), b.Nodup → (x ∈ cutAll b a ↔ x ∈ b ∧ ¬ x ∈ a)
  | [], b, x, _ => by simp [cutAll]
  | y :: r, b, x, nd => by
    show x ∈ cutAll (b.erase y) r ↔ _
    rw [mem_cutAll r (b.erase y) x (nd.sublist List.erase_sublist), List.Nodup.mem_erase_iff nd]
    simp only [List.mem_cons, not_or]
    constructor
    · rintro ⟨⟨h1, h2⟩, h3⟩
      exact ⟨h2, h1, h3⟩
    · rintro ⟨h2, h1, h3⟩
      exact ⟨⟨h1, h2⟩, h3⟩
theorem asc_nodup {l : List Int} (h : l.Pairwise (· < ·)) : l.Nodup := h.imp fun h e => by omega
theorem set_asc {b : List Int} (hb : pl .set b = b) : b.Pairwise (· < ·) := by
  rw [← hb]
  exact sst_asc b
theorem asc_sub : ∀ {v w : List Int}, v.Pairwise (· < ·) → w.Pairwise (· < ·) → (∀ x ∈ v, x ∈ w) → v.Sublist w
  | [], w, _, _, _ => List.nil_sublist w
  | x :: r, [], _, _, h => absurd (h x List.mem_cons_self) List.not_mem_nil
  | x :: r, y :: s, hv, hw, h => by
    have hv' := List.pairwise_cons.mp hv
    have hw' := List.pairwise_cons.mp hw
    by_cases e : x = y
    · subst e
      refine List.Sublist.cons₂ x (asc_sub hv'.2 hw'.2 fun z hz => ?_)
      rcases List.mem_cons.mp (h z (List.mem_cons_of_mem _ hz)) with q | q
      · have := hv'.1 z hz
        omega
      · exact q
    · refine List.Sublist.cons y (asc_sub hv hw'.2 fun z hz => ?_)
      rcases List.mem_cons.mp (h z hz) with q | q
      · exfalso
        have hx := h x List.mem_cons_self
        rcases List.mem_cons.mp hx with q2 | q2
        · exact e q2
        · have h1 := hw'.1 x q2
          rcases List.mem_cons.mp hz with q3 | q3
          · omega
          · have := hv'.1 z q3
            omega
      · exact q
theorem set_rst {a b w : List Int} (hb : pl .set b = b) (h : set0 a b = some w) : pl .set w = w ∧ pl .set (a ++ w) = b := by
  have hs := set_asc hb
  unfold set0 at h
  split at h
  · rename_i s
    have s : ∀ x ∈ a, x ∈ b := fun x hx => of_decide_eq_true (List.all_eq_true.mp s x hx)
    rw [← Option.some.inj h]
    refine ⟨(sst_of (fun _ => Iff.rfl) (hs.sublist (cutAll_sub a b))).symm, (sst_of (fun x => ?_) hs).symm⟩
    rw [List.mem_append, mem_cutAll a b x (asc_nodup hs)]
    constructor
    · intro hx
      by_cases q : x ∈ a
      · exact .inl q
      · exact .inr ⟨hx, q⟩
    · rintro (q | q)
      · exact s x q
      · exact q.1
  · cases h
theorem set_short {a b w : List Int} (hw : pl .set w = w) (h : pl .set (a ++ w) = b) : ∃ v, set0 a b = some v ∧ v.length ≤ w.length ∧ (v.length = w.length → v = w) := by
  have hs : b.Pairwise (· < ·) := by rw [← h]; exact sst_asc _
  have mb : ∀ x, x ∈ b ↔ x ∈ a ∨ x ∈ w := fun x => by rw [← h]; exact (mem_sst x _).trans List.mem_append
  have s : (a.all fun x => decide (x ∈ b)) = true := List.all_eq_true.mpr fun x hx => decide_eq_true ((mb x).mpr (.inl hx))
  have sub : (cutAll b a).Sublist w := asc_sub (hs.sublist (cutAll_sub a b)) (set_asc hw) fun x hx => by
    obtain ⟨h1, h2⟩ := (mem_cutAll a b x (asc_nodup hs)).mp hx
    exact ((mb x).mp h1).resolve_left h2
  exact ⟨_, if_pos s, sub.length_le, sub.eq_of_length⟩
end Km
namespace Km
/-- tails -/
def aft (x : Int) : List Int → List Int
  | [] => []
  | y :: r => if x = y then r else aft x r
def kq : List Int → List Int → Nat
  | _, [] => 0
  | a, x :: r => if x ∈ a then kq (aft x a) r + 1 else 0
theorem kq_le : ∀ (b a : List Int), kq a b ≤ b.length
  | [], _ => Nat.le_refl _
  | x :: r, a => by
    show (if x ∈ a then kq (aft x a) r + 1 else 0) ≤ _
    have := kq_le r (aft x a)
    split
    · simp only [List.length_cons]; omega
    · exact Nat.zero_le _
theorem aft_sub : ∀ {x : Int} {a l : List Int}, x ∈ a → l.Sublist (aft x a) → (x :: l).Sublist a
  | x, [], _, h, _ => absurd h List.not_mem_nil
  | x, y :: r, l, h, s => by
    by_cases e : x = y
    · subst e
      rw [show aft x (x :: r) = r from if_pos rfl] at s
      exact s.cons₂ x
    · rw [show aft x (y :: r) = aft x r from if_neg e] at s
      exact (aft_sub ((List.mem_cons.mp h).resolve_left e) s).cons y
theorem sub_aft : ∀ {x : Int} {a l : List Int}, (x :: l).Sublist a → l.Sublist (aft x a)
  | x, [], l, s => by cases s
  | x, y :: r, l, s => by
    by_cases e : x = y
    · subst e
      rw [show aft x (x :: r) = r from if_pos rfl]
      cases s with
      | cons _ h => exact (List.sublist_cons_self x l).trans h
      | cons_cons _ h => exact h
    · rw [show aft x (y :: r) = aft x r from if_neg e]
      cases s with
      | cons _ h => exact sub_aft h
      | cons_cons _ h => exact absurd rfl e
theorem kq_sound : ∀ (b a : List Int), (b.take (kq a b)).Sublist a
  | [], a => by simp
  | x :: r, a => by
    by_cases h : x ∈ a
    · rw [show kq a (x :: r) = kq (aft x a) r + 1 from if_pos h, List.take_succ_cons]
      exact aft_sub h (kq_sound r _)
    · rw [show kq a (x :: r) = 0 from if_neg h, List.take_zero]
      exact List.nil_sublist a
theorem kq_max : ∀ (b a : List Int) (j : Nat), j ≤ b.length → (b.take j).Sublist a → j ≤ kq a b
  | _, _, 0, _, _ => Nat.zero_le _
  | [], _, j + 1, h, _ => by simp at h
  | x :: r, a, j + 1, h, s => by
    rw [List.take_succ_cons] at s
    have hx : x ∈ a := s.subset List.mem_cons_self
    rw [show kq a (x :: r) = kq (aft x a) r + 1 from if_pos hx]
    have := kq_max r (aft x a) j (by simp only [List.length_cons] at h; omega) (sub_aft s)
    omega
theorem fo_filter : ∀ (l acc : List Int), l.Nodup → fo acc l = acc ++ l.filter (fun x => decide (¬ x ∈ acc))
  | [], acc, _ => by simp [fo]
  | x :: r, acc, nd => by
    have nd' := List.nodup_cons.mp nd
    show fo (if x ∈ acc then acc else acc ++ [x]) r = _
    by_cases h : x ∈ acc
    · rw [if_pos h, fo_filter r acc nd'.2, List.filter_cons, if_neg (by simpa using h)]
    · rw [if_neg h, fo_filter r (acc ++ [x]) nd'.2, List.filter_cons, if_pos (by simpa using h), List.append_assoc]
      congr 1
      rw [List.singleton_append]
      congr 1
      refine List.filter_congr fun y hy => ?_
      have : y ≠ x := fun e => nd'.1 (e ▸ hy)
      simp [this]
theorem nodup_rev (l : List Int) : l.reverse.Nodup ↔ l.Nodup := (List.reverse_perm l).nodup_iff
theorem tails_nodup {a : List Int} (ha : pl .tails a = a) : a.Nodup := by
  have h : (fo [] a.reverse).reverse = a := ha
  have h2 : fo [] a.reverse = a.reverse := by
    conv => rhs; rw [← h]
    rw [List.reverse_reverse]
  exact (nodup_rev _).mp (fo_plain h2)
theorem tails_of_nodup {a : List Int} (h : a.Nodup) : pl .tails a = a := by
  show (fo [] a.reverse).reverse = a
  rw [fo_app_nodup (l := a.reverse) (acc := []) (by rw [List.nil_append]; exact (nodup_rev _).mpr h)]
  simp
theorem tails_app {a w : List Int} (ha : a.Nodup) (hw : w.Nodup) : pl .tails (a ++ w) = a.filter (fun x => decide (¬ x ∈ w)) ++ w := by
  show (fo [] (a ++ w).reverse).reverse = _
  rw [List.reverse_append, fo_app, fo_app_nodup (l := w.reverse) (acc := []) (by rw [List.nil_append]; exact (nodup_rev _).mpr hw), List.nil_append, fo_filter _ _ ((nodup_rev _).mpr ha), List.reverse_append, List.reverse_reverse, ← List.filter_reverse, List.reverse_reverse]
  congr 1
  exact List.filter_congr fun y _ => by simp
theorem sub_filter : ∀ {P a : List Int}, P.Sublist a → a.Nodup → P = a.filter (fun x => decide (x ∈ P))
  | _, _, .slnil, _ => rfl
  | P, y :: r, .cons _ h, nd => by
    have nd' := List.nodup_cons.mp nd
    have ny : ¬ y ∈ P := fun q => nd'.1 (h.subset q)
    rw [List.filter_cons, if_neg (by simpa using ny)]
    exact sub_filter h nd'.2
  | y :: P, _ :: r, .cons_cons _ h, nd => by
    have nd' := List.nodup_cons.mp nd
    rw [List.filter_cons, if_pos (by simp)]
    congr 1
    conv => lhs; rw [sub_filter h nd'.2]
    refine List.filter_congr fun z hz => ?_
    have : z ≠ y := fun e => nd'.1 (e ▸ hz)
    simp [this]
def tails0 (a b : List Int) : Option (List Int) := if (a.all fun x => decide (x ∈ b)) then some (b.drop (kq a b)) else none
theorem tails_rst {a b w : List Int} (ha : pl .tails a = a) (hb : pl .tails b = b) (h : tails0 a b = some w) : pl .tails w = w ∧ pl .tails (a ++ w) = b := by
  have na := tails_nodup ha
  have nb := tails_nodup hb
  unfold tails0 at h
  split at h
  · rename_i s
    have s : ∀ x ∈ a, x ∈ b := fun x hx => of_decide_eq_true (List.all_eq_true.mp s x hx)
    rw [← Option.some.inj h]
    have nw : (b.drop (kq a b)).Nodup := nb.sublist (List.drop_sublist _ _)
    refine ⟨tails_of_nodup nw, ?_⟩
    rw [tails_app na nw]
    conv => rhs; rw [← List.take_append_drop (kq a b) b]
    congr 1
    rw [sub_filter (kq_sound b a) na]
    refine List.filter_congr fun x hx => ?_
    have hx2 := s x hx
    have nb' := nb
    rw [← List.take_append_drop (kq a b) b] at hx2 nb'
    have dj := (List.nodup_append.mp nb').2.2
    rw [Bool.eq_iff_iff, decide_eq_true_eq, decide_eq_true_eq]
    constructor
    · intro q
      exact (List.mem_append.mp hx2).resolve_right q
    · intro q q2
      exact dj x q x q2 rfl
  · cases h
theorem tails_short {a b w : List Int} (ha : pl .tails a = a) (hw : pl .tails w = w) (h : pl .tails (a ++ w) = b) : ∃ v, tails0 a b = some v ∧ v.length ≤ w.length ∧ (v.length = w.length → v = w) := by
  have e := tails_app (tails_nodup ha) (tails_nodup hw)
  rw [h] at e
  have s : (a.all fun x => decide (x ∈ b)) = true := List.all_eq_true.mpr fun x hx => decide_eq_true (by
    rw [e, List.mem_append]
    by_cases q : x ∈ w
    · exact .inr q
    · exact .inl (List.mem_filter.mpr ⟨hx, by simpa using q⟩))
  refine ⟨_, if_pos s, ?_⟩
  generalize hF : a.filter (fun x => decide (¬ x ∈ w)) = F at *
  have lb : b.length = F.length + w.length := by rw [e, List.length_append]
  have hj : F.length ≤ kq a b := kq_max b a F.length (by omega) (by
    rw [e, List.take_left', ← hF]
    · exact List.filter_sublist
    · rfl)
  have hk := kq_le b a
  refine ⟨by rw [List.length_drop]; omega, fun z => ?_⟩
  rw [List.length_drop] at z
  have : kq a b = F.length := by omega
  rw [this, e, List.drop_left']
  rfl
end Km
namespace Km
theorem subM_nodup : ∀ (a b : List Int), a.Nodup → subM a b = a.all fun x => decide (x ∈ b)
  | [], _, _ => rfl
  | x :: r, b, nd => by
    have nd' := List.nodup_cons.mp nd
    show (decide (x ∈ b) && subM r (b.erase x)) = (decide (x ∈ b) && r.all fun y => decide (y ∈ b))
    rw [subM_nodup r _ nd'.2]
    congr 1
    rw [Bool.eq_iff_iff, List.all_eq_true, List.all_eq_true]
    simp only [decide_eq_true_eq]
    have ne : ∀ y ∈ r, y ≠ x := fun y hy e => nd'.1 (e ▸ hy)
    exact ⟨fun h y hy => (List.mem_erase_of_ne (ne y hy)).mp (h y hy), fun h y hy => (List.mem_erase_of_ne (ne y hy)).mpr (h y hy)⟩
theorem set_bag {a : List Int} (ha : pl .set a = a) (b : List Int) : set0 a b = bag0 a b := by
  unfold set0 bag0
  rw [subM_nodup a b (asc_nodup (set_asc ha))]
theorem nodup_get : ∀ {a : List Int}, a.Nodup → ∀ {i j : Nat} {x : Int}, a[i]? = some x → a[j]? = some x → i = j
  | [], _, i, _, _, h, _ => by simp at h
  | y :: r, nd, i, j, x, hi, hj => by
    have nd' := List.nodup_cons.mp nd
    cases i with
    | zero =>
      cases j with
      | zero => rfl
      | succ j =>
        exfalso
        have e : y = x := Option.some.inj hi
        exact nd'.1 (e ▸ List.mem_of_getElem? (show r[j]? = some x from hj))
    | succ i =>
      cases j with
      | zero =>
        exfalso
        have e : y = x := Option.some.inj hj
        exact nd'.1 (e ▸ List.mem_of_getElem? (show r[i]? = some x from hi))
      | succ j => exact congrArg Nat.succ (nodup_get nd'.2 (show r[i]? = some x from hi) (show r[j]? = some x from hj))
theorem mem_drop {a : List Int} (nd : a.Nodup) {i n : Nat} {x : Int} (hi : a[i]? = some x) : x ∈ a.drop n ↔ n ≤ i := by
  constructor
  · intro h
    obtain ⟨j, hj⟩ := List.mem_iff_getElem?.mp h
    rw [List.getElem?_drop] at hj
    have := nodup_get nd hi hj
    omega
  · intro h
    refine List.mem_iff_getElem?.mpr ⟨i - n, ?_⟩
    rw [List.getElem?_drop, show n + (i - n) = i by omega]
    exact hi
theorem aft_at : ∀ {l : List Int}, l.Nodup → ∀ {i : Nat} {x : Int}, l[i]? = some x → aft x l = l.drop (i + 1)
  | [], _, i, _, h => by simp at h
  | y :: r, nd, i, x, h => by
    have nd' := List.nodup_cons.mp nd
    cases i with
    | zero =>
      have e : x = y := (Option.some.inj h).symm
      show (if x = y then r else aft x r) = r
      rw [if_pos e]
    | succ i =>
      have h' : r[i]? = some x := h
      have ne : ¬ x = y := fun e => nd'.1 (e ▸ List.mem_of_getElem? h')
      show (if x = y then r else aft x r) = r.drop (i + 1)
      rw [if_neg ne, aft_at nd'.2 h']
theorem kq_go {a b : List Int} (nd : a.Nodup) {n j i : Nat} {x : Int} (hx : b[j]? = some x) (hi : a[i]? = some x) (le : n ≤ i) : kq (a.drop n) (b.drop j) = kq (a.drop (i + 1)) (b.drop (j + 1)) + 1 := by
  obtain ⟨lt, e⟩ := List.getElem?_eq_some_iff.mp hx
  rw [List.drop_eq_getElem_cons lt, e]
  show (if x ∈ a.drop n then kq (aft x (a.drop n)) (b.drop (j + 1)) + 1 else 0) = _
  rw [if_pos ((mem_drop nd hi).mpr le)]
  have h2 : (a.drop n)[i - n]? = some x := by
    rw [List.getElem?_drop, show n + (i - n) = i by omega]
    exact hi
  rw [aft_at (nd.sublist (List.drop_sublist _ _)) h2, List.drop_drop, show n + (i - n + 1) = i + 1 by omega]
theorem kq_stop {a b : List Int} {n j : Nat} {x : Int} (hx : b[j]? = some x) (no : ¬ x ∈ a.drop n) : kq (a.drop n) (b.drop j) = 0 := by
  obtain ⟨lt, e⟩ := List.getElem?_eq_some_iff.mp hx
  rw [List.drop_eq_getElem_cons lt, e]
  exact if_neg no
theorem kq_end {a b : List Int} {n : Nat} : kq (a.drop n) (b.drop b.length) = 0 := by
  rw [List.drop_length]
  rfl
end Km

set_option Elab.async false
set_option linter.all false
/-! the rest of a bag as the program counts it: pairs of a letter and how often it is spare -/
namespace Km
abbrev Dn := List (Int × Nat)
def getN : Dn → Int → Nat
  | [], _ => 0
  | p :: r, x => if p.1 = x then p.2 else getN r x
def putN : Dn → Int → Nat → Dn
  | [], x, n => [(x, n)]
  | p :: r, x, n => if p.1 = x then (x, n) :: r else p :: putN r x n
def incN (d : Dn) (x : Int) : Dn := putN d x (getN d x + 1)
def decN (d : Dn) (x : Int) : Dn := putN d x (getN d x - 1)
def tally (b : List Int) : Dn := b.foldl incN []
def takeN : List Int → Dn → Option Dn
  | [], d => some d
  | x :: r, d => if getN d x = 0 then none else takeN r (decN d x)
def flatN (d : Dn) : List Int := d.flatMap fun p => List.replicate p.2 p.1
def bagR (a b : List Int) : Option (List Int) := (takeN a (tally b)).map flatN
def keysN (d : Dn) : List Int := d.map (·.1)
theorem getN_put (d : Dn) (x y : Int) (n : Nat) : getN (putN d x n) y = if x = y then n else getN d y := by
  induction d with
  | nil => show (if x = y then n else 0) = _; rfl
  | cons p r ih =>
    show getN (if p.1 = x then (x, n) :: r else p :: putN r x n) y = _
    by_cases h : p.1 = x
    · rw [if_pos h]
      show (if x = y then n else getN r y) = if x = y then n else if p.1 = y then p.2 else getN r y
      by_cases e : x = y
      · rw [if_pos e, if_pos e]
      · rw [if_neg e, if_neg e, if_neg (by rw [h]; exact e)]
    · rw [if_neg h]
      show (if p.1 = y then p.2 else getN (putN r x n) y) = if x = y then n else if p.1 = y then p.2 else getN r y
      rw [ih]
      by_cases e : p.1 = y
      · rw [if_pos e, if_pos e, if_neg (fun z => h (e.trans z.symm))]
      · rw [if_neg e, if_neg e]
theorem keys_put (d : Dn) (x : Int) (n : Nat) : keysN (putN d x n) = if x ∈ keysN d then keysN d else keysN d ++ [x] := by
  induction d with
  | nil => rfl
  | cons p r ih =>
    show keysN (if p.1 = x then (x, n) :: r else p :: putN r x n) = _
    by_cases h : p.1 = x
    · rw [if_pos h, if_pos (by show x ∈ p.1 :: keysN r; rw [h]; exact List.mem_cons_self)]
      show x :: keysN r = p.1 :: keysN r
      rw [h]
    · rw [if_neg h]
      show p.1 :: keysN (putN r x n) = _
      rw [ih]
      have : (x ∈ keysN (p :: r)) ↔ x ∈ keysN r := by
        show x ∈ p.1 :: keysN r ↔ _
        rw [List.mem_cons]
        exact ⟨fun z => z.resolve_left (fun q => h q.symm), .inr⟩
      by_cases e : x ∈ keysN r
      · rw [if_pos e, if_pos (this.mpr e)]; rfl
      · rw [if_neg e, if_neg (fun z => e (this.mp z))]; rfl
theorem getN_not {d : Dn} {x : Int} (h : ¬ x ∈ keysN d) : getN d x = 0 := by
  induction d with
  | nil => rfl
  | cons p r ih =>
    show (if p.1 = x then p.2 else getN r x) = 0
    rw [if_neg (fun z : p.1 = x => h (by rw [← z]; exact List.mem_cons_self)), ih (fun z => h (List.mem_cons_of_mem _ z))]
/-- the pairs tell the sorted row b -/
structure RelN (d : Dn) (b : List Int) : Prop where
  asc : (keysN d).Pairwise (· < ·)
  cnt : ∀ x, getN d x = b.count x
theorem count_flat {d : Dn} (h : (keysN d).Pairwise (· < ·)) (x : Int) : (flatN d).count x = getN d x := by
  induction d with
  | nil => rfl
  | cons p r ih =>
    have h' := List.pairwise_cons.mp (show (p.1 :: keysN r).Pairwise (· < ·) from h)
    show (List.replicate p.2 p.1 ++ flatN r).count x = if p.1 = x then p.2 else getN r x
    rw [List.count_append, ih h'.2, List.count_replicate]
    by_cases e : p.1 = x
    · subst e
      have : getN r p.1 = 0 := getN_not fun z => by have := h'.1 _ z; omega
      rw [if_pos rfl, this]
      simp
    · rw [if_neg e]
      have : (p.1 == x) = false := by simpa using e
      rw [this]
      simp
theorem mem_flat {d : Dn} {x : Int} (h : x ∈ flatN d) : x ∈ keysN d := by
  obtain ⟨p, hp, hx⟩ := List.mem_flatMap.mp h
  rw [(List.mem_replicate.mp hx).2]
  exact List.mem_map.mpr ⟨p, hp, rfl⟩
theorem sorted_flat {d : Dn} (h : (keysN d).Pairwise (· < ·)) : (flatN d).Pairwise (· ≤ ·) := by
  induction d with
  | nil => exact List.Pairwise.nil
  | cons p r ih =>
    have h' := List.pairwise_cons.mp (show (p.1 :: keysN r).Pairwise (· < ·) from h)
    show (List.replicate p.2 p.1 ++ flatN r).Pairwise (· ≤ ·)
    rw [List.pairwise_append]
    refine ⟨List.pairwise_replicate.mpr (.inr (Int.le_refl _)), ih h'.2, fun u hu v hv => ?_⟩
    rw [(List.mem_replicate.mp hu).2]
    have := h'.1 v (mem_flat hv)
    omega
theorem flat_rel {d : Dn} {b : List Int} (R : RelN d b) (hb : b.Pairwise (· ≤ ·)) : flatN d = b := by
  refine sorted_uniq (List.perm_iff_count.mpr fun x => ?_) (sorted_flat R.asc) hb
  rw [count_flat R.asc, R.cnt]
theorem rel_put {d : Dn} {x : Int} {n : Nat} (h : (keysN d).Pairwise (· < ·)) (q : x ∈ keysN d ∨ ∀ y ∈ keysN d, y < x) : (keysN (putN d x n)).Pairwise (· < ·) := by
  rw [keys_put]
  split
  · exact h
  · rename_i e
    rw [List.pairwise_append]
    refine ⟨h, List.pairwise_singleton _ _, fun u hu v hv => ?_⟩
    rw [List.mem_singleton.mp hv]
    exact (q.resolve_left e) u hu
theorem tally_snoc (b : List Int) (x : Int) : tally (b ++ [x]) = incN (tally b) x := by
  unfold tally
  rw [List.foldl_append]
  rfl
theorem tally_keys : ∀ (b : List Int) (d : Dn), (∀ x, x ∈ keysN (b.foldl incN d) ↔ x ∈ keysN d ∨ x ∈ b)
  | [], d, x => by simp
  | y :: r, d, x => by
    show x ∈ keysN (r.foldl incN (incN d y)) ↔ _
    rw [tally_keys r (incN d y) x]
    have : x ∈ keysN (incN d y) ↔ x ∈ keysN d ∨ x = y := by
      unfold incN
      rw [keys_put]
      split
      · rename_i e
        exact ⟨.inl, fun z => z.elim id fun z => z ▸ e⟩
      · simp
    rw [this, List.mem_cons, or_assoc]
theorem tally_rel : ∀ (c b : List Int) (d : Dn), RelN d b → (b ++ c).Pairwise (· ≤ ·) → (∀ x, x ∈ keysN d ↔ x ∈ b) → RelN (c.foldl incN d) (b ++ c)
  | [], b, d, R, _, _ => by rw [List.append_nil]; exact R
  | y :: r, b, d, R, h, hk => by
    have e : b ++ y :: r = (b ++ [y]) ++ r := by simp
    show RelN (r.foldl incN (incN d y)) _
    rw [e]
    rw [e] at h
    have hy : ∀ x ∈ b, x ≤ y := fun x hx => (List.pairwise_append.mp (List.pairwise_append.mp h).1).2.2 x hx y (by simp)
    refine tally_rel r (b ++ [y]) (incN d y) ⟨?_, fun x => ?_⟩ h fun x => ?_
    · refine rel_put R.asc ?_
      by_cases m : y ∈ keysN d
      · exact .inl m
      · refine .inr fun z hz => ?_
        have := hy z ((hk z).mp hz)
        have ne : z ≠ y := fun q => m (q ▸ hz)
        omega
    · unfold incN
      rw [getN_put, List.count_append, List.count_singleton, R.cnt]
      by_cases q : y = x
      · subst q; simp [R.cnt]
      · rw [if_neg q]
        have : (y == x) = false := by simpa using q
        simp [this, R.cnt]
    · have := tally_keys [y] d x
      show x ∈ keysN (incN d y) ↔ _
      rw [show incN d y = [y].foldl incN d from rfl, this, hk, List.mem_append]
theorem tally_ok {b : List Int} (h : b.Pairwise (· ≤ ·)) : RelN (tally b) b := by
  have := tally_rel b [] [] ⟨List.Pairwise.nil, fun _ => rfl⟩ (by simpa using h) (fun x => by simp [keysN])
  rw [List.nil_append] at this
  exact this
theorem take_ok : ∀ (a b : List Int) (d : Dn), RelN d b → b.Pairwise (· ≤ ·) → (takeN a d).map flatN = if subM a b then some (cutAll b a) else none
  | [], b, d, R, hb => by
    show some (flatN d) = some b
    rw [flat_rel R hb]
  | x :: r, b, d, R, hb => by
    show (if getN d x = 0 then none else takeN r (decN d x)).map flatN = if (decide (x ∈ b) && subM r (b.erase x)) then some (cutAll (b.erase x) r) else none
    rw [R.cnt]
    by_cases m : x ∈ b
    · have pos : 0 < b.count x := List.count_pos_iff.mpr m
      rw [if_neg (by omega), decide_eq_true m, Bool.true_and]
      refine take_ok r (b.erase x) (decN d x) ⟨?_, fun y => ?_⟩ (hb.sublist List.erase_sublist)
      · unfold decN
        refine rel_put R.asc (.inl ?_)
        apply Decidable.byContradiction
        intro z
        have := getN_not z
        rw [R.cnt] at this
        omega
      · unfold decN
        rw [getN_put, R.cnt]
        by_cases q : x = y
        · subst q
          rw [if_pos rfl, List.count_erase_self]
        · rw [if_neg q, R.cnt, List.count_erase_of_ne (fun z => q z.symm)]
    · rw [if_pos (List.count_eq_zero.mpr m), decide_eq_false m, Bool.false_and]
      rfl
theorem bagR_eq {a b : List Int} (hb : b.Pairwise (· ≤ ·)) : bagR a b = bag0 a b := take_ok a b _ (tally_ok hb) hb
end Km
namespace Km
theorem takeN_app : ∀ (l r : List Int) (d : Dn), takeN (l ++ r) d = (takeN l d).bind (takeN r)
  | [], r, d => rfl
  | x :: l, r, d => by
    show (if getN d x = 0 then none else takeN (l ++ r) (decN d x)) = (if getN d x = 0 then none else takeN l (decN d x)).bind (takeN r)
    split
    · rfl
    · exact takeN_app l r _
theorem flat_put (d : Dn) (x : Int) (n : Nat) : (flatN (putN d x n)).length + getN d x = (flatN d).length + n := by
  induction d with
  | nil => show (List.replicate n x ++ []).length + 0 = 0 + n; simp
  | cons p r ih =>
    show (flatN (if p.1 = x then (x, n) :: r else p :: putN r x n)).length + (if p.1 = x then p.2 else getN r x) = (List.replicate p.2 p.1 ++ flatN r).length + n
    by_cases e : p.1 = x
    · rw [if_pos e, if_pos e]
      show (List.replicate n x ++ flatN r).length + _ = _
      simp only [List.length_append, List.length_replicate]
      omega
    · rw [if_neg e, if_neg e]
      show (List.replicate p.2 p.1 ++ flatN (putN r x n)).length + _ = _
      simp only [List.length_append, List.length_replicate]
      omega
theorem flat_take {d : Dn} {i : Nat} {x : Int} {n : Nat} (h : d[i]? = some (x, n)) : flatN (d.take (i + 1)) = flatN (d.take i) ++ List.replicate n x := by
  rw [List.take_succ, h]
  show (d.take i ++ [(x, n)]).flatMap _ = _
  rw [List.flatMap_append]
  show _ ++ (List.replicate n x ++ []) = _
  rw [List.append_nil]
  rfl
theorem flat_le (d : Dn) (i : Nat) : (flatN (d.take i)).length ≤ (flatN d).length := by
  conv => rhs; rw [← List.take_append_drop i d]
  show _ ≤ ((d.take i ++ d.drop i).flatMap _).length
  rw [List.flatMap_append, List.length_append]
  exact Nat.le_add_right _ _
theorem get_at : ∀ {d : Dn} {i : Nat} {x : Int} {n : Nat}, (keysN d).Nodup → d[i]? = some (x, n) → x ∈ keysN d ∧ getN d x = n
  | [], _, _, _, _, h => by simp at h
  | p :: r, 0, x, n, nd, h => by
    have e : p = (x, n) := Option.some.inj h
    subst e
    exact ⟨List.mem_cons_self, if_pos rfl⟩
  | p :: r, i + 1, x, n, nd, h => by
    have nd' := List.nodup_cons.mp (show (p.1 :: keysN r).Nodup from nd)
    obtain ⟨h1, h2⟩ := get_at nd'.2 (show r[i]? = some (x, n) from h)
    have ne : p.1 ≠ x := fun z => nd'.1 (by rw [z]; exact h1)
    exact ⟨List.mem_cons_of_mem _ h1, by show (if p.1 = x then p.2 else getN r x) = n; rw [if_neg ne]; exact h2⟩
/-- what the program's two loops keep -/
structure DnOk (d : Dn) (n : Nat) : Prop where
  nd : (keysN d).Nodup
  len : d.length ≤ n
  sum : (flatN d).length ≤ n
theorem DnOk.nil : DnOk [] 0 := ⟨List.nodup_nil, Nat.le_refl _, Nat.le_refl _⟩
end Km
namespace Km
theorem nd_putN {d : Dn} {x : Int} {n : Nat} (nd : (keysN d).Nodup) : (keysN (putN d x n)).Nodup := by
  rw [keys_put]
  split
  · exact nd
  · rename_i e
    rw [List.nodup_append]
    refine ⟨nd, by simp, fun u hu v hv z => e ?_⟩
    rw [List.mem_singleton] at hv
    rw [← hv, ← z]
    exact hu
theorem len_putN (d : Dn) (x : Int) (n : Nat) : (putN d x n).length ≤ d.length + 1 := by
  have h : (keysN (putN d x n)).length ≤ (keysN d).length + 1 := by
    rw [keys_put]
    split
    · omega
    · simp
  simpa [keysN] using h
theorem DnOk.inc {d : Dn} {n : Nat} (h : DnOk d n) (x : Int) : DnOk (incN d x) (n + 1) := by
  have := flat_put d x (getN d x + 1)
  have := h.sum
  have := len_putN d x (getN d x + 1)
  have := h.len
  exact ⟨nd_putN h.nd, by unfold incN; omega, by unfold incN; omega⟩
theorem DnOk.dec {d : Dn} {n : Nat} (h : DnOk d n) (x : Int) : DnOk (decN d x) (n + 1) := by
  have := flat_put d x (getN d x - 1)
  have := h.sum
  have := len_putN d x (getN d x - 1)
  have := h.len
  exact ⟨nd_putN h.nd, by unfold decN; omega, by unfold decN; omega⟩
theorem tally_okN : ∀ (b : List Int), DnOk (tally b) b.length := fun b => by
  suffices z : ∀ (l : List Int) (d : Dn) (n : Nat), DnOk d n → DnOk (l.foldl incN d) (n + l.length) by
    have := z b [] 0 .nil
    rw [Nat.zero_add] at this
    exact this
  intro l
  induction l with
  | nil => intro d n h; exact h
  | cons x r ih =>
    intro d n h
    have := ih (incN d x) (n + 1) (h.inc x)
    rw [show n + (x :: r).length = n + 1 + r.length by simp only [List.length_cons]; omega]
    exact this
theorem tally_take {b : List Int} {i : Nat} {x : Int} (h : b[i]? = some x) : tally (b.take (i + 1)) = incN (tally (b.take i)) x := by
  rw [List.take_succ, h]
  exact tally_snoc _ _
theorem take_snoc {a : List Int} {i : Nat} {x : Int} {d0 d : Dn} (h : a[i]? = some x) (e : takeN (a.take i) d0 = some d) : takeN (a.take (i + 1)) d0 = if getN d x = 0 then none else some (decN d x) := by
  rw [List.take_succ, h]
  show takeN (a.take i ++ [x]) d0 = _
  rw [takeN_app, e]
  rfl
theorem take_none {a : List Int} {i : Nat} {x : Int} {d0 d : Dn} (h : a[i]? = some x) (e : takeN (a.take i) d0 = some d) (z : getN d x = 0) : takeN a d0 = none := by
  have q := take_snoc h e
  rw [if_pos z] at q
  conv => lhs; rw [← List.take_append_drop (i + 1) a]
  rw [takeN_app, q]
  rfl
end Km

set_option Elab.async false
set_option linter.all false
set_option maxRecDepth 100000
set_option maxHeartbeats 4000000
/-! set - set, of ints: the table of a copy, the walk, the members that go -/
namespace Kg
open PySem PySem.Spec PyProof.Rows L2 Lk
/-! ### a table that is laid anew has room -/
def orb (m : Nat) : Nat → Nat → List Nat
  | 0, _ => []
  | n + 1, i => i :: orb m n ((i * 5 + 1) % (m + 1))
def good (m : Nat) : Bool := (List.range (m + 1)).all fun i => (List.range (m + 1)).all fun j => (orb m (m + 1) i).contains j
theorem good_masks : good 7 = true ∧ good 15 = true ∧ good 31 = true ∧ good 63 = true := by decide +kernel
theorem lcgI_step (m : Nat) : ∀ (k i : Nat), lcgI m i (k + 1) = lcgI m ((i * 5 + 1) % (m + 1)) k
  | 0, _ => rfl
  | k + 1, i => by
    show (lcgI m i (k + 1) * 5 + 1) % (m + 1) = (lcgI m ((i * 5 + 1) % (m + 1)) k * 5 + 1) % (m + 1)
    rw [lcgI_step m k i]
theorem orb_mem (m : Nat) : ∀ (n i j : Nat), j ∈ orb m n i → ∃ k, k < n ∧ lcgI m i k = j
  | 0, _, _, h => by cases h
  | n + 1, i, j, h => by
    rcases List.mem_cons.mp h with e | h
    · exact ⟨0, Nat.succ_pos n, e.symm⟩
    · obtain ⟨k, hk, e⟩ := orb_mem m n _ j h
      exact ⟨k + 1, Nat.succ_lt_succ hk, (lcgI_step m k i).trans e⟩
theorem good_meets {m : Nat} (g : good m = true) {i j : Nat} (hi : i ≤ m) (hj : j ≤ m) : ∃ k, k ≤ m ∧ lcgI m i k = j := by
  have z := List.all_eq_true.mp (List.all_eq_true.mp g i (List.mem_range.mpr (Nat.lt_succ_of_le hi))) j (List.mem_range.mpr (Nat.lt_succ_of_le hj))
  obtain ⟨k, hk, e⟩ := orb_mem m (m + 1) i j (List.contains_iff_mem.mp z)
  exact ⟨k, Nat.le_of_lt_succ hk, e⟩
theorem free_none (m : Nat) (owner : Array (Option Nat)) : ∀ (f i b : Nat), SetTable.layClean.free m owner f i b = none → ∀ t, t < f → oAt owner (itL m i b t).1 ≠ none
  | 0, _, _, _, t, ht => absurd ht (Nat.not_lt_zero _)
  | f + 1, i, b, h, t, ht => by
    rw [free_succ] at h
    cases z : (List.range (SetTable.runEnd m i + 1 - i)).find? (fun k => (oAt owner (i + k)).isNone) with
    | some k => rw [z] at h; cases h
    | none =>
      rw [z] at h
      cases t with
      | zero =>
        intro q
        have y := List.find?_eq_none.mp z 0 (List.mem_range.mpr (by have := runEnd_ge m i; omega))
        have q : oAt owner i = none := q
        rw [Nat.add_zero, q] at y
        exact y rfl
      | succ t => exact free_none m owner f _ _ h t (Nat.lt_of_succ_lt_succ ht)
theorem free_is (m : Nat) (owner : Array (Option Nat)) : ∀ (f i b p : Nat), SetTable.layClean.free m owner f i b = some p → oAt owner p = none
  | 0, _, _, _, h => by cases h
  | f + 1, i, b, p, h => by
    rw [free_succ] at h
    cases z : (List.range (SetTable.runEnd m i + 1 - i)).find? (fun k => (oAt owner (i + k)).isNone) with
    | some k =>
      rw [z] at h
      cases (show i + k = p from Option.some.inj h)
      have y := List.find?_some z
      cases q : oAt owner (i + k) with
      | none => rfl
      | some _ => rw [q] at y; cases y
    | none =>
      rw [z] at h
      exact free_is m owner f _ _ p h
theorem free_some {m : Nat} (g : good m = true) (owner : Array (Option Nat)) (h : Int) {j : Nat} (hj : j ≤ m) (hf : oAt owner j = none) : ∃ p, SetTable.layClean.free m owner (SetTable.turns m) (SetTable.bits h % (m + 1)) (SetTable.bits h) = some p ∧ oAt owner p = none := by
  cases z : SetTable.layClean.free m owner (SetTable.turns m) (SetTable.bits h % (m + 1)) (SetTable.bits h) with
  | some p => exact ⟨p, rfl, free_is m owner _ _ _ p z⟩
  | none =>
    obtain ⟨k, hk, e⟩ := good_meets g (runI_le m (SetTable.bits h) 12) hj
    have y := free_none m owner _ _ _ z (12 + k) (by show 12 + k < m + 15; omega)
    rw [itL_run] at y
    have w : runI m (SetTable.bits h) (12 + k) = j := (runI_tail (bits_lt h) k).trans e
    rw [show (runI m (SetTable.bits h) (12 + k), SetTable.bits h / 32 ^ (12 + k)).1 = j from w] at y
    exact absurd hf y
theorem none_in {owner : Array (Option Nat)} {p : Nat} (h : oAt owner p = none) : p < owner.size := by
  rcases Nat.lt_or_ge p owner.size with lt | ge
  · exact lt
  · have e : owner.getD p (some 0) = some 0 := by rw [Array.getD_eq_getD_getElem?, Array.getElem?_eq_none ge] <;> rfl
    exact absurd (e.symm.trans h) (by simp)
structure Ow (m n : Nat) (owner : Array (Option Nat)) : Prop where
  sz : owner.size = m + 1
  lt : ∀ j k, oAt owner j = some k → j ≤ m → k < n
  ex : ∀ k, k < n → ∃ j, j ≤ m ∧ oAt owner j = some k
  ps : ∃ ps : List Nat, ps.length = n ∧ ∀ j, j ≤ m → oAt owner j ≠ none → j ∈ ps
theorem fold_lay {m : Nat} (g : good m = true) : ∀ (rest : List Int) (n : Nat) (owner : Array (Option Nat)), Ow m n owner → n + rest.length ≤ m → ∃ owner', rest.foldl (stepF m) (some (owner, n)) = some (owner', n + rest.length) ∧ Ow m (n + rest.length) owner'
  | [], n, owner, W, _ => ⟨owner, rfl, W⟩
  | h :: rest, n, owner, W, hl => by
    rw [List.length_cons] at hl
    obtain ⟨ps, hps, hin⟩ := W.ps
    obtain ⟨j, hj, hnot⟩ := st_missing ps (m + 1) (by omega)
    have hfree : oAt owner j = none := Classical.byContradiction fun c => hnot (hin j (Nat.le_of_lt_succ hj) c)
    obtain ⟨p, e, hp⟩ := free_some g owner h (Nat.le_of_lt_succ hj) hfree
    have pin := none_in hp
    have W' : Ow m (n + 1) (owner.setIfInBounds p (some n)) := by
      refine ⟨by rw [Array.size_setIfInBounds]; exact W.sz, fun i k hi him => ?_, fun k hk => ?_, p :: ps, by rw [List.length_cons, hps], fun i him hi => ?_⟩
      · by_cases c : i = p
        · subst c
          rw [oAt_set_self _ pin] at hi
          cases hi
          omega
        · rw [oAt_set_ne _ c] at hi
          have := W.lt i k hi him
          omega
      · by_cases c : k = n
        · subst c
          exact ⟨p, by have := W.sz; omega, oAt_set_self _ pin⟩
        · obtain ⟨i, h1, h2⟩ := W.ex k (by omega)
          exact ⟨i, h1, by rw [oAt_set_ne _ (fun z => by rw [z, hp] at h2; cases h2)]; exact h2⟩
      · by_cases c : i = p
        · rw [c]; exact List.mem_cons_self
        · rw [oAt_set_ne _ c] at hi
          exact List.mem_cons_of_mem _ (hin i him hi)
    obtain ⟨owner', f, W2⟩ := fold_lay g rest (n + 1) _ W' (by omega)
    refine ⟨owner', ?_, by rw [show n + (h :: rest).length = n + 1 + rest.length by rw [List.length_cons]; omega]; exact W2⟩
    rw [List.foldl_cons, stepF_some e, show n + (h :: rest).length = n + 1 + rest.length by rw [List.length_cons]; omega]
    exact f
theorem lay_ok {m : Nat} (g : good m = true) {hs : Array Int} (hn : hs.size ≤ m) : ∃ owner, SetTable.layClean m hs = some owner ∧ Ow m hs.size owner := by
  have W0 : Ow m 0 (Array.replicate (m + 1) none) := ⟨by simp, fun j k e hj => (by rw [oAt_init hj] at e; cases e), fun k hk => absurd hk (Nat.not_lt_zero _), [], rfl, fun j hj e => absurd (oAt_init hj) e⟩
  obtain ⟨owner, f, W⟩ := fold_lay g hs.toList 0 _ W0 (by rw [Array.length_toList]; omega)
  rw [Array.length_toList, Nat.zero_add] at f W
  exact ⟨owner, by rw [layClean_eq, f] <;> rfl, W⟩
/-- the table that a clean laying leaves -/
theorem laid_ok {m fi mv : Nat} {led pl : Bool} (g : good m = true) {hs : Array Int} (hn : hs.size ≤ m) : ∃ t' order, SetTable.laid m fi mv led pl hs = some (t', order) ∧ order.toList.Perm (List.range hs.size) ∧ Ris t'.place.toList ∧ t'.place.size = hs.size ∧ t'.dummies = #[] ∧ t'.mask = m ∧ t'.led = led := by
  obtain ⟨owner, e, W⟩ := lay_ok g hn
  have ris := ris_live (fun j => owner.getD j none) (List.range (m + 1)) (by unfold Ris; first | exact List.pairwise_lt_range | exact List.pairwise_lt_range _)
  have r1 : Ris ((liveOf m owner).map (·.1)) := ris.1
  have mem := fun {j k : Nat} => mem_live (owner := owner) (m := m) W.sz (j := j) (k := k)
  have all : ∀ k, k < hs.size → k ∈ (liveOf m owner).map (·.2) := fun k hk => by
    obtain ⟨j, h1, h2⟩ := W.ex k hk
    exact List.mem_map.mpr ⟨(j, k), mem.mpr ⟨h1, h2⟩, rfl⟩
  have hlen : (liveOf m owner).length = hs.size := by
    obtain ⟨ps, p1, p2⟩ := W.ps
    have up := nat_nodup_len ((liveOf m owner).map (·.1)) ps (show ((liveOf m owner).map (·.1)).Nodup from List.Pairwise.imp (fun h => Nat.ne_of_lt h) (show ((liveOf m owner).map (·.1)).Pairwise (· < ·) from r1)) fun x hx => by
      obtain ⟨⟨y, k⟩, hq, rfl⟩ := List.mem_map.mp hx
      obtain ⟨b1, b2⟩ := mem.mp hq
      exact p2 y b1 (by rw [b2]; simp)
    have down := nat_nodup_len (List.range hs.size) ((liveOf m owner).map (·.2)) List.nodup_range fun k hk => all k (List.mem_range.mp hk)
    rw [List.length_map, p1] at up
    rw [List.length_map, List.length_range] at down
    omega
  refine ⟨_, _, show SetTable.laid m fi mv led pl hs = _ from by unfold SetTable.laid; rw [e] <;> rfl, ?_, r1, ?_, rfl, rfl, rfl⟩
  · exact perm_range hs.size _ (by show ((liveOf m owner).map (·.2)).length = _; rw [List.length_map]; exact hlen) fun k hk => all k hk
  · show ((liveOf m owner).map (·.1)).toArray.size = _
    rw [List.size_toArray, List.length_map]
    exact hlen
end Kg

set_option Elab.async false
set_option linter.all false
set_option maxRecDepth 100000
set_option maxHeartbeats 4000000
namespace Kg
open PySem PySem.Spec PyProof.Rows L2 Lk
section
variable {P : Program} {w : World} {A : Around} {E : Value → Shared → Prop} {s : Shared} {a : Addr} {o : Obj} {es : Array (Int × Value)} {ep : Nat} {t : SetTable}
/-- the members of a set, in some order -/
theorem walk_at {Q : Array (Int × Value) → Shared → Prop} (ho : s.heap.get? a = some o) (hd : o.data = .set es ep t) (hf : t.fits es.size = true) (hl : w.params.followText "set-order" = true ∨ t.led = true)
    (h : ∀ xs d, xs.toList.Perm es.toList → Q xs { s with drawn := d }) : wpAny (model P w) A (setWalk a) Q E s := by
  unfold setWalk
  refine wpAny_bind (wpAny_setState_of ho hd hf (wpAny_bind (wpAny_byText ?_)))
  by_cases hb : w.params.followText "set-order" = true
  · exact wp_if_pos hb (wpAny_bind (wpAny_askSetting (wpAny_pure (h _ s.drawn (pick_perm _ es)))))
  · have hled : t.led = true := hl.resolve_left hb
    refine wp_if_neg hb ?_
    try refine wpAny_bind (wpAny_pure ?_)
    by_cases hdr : (!t.plain && decide (es.size > 1)) = true
    · refine wp_if_pos (show (!t.plain && decide (es.size > 1)) = true from hdr) ?_
      exact wpAny_bind (drawOrder_at es.size es.toList s _ (by rw [Array.length_toList]; exact Nat.le_refl _) fun ys d p => wpAny_pure (h _ d (by simpa using p)))
    · refine wp_if_neg (show ¬ (!t.plain && decide (es.size > 1)) = true from hdr) ?_
      try refine wpAny_bind (wpAny_pure ?_)
      refine wpAny_bind (wpAny_of_eq (a := ()) (show (if (!t.led && decide (es.size > 1)) = true then unsupported "set:maker-not-led" else pure ()) = pure () by rw [hled] <;> rfl) ?_)
      exact wpAny_pure (h es s.drawn (List.Perm.refl _))
theorem good_int {l : List (Int × Value)} (g : ∀ e ∈ l, GoodE e) : ∀ e ∈ l, ∀ b, e.2 ≠ .ref b := fun e he b z => by
  obtain ⟨k, tk, h, _⟩ := g e he
  rw [h] at z
  cases z
theorem entries_at {Q : Array (Int × Value) → Shared → Prop} (ho : s.heap.get? a = some o) (hd : o.data = .set es ep t) (hf : t.fits es.size = true) (h : Q es s) : wpAny (model P w) A (setEntries a) Q E s := by
  unfold setEntries
  exact wpAny_bind (wpAny_setState_of ho hd hf (wpAny_pure h))
/-- sets of ints are asked nothing -/
theorem quiet_at {Q : Bool → Shared → Prop} (sets : List Addr) (hs : ∀ b ∈ sets, ∃ S n, SetR w s.heap b S n) (h : Q true s) : wpAny (model P w) A (setsQuiet sets) Q E s := by
  unfold setsQuiet
  refine wpAny_bind (wpAny_forIn_list _ (fun rest r s' => s' = s ∧ r = (none, ()) ∧ ∀ b ∈ rest, ∃ S n, SetR w s.heap b S n) _ ?_ ?_ _ _ ⟨rfl, rfl, hs⟩)
  · rintro b rest r s' ⟨rfl, rfl, hr⟩
    obtain ⟨S, n, o, es, ep, t, ho, hex, hd, g, nd, hm, hb, hf, hn, hr2, hl⟩ := hr b List.mem_cons_self
    refine wpAny_bind (entries_at ho hd hf ?_)
    have gi := good_int g
    refine wpAny_bind (MeetsSeq2.wpAny_forIn_array _ (fun (rest : List (Int × Value)) r s'' => s'' = s' ∧ r.1 = none ∧ ∀ e ∈ rest, ∀ b : Addr, e.2 ≠ Value.ref b) _ ?_ ?_ _ _ ⟨rfl, rfl, gi⟩)
    · rintro ⟨hh, x⟩ rest2 r2 s2 ⟨rfl, e2, hg⟩
      have hx := hg (hh, x) List.mem_cons_self
      cases x with
      | ref b => exact absurd rfl (hx b)
      | _ => exact wpAny_pure ⟨rfl, rfl, fun e he => hg e (List.mem_cons_of_mem _ he)⟩
    · rintro ⟨r2, _⟩ s2 ⟨rfl, e2, _⟩
      cases (show r2 = none from e2)
      exact wpAny_pure ⟨rfl, rfl, fun b hb => hr b (List.mem_cons_of_mem _ hb)⟩
  · rintro r s' ⟨rfl, rfl, _⟩
    exact wpAny_pure h
/-- what a walk may touch -/
def Rel (w : World) (fl : Option Addr) (s s' : Shared) : Prop := ∃ h' d, s' = { s with heap := h', drawn := d } ∧ match fl with
  | none => h' = s.heap
  | some f => Heap.SameBut f s.heap h' ∧ ∀ S n, SetR w s.heap f S n → SetR w h' f S n
theorem unseen_at {others : List Addr} {fl : Option Addr} {Q : Array (Int × Value) → Shared → Prop} (ho : s.heap.get? a = some o) (hd : o.data = .set es ep t) (hf : t.fits es.size = true) (hl : w.params.followText "set-order" = true ∨ t.led = true)
    (hs : ∀ b ∈ a :: others, ∃ S n, SetR w s.heap b S n) (hfl : ∀ f, fl = some f → ∃ S n, SetR w s.heap f S n) (h : ∀ xs s', xs.toList.Perm es.toList → Rel w fl s s' → Q xs s') : wpAny (model P w) A (setWalkUnseen a others fl) Q E s := by
  have same : ∀ d, Rel w fl s { s with drawn := d } := fun d => ⟨s.heap, d, rfl, by
    cases fl with
    | none => rfl
    | some f => exact ⟨Heap.SameBut.refl f s.heap, fun S n r => r⟩⟩
  have plain : wpAny (model P w) A (setWalk a) Q E s := walk_at ho hd hf hl fun xs d p => h xs _ p (same d)
  unfold setWalkUnseen
  refine wpAny_bind (wpAny_setState_of ho hd hf (wpAny_bind (wpAny_byText ?_)))
  by_cases c : (w.params.followText "set-order" || (t.led && t.plain) || decide (es.size ≤ 1)) = true
  · exact wp_if_pos c plain
  refine wp_if_neg c ?_
  try refine wpAny_bind (wpAny_pure ?_)
  have hb : w.params.followText "set-order" = false := by
    cases z : w.params.followText "set-order" with
    | false => rfl
    | true => rw [z] at c; simp at c
  have hled : t.led = true := hl.resolve_left (by rw [hb]; exact Bool.false_ne_true)
  refine wpAny_bind (quiet_at _ hs ?_)
  refine wp_if_neg (by simp) ?_
  try refine wpAny_bind (wpAny_pure ?_)
  refine wpAny_bind (wpAny_rule ?_)
  cases fl with
  | none =>
    try refine wpAny_bind (wpAny_pure ?_)
    exact wpAny_pure (h es s (List.Perm.refl _) (same s.drawn))
  | some f =>
    obtain ⟨S, n, of', ef, epf, tf, hof, hexf, hdf, gf, ndf, hmf, hbf, hff, hnf, hrf, hlf⟩ := hfl f rfl
    refine wpAny_bind (wpAny_setState_of hof hdf hff ?_)
    have new : ∀ pl', SetR w (s.heap.update f (Obj.putSet ef { tf with led := tf.led && t.led, plain := pl' })) f S n := fun pl' =>
      ⟨_, ef, _, _, store_at hof hdf, hexf, rfl, gf, ndf, hmf, hbf, hff, hnf, hrf, .inr (by show (tf.led && t.led) = true; rw [hled, hlf.resolve_left (by rw [hb]; exact Bool.false_ne_true)] <;> rfl)⟩
    have only : ∀ S' n', SetR w s.heap f S' n' → (∀ k, S' k = S k) ∧ n' = n := fun S' n' ⟨o2, e2, p2, t2, g1, _, g3, _, _, g6, _, _, g9, _⟩ => by
      rw [hof] at g1
      cases g1
      rw [hdf] at g3
      cases g3
      exact ⟨fun k => by rw [Bool.eq_iff_iff, g6 k, hmf k], g9.symm.trans hnf⟩
    have rel : ∀ pl', Rel w (some f) s { s with heap := s.heap.update f (Obj.putSet ef { tf with led := tf.led && t.led, plain := pl' }) } := fun pl' => ⟨_, s.drawn, rfl, Heap.SameBut.update s.heap f _, fun S' n' r => by
      obtain ⟨e1, e2⟩ := only S' n' r
      rw [e2]
      exact (new pl').congr e1⟩
    by_cases c2 : ((tf.led && !t.led) || (tf.plain && !t.plain)) = true
    · refine wp_if_pos c2 ?_
      first
        | exact wpAny_bind (wpAny_storeSet_of hof hdf (wpAny_pure (h es _ (List.Perm.refl _) (rel _))) (fits_of_scanBound hbf))
        | exact wpAny_bind (wpAny_bind (wpAny_storeSet_of hof hdf (wpAny_pure (wpAny_pure (h es _ (List.Perm.refl _) (rel _)))) (fits_of_scanBound hbf)))
    · refine wp_if_neg c2 ?_
      first
        | exact wpAny_pure (h es s (List.Perm.refl _) (same s.drawn))
        | exact wpAny_bind (wpAny_pure (wpAny_pure (h es s (List.Perm.refl _) (same s.drawn))))
        | exact wpAny_bind (wpAny_pure (h es s (List.Perm.refl _) (same s.drawn)))
theorem sub_set : isSubtype (.type "set") (.type "set") = pure true := by rw [isSubtype_type]; kernel_rfl
theorem SetR.is_set {S : Int → Bool} {n : Nat} (R : SetR w s.heap a S n) : s.TypeIs (.ref a) "set" := by
  obtain ⟨o, _, _, _, ho, hex, _⟩ := R
  exact ⟨o, ho, hex.1⟩
theorem anySet_at {S : Int → Bool} {n : Nat} {Q : Bool → Shared → Prop} (R : SetR w s.heap a S n) (h : Q true s) : wpAny (model P w) A (Builtin.Frozenset.isAnySet (.ref a)) Q E s := by
  unfold Builtin.Frozenset.isAnySet
  exact wpAny_bind (wpAny_isInstance (T := "set") (b := true) (SetR.is_set R) sub_set (wpAny_pure h))
theorem base_at {S : Int → Bool} {n : Nat} {Q : Value → Shared → Prop} (R : SetR w s.heap a S n) (h : Q (.type "set") s) : wpAny (model P w) A (Builtin.Frozenset.baseOf a) Q E s := by
  unfold Builtin.Frozenset.baseOf
  exact wpAny_bind (wpAny_isInstance (T := "set") (b := true) (SetR.is_set R) sub_set (wpAny_pure h))
theorem size_at {S : Int → Bool} {n : Nat} {Q : Nat → Shared → Prop} (R : SetR w s.heap a S n) (h : Q n s) : wpAny (model P w) A (Builtin.Frozenset.sizeOf a) Q E s := by
  obtain ⟨o, es, ep, t, ho, hex, hd, g, nd, hm, hb, hf, hn, hr, hl⟩ := R
  unfold Builtin.Frozenset.sizeOf
  exact wpAny_bind (entries_at ho hd hf (wpAny_pure (by rw [hn]; exact h)))
/-- is a member there -/
theorem find_at {T : Int → Bool} {m : Nat} {k : Int} {tk : Tok} {Q : Option Nat → Shared → Prop} (R : SetR w s.heap a T m) (h : ∀ r : Option Nat, r.isSome = T k → Q r s) : wpAny (model P w) A (setFind a (.int k tk) (hashInt k)) Q E s := by
  obtain ⟨o, es, ep, t, ho, hex, hd, g, nd, hm, hb, hf, hn, hr, hl⟩ := R
  exact PySem.W.setFind_any (knd := intKind P w) (k := k) (x := .int k tk) (intKind_is P w k tk) rfl ho hd (good_elems g) (fun j => (hm j).trans (good_mem g j)) hb hf h
theorem firstNodup : ∀ (l D : List Int), l.Nodup → (∀ x ∈ l, x ∈ D) → l.length ≤ D.length
  | [], _, _, _ => Nat.zero_le _
  | x :: l, D, h, hs => by
    obtain ⟨h1, h2⟩ := List.nodup_cons.mp h
    have hx : x ∈ D := hs x List.mem_cons_self
    have ih := firstNodup l (D.erase x) h2 fun y hy => (List.mem_erase_of_ne fun e => h1 (by rw [← e]; exact hy)).mpr (hs y (List.mem_cons_of_mem _ hy))
    rw [List.length_erase_of_mem hx] at ih
    have := List.length_pos_of_mem hx
    rw [List.length_cons]
    omega
/-- what the new set holds behind some members -/
def Part (S T : Int → Bool) (done : List (Int × Value)) : Int → Bool := fun k => decide (k ∈ done.map keyOf) && !T k
theorem few_at {S : Int → Bool} {c : Nat} (R : SetR w s.heap a S c) (L : List Int) (h : ∀ k, S k = true → k ∈ L) : c ≤ L.length := by
  obtain ⟨o, es, ep, t, ho, hex, hd, g, nd, hm, hb, hf, hn, hr, hl⟩ := R
  have z := firstNodup (es.toList.map keyOf) L nd fun k hk => h k ((hm k).mpr hk)
  rw [List.length_map, Array.length_toList, hn] at z
  exact z
theorem epoch_at {Q : Nat → Shared → Prop} (ho : s.heap.get? a = some o) (hd : o.data = .set es ep t) (hf : t.fits es.size = true) (h : Q ep s) : wpAny (model P w) A (setEpoch a) Q E s := by
  unfold setEpoch
  exact wpAny_bind (wpAny_setState_of ho hd hf (wpAny_pure h))
/-- while members are looked at: the two sets stay, the new one grows -/
def Grow (w : World) (T : Int → Bool) (l r p : Addr) (m : Nat) (o : Obj) (s0 : Shared) (done : List (Int × Value)) (s' : Shared) : Prop :=
  (∀ b ob, s0.heap.get? b = some ob → s'.heap.get? b = some ob) ∧ s'.gens = s0.gens ∧ s'.os = s0.os ∧ s'.heap.get? l = some o ∧ SetR w s'.heap r T m ∧ ∃ c, SetR w s'.heap p (fun k => decide (k ∈ done.map keyOf) && !T k) c
theorem diff_few {l r : Addr} {S T : Int → Bool} {n m : Nat} {idn : String} {Q : Value → Shared → Prop} (R1 : SetR w s.heap l S n) (R2 : SetR w s.heap r T m) (hn31 : n ≤ 31) (hbig : ¬ n / 4 > m)
    (hQ : ∀ (s' : Shared) (c : Nat), (∀ b ob, s.heap.get? b = some ob → s'.heap.get? b = some ob) → s'.gens = s.gens → s'.os = s.os → SetR w s'.heap s.heap.objs.size (fun k => S k && !T k) c → Q (.ref s.heap.objs.size) s') :
    wpAny (model P w) A (Builtin.Frozenset.difference idn l (.ref r)) Q E s := by
  unfold Builtin.Frozenset.difference
  refine wpAny_bind (anySet_at R2 ?_)
  refine wp_if_neg (by simp) ?_
  try refine wpAny_bind (wpAny_pure ?_)
  unfold Builtin.Frozenset.addrOf
  refine wpAny_bind (size_at R2 ?_)
  refine wpAny_bind (size_at R1 ?_)
  refine wp_if_neg hbig ?_
  try refine wpAny_bind (wpAny_pure ?_)
  refine wpAny_bind (base_at R1 (wpAny_bind (PpSet.newSet_ok ?_)))
  try refine wpAny_bind (wpAny_pure ?_)
  have l1 := R1.lt
  have l2 := R2.lt
  have h0 : ∀ ob : Obj, ∀ b x, s.heap.get? b = some x → (s.heap.push ob).get? b = some x := fun ob b x z => Heap.get?_push_of_some _ z
  have fresh := setR_fresh (h := s.heap) w
  have R1' := R1.at (h' := s.heap.push { cls := .type "set", dict := none, data := .set #[] 0 (.fresh 0 0 (!w.params.followText "set-order")) }) (fun x z => h0 _ _ _ z)
  have R2' := R2.at (h' := s.heap.push { cls := .type "set", dict := none, data := .set #[] 0 (.fresh 0 0 (!w.params.followText "set-order")) }) (fun x z => h0 _ _ _ z)
  have k0 := h0 { cls := .type "set", dict := none, data := .set #[] 0 (.fresh 0 0 (!w.params.followText "set-order")) }
  generalize hs1 : ({ s with heap := s.heap.push { cls := .type "set", dict := none, data := .set #[] 0 (.fresh 0 0 (!w.params.followText "set-order")) } } : Shared) = s1
  have eh : s.heap.push { cls := .type "set", dict := none, data := .set #[] 0 (.fresh 0 0 (!w.params.followText "set-order")) } = s1.heap := by rw [← hs1]
  have eg : s1.gens = s.gens := by rw [← hs1]
  have eo : s1.os = s.os := by rw [← hs1]
  rw [eh] at R1' R2' fresh k0
  have R1c := R1'
  obtain ⟨o, es, ep, t, ho, hex, hd, g, nd, hm, hb, hf, hn, hr, hl⟩ := R1c
  refine wpAny_bind (epoch_at ho hd hf ?_)
  refine wpAny_bind (wpAny_holding (wpAny_bind (wp_if_pos rfl (unseen_at ho hd hf hl ?_ ?_ ?_))))
  · intro b hb
    simp only [List.mem_cons, List.not_mem_nil, or_false] at hb
    rcases hb with rfl | rfl | rfl
    · exact ⟨_, _, R1'⟩
    · exact ⟨_, _, R2'⟩
    · exact ⟨_, _, fresh⟩
  · intro f e
    cases e
    exact ⟨_, _, fresh⟩
  rintro xs s2 px ⟨h2, d2, rfl, sb, keep⟩
  have ne1 : l ≠ s.heap.objs.size := Nat.ne_of_lt l1
  have ne2 : r ≠ s.heap.objs.size := Nat.ne_of_lt l2
  have start : Grow w T l r s.heap.objs.size m o s [] { s1 with heap := h2, drawn := d2 } := by
    refine ⟨fun b ob z => ?_, eg, eo, (sb.2 l ne1).trans ho, R2'.at fun x z => (sb.2 r ne2).trans z, 0, ?_⟩
    · have lt := Heap.lt_size z
      exact (sb.2 b (Nat.ne_of_lt lt)).trans (k0 b ob z)
    · exact (keep _ _ fresh).congr fun k => by simp
  refine wpAny_bind (MeetsSeq2.wpAny_forIn_array _ (fun rest _ s' => ∃ done, xs.toList = done ++ rest ∧ Grow w T l r s.heap.objs.size m o s done s') _ ?_ ?_ xs _ ⟨[], rfl, start⟩)
  · rintro ⟨hh, v⟩ rest b s3 ⟨done, ed, q1, q2, q3, q4, q5, c, q6⟩
    have hmem : (hh, v) ∈ es.toList := px.mem_iff.mp (by rw [ed]; exact List.mem_append_right _ List.mem_cons_self)
    obtain ⟨k, tk, e1, e2⟩ := g _ hmem
    cases (show v = Value.int k tk from e1)
    cases (show hh = hashInt k from e2)
    have hk : keyOf (hashInt k, Value.int k tk) = k := rfl
    have hc : c ≤ 31 := by
      have z := few_at q6 (done.map keyOf) fun j hj => by
        simp only [Bool.and_eq_true, decide_eq_true_eq] at hj
        exact hj.1
      have y : done.length ≤ n := by
        rw [← hn, ← Array.length_toList, ← px.length_eq, ed, List.length_append]
        omega
      rw [List.length_map] at z
      omega
    refine wpAny_bind (wpAny_holding (wp_if_pos rfl (wpAny_bind (find_at q5 fun fo hfo => ?_))))
    have unch : ∀ {s4 : Shared} {Q' : ForInStep PUnit → Shared → Prop}, s4.heap.get? l = some o → Q' (.yield PUnit.unit) s4 → wpAny (model P w) A (do Builtin.Frozenset.unchanged idn l ep; pure (ForInStep.yield PUnit.unit)) Q' E s4 := fun {s4 Q'} z q => by
      unfold Builtin.Frozenset.unchanged
      refine wpAny_bind (wpAny_bind (epoch_at z hd hf ?_))
      exact wp_if_neg (by simp) (wpAny_pure (wpAny_pure q))
    have next : ∀ {s4 : Shared} {c' : Nat}, Heap.SameBut s.heap.objs.size s3.heap s4.heap → s4.gens = s3.gens → s4.os = s3.os → SetR w s4.heap s.heap.objs.size (fun j => decide (j ∈ (done ++ [(hashInt k, Value.int k tk)]).map keyOf) && !T j) c' →
        ∃ done, xs.toList = done ++ rest ∧ Grow w T l r s.heap.objs.size m o s done s4 := fun {s4 c'} sb4 z1 z2 z3 => by
      refine ⟨done ++ [(hashInt k, Value.int k tk)], by rw [ed, List.append_assoc] <;> rfl, fun b ob z => ?_, z1.trans q2, z2.trans q3, (sb4.2 l ne1).trans q4, q5.at fun x z => (sb4.2 r ne2).trans z, c', z3⟩
      have lt := Heap.lt_size z
      exact (sb4.2 b (Nat.ne_of_lt lt)).trans (q1 b ob z)
    have mem1 : ∀ j, decide (j ∈ (done ++ [(hashInt k, Value.int k tk)]).map keyOf) = (decide (j ∈ done.map keyOf) || decide (j = k)) := fun j => by
      rw [List.map_append, Bool.eq_iff_iff]
      simp [hk]
    by_cases ht : T k = true
    · refine wp_if_neg (by rw [hfo, ht]; simp) ?_
      refine wpAny_pure (unch q4 ?_)
      refine next (Heap.SameBut.refl _ _) rfl rfl (c' := c) (q6.congr fun j => ?_)
      rw [mem1]
      by_cases e : j = k
      · subst e; rw [ht]; simp
      · simp [e]
    · have ht' : T k = false := by simpa using ht
      refine wp_if_pos (by rw [hfo, ht']; simp) ?_
      refine wpAny_bind (setR_add_hashed q6 (by unfold scanBound; omega) fun h4 sb4 new => wpAny_pure (unch ((sb4.2 l ne1).trans q4) ?_))
      refine next (s4 := { s3 with heap := h4 }) sb4 rfl rfl (new.congr fun j => ?_)
      rw [mem1]
      by_cases e : j = k
      · subst e; rw [ht']; simp
      · simp [e]
  · rintro b s3 ⟨done, ed, q1, q2, q3, q4, q5, c, q6⟩
    rw [List.append_nil] at ed
    refine wpAny_pure (wpAny_pure (hQ s3 c q1 q2 q3 (q6.congr fun k => ?_)))
    rw [Bool.eq_iff_iff]
    have z : S k = true ↔ k ∈ done.map keyOf := by rw [hm k, ← ed]; exact (px.map keyOf).mem_iff.symm
    simp only [Bool.and_eq_true, decide_eq_true_eq, z]
end
end Kg

set_option Elab.async false
set_option linter.all false
set_option maxRecDepth 100000
set_option maxHeartbeats 4000000
namespace Kg
open PySem PySem.Spec PyProof.Rows L2 Lk
/-- a set of ints and its table: M the mask, at most D slots that were given up -/
def Tab (w : World) (h : Heap) (a : Addr) (S : Int → Bool) (M D : Nat) : Prop :=
  ∃ o es ep t, h.get? a = some o ∧ o.ExactSet ∧ o.data = .set es ep t ∧ (∀ e ∈ es.toList, GoodE e) ∧ (es.toList.map keyOf).Nodup ∧ (∀ k, S k = true ↔ k ∈ es.toList.map keyOf) ∧
    es.size < scanBound ∧ t.fits es.size = true ∧ Ris t.place.toList ∧ (w.params.followText "set-order" = true ∨ t.led = true) ∧ t.mask = M ∧ t.dummies.size ≤ D
theorem Tab.setR {w : World} {h : Heap} {a : Addr} {S : Int → Bool} {M D : Nat} (R : Tab w h a S M D) : ∃ c, SetR w h a S c := by
  obtain ⟨o, es, ep, t, h1, h2, h3, h4, h5, h6, h7, h8, h9, h10, _⟩ := R
  exact ⟨es.size, o, es, ep, t, h1, h2, h3, h4, h5, h6, h7, h8, rfl, h9, h10⟩
theorem Tab.congr {w : World} {h : Heap} {a : Addr} {S S' : Int → Bool} {M D : Nat} (R : Tab w h a S M D) (e : ∀ k, S' k = S k) : Tab w h a S' M D := by
  rw [show S' = S from funext e]
  exact R
theorem Tab.at {w : World} {h h' : Heap} {a : Addr} {S : Int → Bool} {M D : Nat} (R : Tab w h a S M D) (k : ∀ o, h.get? a = some o → h'.get? a = some o) : Tab w h' a S M D := by
  obtain ⟨o, es, ep, t, ho, r⟩ := R
  exact ⟨o, es, ep, t, k o ho, r⟩
section
variable {P : Program} {w : World} {A : Around} {E : Value → Shared → Prop} {s : Shared} {a : Addr} {o : Obj} {es : Array (Int × Value)} {ep : Nat} {t : SetTable}
theorem place_at {k : Int} {tk : Tok} {Q : Option Nat → Shared → Prop} (ho : s.heap.get? a = some o) (hd : o.data = .set es ep t) (hf : t.fits es.size = true) (g : ∀ e ∈ es.toList, GoodE e) (hb : es.size < scanBound)
    (h0 : k ∉ es.toList.map keyOf → Q none s) (h1 : ∀ i e, es.toList[i]? = some e → keyOf e = k → Q (some i) s) : wpAny (model P w) A (setFind a (.int k tk) (hashInt k)) Q E s := by
  have hel : ElemsOf (intKind P w) es.toList := good_elems g
  have hkey := intKind_is P w k tk
  unfold setFind setFindIn
  refine wpAny_bind (wpAny_setState_of ho hd hf ?_)
  dsimp only
  rw [byScan_of (knd := intKind P w) (show (Value.int k tk).scannable = true from rfl) hb hel]
  simp only [↓reduceIte]
  refine wpAny_bind (wpAny_rule (wpAny_bind (wpAny_setScan_of (knd := intKind P w) hkey ho hd hf hel ?_)))
  cases hr : List.findIdx? (fun e => (intKind P w).is k e.2) es.toList with
  | none =>
    dsimp only
    refine wpAny_pure (h0 fun z => ?_)
    obtain ⟨e, he, q⟩ := (good_mem (P := P) (w := w) g k).1 z
    have c := List.findIdx?_eq_none_iff.mp hr e he
    rw [q] at c
    cases c
  | some j =>
    dsimp only
    obtain ⟨hj, pj, _⟩ := List.findIdx?_eq_some_iff_getElem.mp hr
    rw [Nat.zero_add]
    exact wpAny_pure (h1 j _ (List.getElem?_eq_getElem hj) ((good_is (g _ (List.getElem_mem hj)) k).1 pj))
theorem erase_list {α : Type} (xs : Array α) (i : Nat) : (SetTable.eraseAt xs i).toList = xs.toList.take i ++ xs.toList.drop (i + 1) := by
  unfold SetTable.eraseAt
  rw [Array.toList_append, Array.toList_extract, Array.toList_extract]
  simp only [List.extract, Nat.sub_zero, List.drop_zero]
  congr 1
  exact List.take_of_length_le (by rw [List.length_drop, Array.length_toList]; exact Nat.le_refl _)
theorem erase_size {α : Type} (xs : Array α) {i : Nat} (h : i < xs.size) : (SetTable.eraseAt xs i).size = xs.size - 1 := by
  rw [← Array.length_toList, erase_list, List.length_append, List.length_take, List.length_drop, Array.length_toList]
  omega
theorem ins_size {α : Type} (xs : Array α) (p : Nat) (x : α) : (SetTable.insertAt xs p x).size = xs.size + 1 := by
  rw [← Array.length_toList, SetTable.toList_insertAt]
  simp only [List.length_append, List.length_cons, List.length_take, List.length_drop, Array.length_toList]
  omega
theorem nodup_cut {l : List Int} {i : Nat} {k : Int} (nd : l.Nodup) (h : l[i]? = some k) : (l.take i ++ l.drop (i + 1)).Nodup ∧ ∀ j, j ∈ l.take i ++ l.drop (i + 1) ↔ j ∈ l ∧ j ≠ k := by
  obtain ⟨lt, e⟩ := List.getElem?_eq_some_iff.mp h
  have el : l = l.take i ++ k :: l.drop (i + 1) := by
    rw [← e, ← List.drop_eq_getElem_cons lt, List.take_append_drop]
  have pm : l.Perm (k :: (l.take i ++ l.drop (i + 1))) := by
    conv => lhs; rw [el]
    exact List.perm_middle
  have nd2 := pm.nodup_iff.mp nd
  obtain ⟨n1, n2⟩ := List.nodup_cons.mp nd2
  refine ⟨n2, fun j => ⟨fun hj => ⟨pm.mem_iff.mpr (List.mem_cons_of_mem _ hj), fun z => n1 (by rw [← z]; exact hj)⟩, fun ⟨h1, h2⟩ => ?_⟩⟩
  rcases List.mem_cons.mp (pm.mem_iff.mp h1) with z | z
  · exact absurd z h2
  · exact z
/-- one member goes, if it is there -/
theorem discard_at {S : Int → Bool} {M D : Nat} {k : Int} {tk : Tok} {Q : Bool → Shared → Prop} (R : Tab w s.heap a S M D) (hQ : ∀ b h', Heap.SameBut a s.heap h' → Tab w h' a (fun j => S j && !decide (j = k)) M (D + 1) → Q b { s with heap := h' }) :
    wpAny (model P w) A (setDiscardHashed a (.int k tk) (hashInt k)) Q E s := by
  have R0 := R
  obtain ⟨o, es, ep, t, ho, hex, hd, g, nd, hm, hb, hf, hr, hl, hM, hD⟩ := R
  unfold setDiscardHashed
  refine wpAny_bind (place_at ho hd hf g hb (fun hk => ?_) fun i e hi he => ?_)
  · refine wpAny_pure (hQ _ s.heap (Heap.SameBut.refl _ _) ?_)
    refine ⟨o, es, ep, t, ho, hex, hd, g, nd, fun j => ?_, hb, hf, hr, hl, hM, by omega⟩
    rw [Bool.and_eq_true, hm j]
    refine ⟨fun z => z.1, fun z => ⟨z, ?_⟩⟩
    simp only [Bool.not_eq_true', decide_eq_false_iff_not]
    exact fun y => hk (y ▸ z)
  · dsimp only
    refine wpAny_bind (wpAny_setState_of ho hd hf ?_)
    dsimp only
    have lt : i < es.toList.length := (List.getElem?_eq_some_iff.mp hi).1
    rw [Array.length_toList] at lt
    have hf' := hf
    simp only [SetTable.fits, Bool.and_eq_true, beq_iff_eq, decide_eq_true_eq] at hf'
    have hpl : i < t.place.size := by omega
    refine wpAny_bind (wpAny_storeSet_of ho hd (wpAny_bind (wpAny_point (wpAny_pure (hQ _ _ (Heap.SameBut.update s.heap a _) ?_)))) ?_)
    · have hes : (SetTable.eraseAt es i).toList = es.toList.take i ++ es.toList.drop (i + 1) := erase_list es i
      have hsz := erase_size es lt
      have hkk : (es.toList.map keyOf)[i]? = some k := by rw [List.getElem?_map, hi, ← he] <;> rfl
      obtain ⟨n1, n2⟩ := nodup_cut nd hkk
      have hkeys : (SetTable.eraseAt es i).toList.map keyOf = (es.toList.map keyOf).take i ++ (es.toList.map keyOf).drop (i + 1) := by rw [hes, List.map_append, List.map_take, List.map_drop]
      have et : t.drop i = { t with place := SetTable.eraseAt t.place i, dummies := SetTable.insertAt t.dummies (SetTable.below t.dummies t.place[i]) t.place[i] } := by
        unfold SetTable.drop
        rw [Array.getElem?_eq_getElem hpl]
      have hps := erase_size t.place hpl
      have hds : (SetTable.insertAt t.dummies (SetTable.below t.dummies t.place[i]) t.place[i]).size = t.dummies.size + 1 := ins_size _ _ _
      rw [et]
      refine ⟨_, SetTable.eraseAt es i, ep + 1, _, store_at ho hd, hex, rfl, fun e he' => ?_, by rw [hkeys]; exact n1, fun j => ?_, by omega, ?_, ?_, hl, hM, by show (SetTable.insertAt t.dummies _ _).size ≤ _; rw [hds]; omega⟩
      · rw [hes] at he'
        exact g e ((List.mem_append.mp he').elim List.mem_of_mem_take List.mem_of_mem_drop)
      · rw [hkeys, n2, Bool.and_eq_true, hm j]
        simp
      · simp only [SetTable.fits, SetTable.fill, Bool.and_eq_true, beq_iff_eq, decide_eq_true_eq]
        have hfill : t.place.size + t.dummies.size ≤ t.mask := hf'.2
        refine ⟨by omega, ?_⟩
        refine decide_eq_true (show (SetTable.eraseAt t.place i).size + (SetTable.insertAt t.dummies (SetTable.below t.dummies t.place[i]) t.place[i]).size ≤ t.mask from ?_)
        omega
      · show Ris (SetTable.eraseAt t.place i).toList
        rw [erase_list]
        refine List.Pairwise.sublist ?_ hr
        conv => rhs; rw [← List.take_append_drop i t.place.toList]
        refine List.Sublist.append (List.Sublist.refl _) ?_
        rw [show t.place.toList.drop (i + 1) = (t.place.toList.drop i).drop 1 by rw [List.drop_drop]]
        exact List.drop_sublist 1 _
    · have := erase_size es lt
      exact fits_of_scanBound (by omega)
/-- the order of a table laid anew -/
theorem order_perm {order : Array Nat} {xs : Array (Int × Value)} (h : order.toList.Perm (List.range xs.size)) : (order.filterMap (xs[·]?)).toList.Perm xs.toList := by
  rw [Array.toList_filterMap]
  exact (h.filterMap _).trans (by rw [filterMap_getElem?_range])
theorem merge_eq (p l : Addr) (each : Sem Unit) : setMerge p l each = (do
    if p == l then return
    let (eo, epoch, to) ← setState l
    if eo.isEmpty then return
    (do if let some wanted := (← setState p).2.2.roomFor eo.size then setRelay p wanted)
    let (_, _, ts) ← setState p
    match ts.road to with
    | .slotForSlot => storeSet p eo { to with finger := ts.finger, led := ts.led && to.led, moves := ts.moves, plain := ts.plain && to.plain }
    | .clean =>
      let (es, t) ← (do
        let some (t, order) := SetTable.laid ts.mask ts.finger ts.moves (ts.led && to.led) (ts.plain && to.plain) (eo.map (·.1)) | unsupported "internal:set-table-without-room"
        let es' := order.filterMap (eo[·]?)
        if es'.size != eo.size then unsupported "internal:set-table-lost-an-element"
        pure (es', t) : Sem (Array (Int × Value) × SetTable))
      storeSet p es t
    | .oneByOne =>
      for (h, x) in ← setWalkUnseen l [p] (some p) do
        let _ ← holding [x] (setAddHashed p x h)
        each
        if (← setState l).2.1 != epoch then unsupported "set.changed-during-merge") := by rfl
/-- the masks of a table for n members -/
theorem mask_of : ∀ n, n ≤ 31 → 5 ≤ n → ∃ M, SetTable.sizeAbove ((0 + n) * 2) - 1 = M ∧ good M = true ∧ n ≤ M ∧ ¬ SetTable.sizeAbove ((0 + n) * 2) > sizeLine := by
  have key : ∀ n, n < 32 → 5 ≤ n → (SetTable.sizeAbove ((0 + n) * 2) - 1 = 15 ∨ SetTable.sizeAbove ((0 + n) * 2) - 1 = 31 ∨ SetTable.sizeAbove ((0 + n) * 2) - 1 = 63) ∧ n ≤ SetTable.sizeAbove ((0 + n) * 2) - 1 ∧ ¬ SetTable.sizeAbove ((0 + n) * 2) > 16777216 := by decide +kernel
  intro n h1 h2
  obtain ⟨a, b, c⟩ := key n (by omega) h2
  obtain ⟨g7, g15, g31, g63⟩ := good_masks
  refine ⟨_, rfl, ?_, b, by rw [sizeLine_eq]; exact c⟩
  rcases a with e | e | e <;> rw [e] <;> assumption
end
end Kg

set_option Elab.async false
set_option linter.all false
set_option maxRecDepth 100000
set_option maxHeartbeats 4000000
namespace Kg
open PySem PySem.Spec PyProof.Rows L2 Lk
section
variable {P : Program} {w : World} {A : Around} {E : Value → Shared → Prop} {s : Shared} {a : Addr} {o : Obj} {es : Array (Int × Value)} {ep : Nat} {t : SetTable}
/-- an empty set whose table has room for n -/
def Room0 (w : World) (h : Heap) (p : Addr) (n : Nat) : Prop := ∃ o ep t, h.get? p = some o ∧ o.ExactSet ∧ o.data = .set #[] ep t ∧ t.fits 0 = true ∧ t.place = #[] ∧ t.dummies = #[] ∧ (w.params.followText "set-order" = true ∨ t.led = true) ∧ good t.mask = true ∧ n ≤ t.mask
theorem room_at {n : Nat} {p : Addr} {Q : Unit → Shared → Prop} (ho : s.heap.get? p = some o) (hex : o.ExactSet) (hd : o.data = .set #[] ep (.fresh 0 0 (!w.params.followText "set-order"))) (h4 : 4 ≤ n) (h31 : n ≤ 31)
    (hQ : ∀ h', Heap.SameBut p s.heap h' → Room0 w h' p n → Q () { s with heap := h' }) :
    wpAny (model P w) A (do if let some wanted := (← setState p).2.2.roomFor n then setRelay p wanted) Q E s := by
  have led : w.params.followText "set-order" = true ∨ (!w.params.followText "set-order") = true := by cases w.params.followText "set-order" <;> simp
  have fit : (SetTable.fresh 0 0 (!w.params.followText "set-order")).fits (#[] : Array (Int × Value)).size = true := by rfl
  refine wpAny_bind (wpAny_setState_of ho hd fit ?_)
  dsimp only
  by_cases c : (0 + n) * 5 ≥ 7 * 3
  · have e : (SetTable.fresh 0 0 (!w.params.followText "set-order")).roomFor n = some ((0 + n) * 2) := if_pos c
    rw [e]
    dsimp only
    obtain ⟨M, hM, gM, nM, big⟩ := mask_of n h31 (by omega)
    rw [setRelay_eq]
    refine wpAny_bind (wpAny_setState_of ho hd fit ?_)
    dsimp only
    refine wp_if_neg big ?_
    try refine wpAny_bind (wpAny_pure ?_)
    obtain ⟨t', order, e1, e2, e3, e4, e5, e6, e7⟩ := laid_ok (m := M) (fi := (SetTable.fresh 0 0 (!w.params.followText "set-order")).finger) (mv := (SetTable.fresh 0 0 (!w.params.followText "set-order")).movedTo M) (led := (SetTable.fresh 0 0 (!w.params.followText "set-order")).led) (pl := (SetTable.fresh 0 0 (!w.params.followText "set-order")).plain) gM (hs := #[]) (Nat.zero_le _)
    have e0 : (SetTable.fresh 0 0 (!w.params.followText "set-order")).relaid ((#[] : Array (Int × Value)).map (·.1)) ((0 + n) * 2) = some (t', order) := by
      unfold SetTable.relaid
      rw [hM, show ((#[] : Array (Int × Value)).map (·.1)) = #[] from by simp]
      exact e1
    rw [e0]
    dsimp only
    have eo : order = #[] := by
      have z := e2.length_eq
      rw [Array.length_toList] at z
      exact Array.eq_empty_of_size_eq_zero (by simpa using z)
    subst eo
    refine wpAny_bind (wp_if_neg (by simp) (wpAny_pure ?_))
    have ex : Array.filterMap (fun (x : Nat) => (#[] : Array (Int × Value))[x]?) (#[] : Array Nat) = #[] := by simp
    refine wpAny_storeSet_of ho hd (hQ _ (Heap.SameBut.update s.heap p _) ?_) (by rw [ex]; exact Nat.zero_le _)
    have pl : t'.place = #[] := Array.eq_empty_of_size_eq_zero (by rw [e4] <;> rfl)
    rw [ex]
    refine ⟨_, _, t', store_at ho hd, hex, rfl, ?_, pl, e5, ?_, by rw [e6]; exact gM, by rw [e6]; exact nM⟩
    · simp only [SetTable.fits, SetTable.fill, pl, e5]
      simp
    · rcases led with z | z
      · exact .inl z
      · exact .inr (e7.trans z)
  · have e : (SetTable.fresh 0 0 (!w.params.followText "set-order")).roomFor n = none := if_neg c
    rw [e]
    dsimp only
    refine wpAny_pure (hQ s.heap (Heap.SameBut.refl _ _) ⟨o, ep, _, ho, hex, hd, rfl, rfl, rfl, led, good_masks.1, by show n ≤ 7; omega⟩)
/-- a copy of a set of 4 to 31 ints -/
theorem merge_at {l p : Addr} {S : Int → Bool} {n : Nat} {op : Obj} {epp : Nat} {Q : Unit → Shared → Prop} (ne : p ≠ l) (R : SetR w s.heap l S n) (ho : s.heap.get? p = some op) (hex : op.ExactSet) (hd : op.data = .set #[] epp (.fresh 0 0 (!w.params.followText "set-order"))) (h4 : 4 ≤ n) (h31 : n ≤ 31)
    (hQ : ∀ h' M, Heap.SameBut p s.heap h' → Tab w h' p S M 0 → n ≤ M → Q () { s with heap := h' }) : wpAny (model P w) A (setMerge p l) Q E s := by
  have R0 := R
  obtain ⟨o, es, ep, t, hol, hexl, hdl, g, nd, hm, hb, hf, hn, hr, hl⟩ := R
  rw [merge_eq]
  refine wp_if_neg (by simp [ne]) ?_
  try refine wpAny_bind (wpAny_pure ?_)
  refine wpAny_bind (wpAny_setState_of hol hdl hf ?_)
  dsimp only
  have hne : es.isEmpty = false := by
    rw [Array.isEmpty_eq_false_iff]
    intro z
    rw [z] at hn
    have : 0 = n := hn
    omega
  refine wp_if_neg (by rw [hne]; exact Bool.false_ne_true) ?_
  try refine wpAny_bind (wpAny_pure ?_)
  rw [hn]
  refine wpAny_bind (room_at ho hex hd h4 h31 fun h1 sb1 rm => ?_)
  obtain ⟨o1, ep1, t1, q1, q2, q3, q4, q5, q6, q7, q8, q9⟩ := rm
  have hol1 : h1.get? l = some o := (sb1.2 l (Ne.symm ne)).trans hol
  refine wpAny_bind (wpAny_setState_of (s := { s with heap := h1 }) q1 q3 q4 ?_)
  dsimp only
  have fill0 : (t1.fill != 0) = false := by unfold SetTable.fill; rw [q5, q6] <;> rfl
  have led : ∀ b : Bool, b = (t1.led && t.led) → w.params.followText "set-order" = true ∨ b = true := fun b eb => by
    rcases q7 with z | z
    · exact .inl z
    · rcases hl with y | y
      · exact .inl y
      · exact .inr (by rw [eb, z, y] <;> rfl)
  by_cases c : (t1.mask == t.mask && t.dummies.isEmpty) = true
  · have er : t1.road t = .slotForSlot := by unfold SetTable.road; rw [if_neg (by rw [fill0]; exact Bool.false_ne_true), if_pos c]
    rw [er]
    dsimp only
    simp only [Bool.and_eq_true, beq_iff_eq, Array.isEmpty_iff] at c
    refine wpAny_storeSet_of (s := { s with heap := h1 }) q1 q3 (hQ _ t.mask (sb1.trans (Heap.SameBut.update h1 p _)) ?_ (by rw [← c.1]; exact q9)) (fits_of_scanBound hb)
    exact ⟨_, es, _, _, store_at q1 q3, q2, rfl, g, nd, hm, hb, hf, hr, led _ rfl, rfl, by show t.dummies.size ≤ 0; rw [c.2]; exact Nat.le_refl _⟩
  · have er : t1.road t = .clean := by unfold SetTable.road; rw [if_neg (by rw [fill0]; exact Bool.false_ne_true), if_neg c]
    rw [er]
    dsimp only
    obtain ⟨t', order, e1, e2, e3, e4, e5, e6, e7⟩ := laid_ok (m := t1.mask) (fi := t1.finger) (mv := t1.moves) (led := t1.led && t.led) (pl := t1.plain && t.plain) q8 (hs := es.map (·.1)) (by rw [Array.size_map, hn]; exact q9)
    rw [e1]
    dsimp only
    rw [Array.size_map] at e2 e4
    have pm := order_perm (xs := es) e2
    have hsz : (order.filterMap (es[·]?)).size = es.size := by rw [← Array.length_toList, pm.length_eq, Array.length_toList]
    refine wpAny_bind (wp_if_neg (by rw [hsz, hn]; simp) (wpAny_pure ?_))
    refine wpAny_storeSet_of (s := { s with heap := h1 }) q1 q3 (hQ _ t1.mask (sb1.trans (Heap.SameBut.update h1 p _)) ?_ q9) (fits_of_scanBound (by rw [hsz]; exact hb))
    refine ⟨_, _, _, t', store_at q1 q3, q2, rfl, fun e he => g e (pm.mem_iff.mp he), (pm.map keyOf).nodup_iff.mpr nd, fun k => (hm k).trans (pm.map keyOf).mem_iff.symm, by rw [hsz]; exact hb, ?_, e3, led _ e7, e6, by rw [e5]; exact Nat.le_refl _⟩
    simp only [SetTable.fits, SetTable.fill, Bool.and_eq_true, beq_iff_eq]
    refine ⟨by rw [e4, hsz], decide_eq_true ?_⟩
    rw [e4, e5, e6, hn]
    exact q9
end
end Kg

set_option Elab.async false
set_option linter.all false
set_option maxRecDepth 100000
set_option maxHeartbeats 4000000
namespace Kg
open PySem PySem.Spec PyProof.Rows L2 Lk
section
variable {P : Program} {w : World} {A : Around} {E : Value → Shared → Prop} {s : Shared}
theorem upd_at {p r : Addr} {S T : Int → Bool} {n m M : Nat} {idn : String} {Q : Unit → Shared → Prop} (T1 : Tab w s.heap p S M 0) (R1 : SetR w s.heap p S n) (R2 : SetR w s.heap r T m) (ne : p ≠ r) (few : m ≤ M / 4) (low : ¬ m / 8 > n)
    (hQ : ∀ s' : Shared, Heap.SameBut p s.heap s'.heap → s'.gens = s.gens → s'.os = s.os → (∃ c, SetR w s'.heap p (fun k => S k && !T k) c) → Q () s') : wpAny (model P w) A (Builtin.Frozenset.differenceUpdate idn p (.ref r)) Q E s := by
  have R2c := R2
  obtain ⟨o, es, ep, t, ho, hex, hd, g, nd, hm, hb, hf, hn, hr, hl⟩ := R2c
  unfold Builtin.Frozenset.differenceUpdate
  refine wp_if_neg (by show ¬ ((Value.ref r == Value.ref p) = true); intro z; have := eq_of_beq z; exact ne (by cases this; rfl)) ?_
  try refine wpAny_bind (wpAny_pure ?_)
  refine wpAny_bind (anySet_at R2 ?_)
  refine wp_if_pos rfl ?_
  unfold Builtin.Frozenset.addrOf
  refine wpAny_bind (wpAny_pure (wpAny_bind (size_at R2 ?_)))
  refine wpAny_bind (size_at R1 ?_)
  refine wp_if_neg low ?_
  try refine wpAny_bind (wpAny_pure ?_)
  refine wpAny_bind (epoch_at ho hd hf ?_)
  refine wpAny_bind (wpAny_holding (wpAny_bind (unseen_at ho hd hf hl ?_ (fun f z => nomatch z) ?_)))
  · intro b hb
    simp only [List.mem_cons, List.not_mem_nil, or_false] at hb
    rcases hb with rfl | rfl
    · exact ⟨_, _, R2⟩
    · exact ⟨_, _, R1⟩
  rintro xs s2 px ⟨h2, d2, rfl, rfl⟩
  have R2k : ∀ h', Heap.SameBut p s.heap h' → h'.get? r = some o := fun h' sb => (sb.2 r (Ne.symm ne)).trans ho
  refine wpAny_bind (MeetsSeq2.wpAny_forIn_array _ (fun rest _ s' => ∃ done, xs.toList = done ++ rest ∧ Heap.SameBut p s.heap s'.heap ∧ s'.gens = s.gens ∧ s'.os = s.os ∧ Tab w s'.heap p (fun k => S k && !decide (k ∈ done.map keyOf)) M done.length) _ ?_ ?_ xs _ ⟨[], rfl, Heap.SameBut.refl _ _, rfl, rfl, T1.congr fun k => by simp⟩)
  · rintro ⟨hh, v⟩ rest b s3 ⟨done, ed, q1, q2, q3, q4⟩
    have hmem : (hh, v) ∈ es.toList := px.mem_iff.mp (by rw [ed]; exact List.mem_append_right _ List.mem_cons_self)
    obtain ⟨k, tk, e1, e2⟩ := g _ hmem
    cases (show v = Value.int k tk from e1)
    cases (show hh = hashInt k from e2)
    refine wpAny_bind (wpAny_holding (discard_at q4 fun bb h4 sb4 new => ?_))
    unfold Builtin.Frozenset.unchanged
    refine wpAny_bind (wpAny_bind (epoch_at (s := { s3 with heap := h4 }) (R2k h4 (q1.trans sb4)) hd hf ?_))
    refine wp_if_neg (by simp) (wpAny_pure (wpAny_pure ?_))
    refine ⟨done ++ [(hashInt k, Value.int k tk)], by rw [ed, List.append_assoc] <;> rfl, q1.trans sb4, q2, q3, ?_⟩
    rw [List.length_append]
    refine new.congr fun j => ?_
    rw [List.map_append, Bool.eq_iff_iff]
    simp [show keyOf (hashInt k, Value.int k tk) = k from rfl, and_assoc]
  · rintro b s3 ⟨done, ed, q1, q2, q3, q4⟩
    rw [List.append_nil] at ed
    have q5 := q4
    obtain ⟨o5, es5, ep5, t5, z1, z2, z3, z4, z5, z6, z7, z8, z9, z10, z11, z12⟩ := q4
    have dn : done.length = m := by rw [← ed, px.length_eq, Array.length_toList, hn]
    refine wpAny_pure ?_
    unfold setTidy
    refine wpAny_bind (wpAny_setState_of z1 z3 z8 ?_)
    dsimp only
    refine wp_if_neg ?_ (wpAny_pure (hQ s3 q1 q2 q3 ?_))
    · unfold SetTable.tooManyDummies
      rw [decide_eq_true_eq, z11]
      omega
    · obtain ⟨c, hc⟩ := q5.setR
      refine ⟨c, hc.congr fun k => ?_⟩
      have z : T k = decide (k ∈ done.map keyOf) := by
        rw [Bool.eq_iff_iff, hm k, decide_eq_true_eq, ← ed]
        exact (px.map keyOf).mem_iff.symm
      rw [z]
theorem few_nodup {a b : Addr} {h h' : Heap} {S : Int → Bool} {n m : Nat} (R : SetR w h a S n) (R' : SetR w h' b S m) : n = m := by
  obtain ⟨o, es, ep, t, ho, hex, hd, g, nd, hm, hb, hf, hn, hr, hl⟩ := R
  obtain ⟨o', es', ep', t', ho', hex', hd', g', nd', hm', hb', hf', hn', hr', hl'⟩ := R'
  have x := firstNodup (es.toList.map keyOf) (es'.toList.map keyOf) nd fun k hk => (hm' k).mp ((hm k).mpr hk)
  have y := firstNodup (es'.toList.map keyOf) (es.toList.map keyOf) nd' fun k hk => (hm k).mp ((hm' k).mpr hk)
  rw [List.length_map, List.length_map, Array.length_toList, Array.length_toList] at x y
  omega
theorem diff_many {l r : Addr} {S T : Int → Bool} {n m : Nat} {idn : String} {Q : Value → Shared → Prop} (R1 : SetR w s.heap l S n) (R2 : SetR w s.heap r T m) (hn31 : n ≤ 31) (hbig : n / 4 > m)
    (hQ : ∀ (s' : Shared) (c : Nat), (∀ b ob, s.heap.get? b = some ob → s'.heap.get? b = some ob) → s'.gens = s.gens → s'.os = s.os → SetR w s'.heap s.heap.objs.size (fun k => S k && !T k) c → Q (.ref s.heap.objs.size) s') :
    wpAny (model P w) A (Builtin.Frozenset.difference idn l (.ref r)) Q E s := by
  unfold Builtin.Frozenset.difference
  refine wpAny_bind (anySet_at R2 ?_)
  refine wp_if_neg (by simp) ?_
  try refine wpAny_bind (wpAny_pure ?_)
  unfold Builtin.Frozenset.addrOf
  refine wpAny_bind (size_at R2 ?_)
  refine wpAny_bind (size_at R1 ?_)
  refine wp_if_pos hbig ?_
  refine wpAny_bind (wpAny_rule ?_)
  unfold Builtin.Frozenset.copyOf
  refine wpAny_bind (wpAny_bind (base_at R1 (wpAny_bind (PpSet.newSet_ok ?_))))
  have l1 := R1.lt
  have l2 := R2.lt
  have k0 : ∀ b x, s.heap.get? b = some x → (s.heap.push { cls := .type "set", dict := none, data := .set #[] 0 (.fresh 0 0 (!w.params.followText "set-order")) }).get? b = some x := fun b x z => Heap.get?_push_of_some _ z
  have R1' := R1.at fun x z => k0 _ x z
  have R2' := R2.at fun x z => k0 _ x z
  have new := Heap.get?_push_size s.heap (o := { cls := .type "set", dict := none, data := .set #[] 0 (.fresh 0 0 (!w.params.followText "set-order")) }) rfl
  have ne1 : s.heap.objs.size ≠ l := Ne.symm (Nat.ne_of_lt l1)
  have ne2 : s.heap.objs.size ≠ r := Ne.symm (Nat.ne_of_lt l2)
  unfold Builtin.Frozenset.addrOf
  try refine wpAny_bind (wpAny_pure ?_)
  refine wpAny_bind (merge_at (s := { s with heap := s.heap.push { cls := .type "set", dict := none, data := .set #[] 0 (.fresh 0 0 (!w.params.followText "set-order")) } }) ne1 R1' new ⟨rfl, rfl, rfl⟩ rfl (by omega) hn31 fun h2 M sb tab nM => ?_)
  refine wpAny_pure ?_
  have kp : ∀ b x, s.heap.get? b = some x → h2.get? b = some x := fun b x z => (sb.2 b (Nat.ne_of_lt (Heap.lt_size z))).trans (k0 b x z)
  have hn : SetR w h2 s.heap.objs.size S n := by
    obtain ⟨c, hc⟩ := tab.setR
    have z1 := few_nodup hc R1
    rw [← z1]
    exact hc
  try refine wpAny_bind (wpAny_pure ?_)
  refine wpAny_bind (wpAny_holding (wpAny_bind (wpAny_pure (upd_at (s := { s with heap := h2 }) tab hn (R2.at fun x z => kp _ x z) ne2 (by omega) (by omega) fun s3 sb3 g3 o3 ⟨c, hc⟩ => wpAny_pure (hQ s3 c (fun b x z => (sb3.2 b (Nat.ne_of_lt (Heap.lt_size z))).trans (kp b x z)) g3 o3 hc)))))
/-- l - r -/
theorem diff_at {l r : Addr} {S T : Int → Bool} {n m : Nat} {idn : String} {Q : Value → Shared → Prop} (R1 : SetR w s.heap l S n) (R2 : SetR w s.heap r T m) (hn31 : n ≤ 31)
    (hQ : ∀ (s' : Shared) (c : Nat), (∀ b ob, s.heap.get? b = some ob → s'.heap.get? b = some ob) → s'.gens = s.gens → s'.os = s.os → SetR w s'.heap s.heap.objs.size (fun k => S k && !T k) c → Q (.ref s.heap.objs.size) s') :
    wpAny (model P w) A (Builtin.Frozenset.difference idn l (.ref r)) Q E s := by
  by_cases h : n / 4 > m
  · exact diff_many R1 R2 hn31 h hQ
  · exact diff_few R1 R2 hn31 h hQ
end
end Kg

set_option Elab.async false
set_option linter.all false
set_option maxRecDepth 100000
set_option maxHeartbeats 1000000
namespace Kg
open PySem PySem.Spec PyProof.Rows L2 Lk
/-! ### the operator, and len -/
theorem entry_set_sub : entryFor table "set.__sub__" = some Builtin.«frozenset.__sub__» :=
  entryFor_alias (id' := "frozenset.__sub__") (by kernel_rfl) (by first | rfl | decide +kernel | (unfold String.splitOn; simp +decide [String.splitOnAux])) (by decide +kernel) (by kernel_rfl)
section
variable {X : Cx}
def rSub (w : World) : V → V → Hp → VK → Prop := fun x y H Q => ∃ (a b : Addr) (S T : Int → Bool) (n m : Nat), x = .ref a ∧ y = .ref b ∧ H a = some (SetO w a S n) ∧ H b = some (SetO w b T m) ∧ n ≤ 31 ∧
  ∀ p c, H p = none → Q (.ref p) (upd H p (SetO w p (fun k => S k && !T k) c))
theorem op_sub_set : OpR X (binaryOp .Sub) (rSub X.w) := by
  intro pins s σ H x y v u Q I rx ry h
  obtain ⟨a, b, S, T, n, m, rfl, rfl, ha, hb, hn, q⟩ := h
  cases (show v = Value.ref a from rx)
  cases (show u = Value.ref b from ry)
  have R1 := setO_get I ha
  have R2 := setO_get I hb
  refine wpAny_binaryOp_same (T := "set") (SetR.is_set R1) (SetR.is_set R2) F.fills_set_sub F.slot_set_sub ?_
  refine wpAny_call_entry F.slot_set_sub (SetR.is_set R1) entry_set_sub ?_ (F.args_set_sub_2 _ _)
  show wpAny _ _ (Builtin.Frozenset.slot1 "__sub__" ⟨[.ref a, .ref b], []⟩ >>= _) _ _ _
  refine wpAny_bind (wpAny_of_eq (a := (Value.ref a, Value.ref b)) rfl ?_)
  dsimp only
  refine wpAny_bind (wpAny_bind (anySet_at R1 ?_))
  try refine wpAny_bind (wpAny_pure ?_)
  show wpAny _ _ (Builtin.Frozenset.isAnySet (.ref b)) _ _ _
  refine anySet_at R2 ?_
  refine wp_if_neg (by simp) ?_
  try refine wpAny_bind (wpAny_pure ?_)
  show wpAny _ _ (Builtin.Frozenset.difference _ a (.ref b) >>= fun v => ret v) _ _ _
  refine wpAny_bind (diff_at R1 R2 hn fun s' c kk hg ho new => ?_)
  have I1 : Inv X pins σ (upd H s.heap.objs.size (SetO X.w s.heap.objs.size (fun k => S k && !T k) c)) { s with heap := s'.heap, toks := s'.toks } := I.laid (t' := s'.toks) kk (Nat.le_refl _) (setO_new new)
  have I2 : Inv X pins σ (upd H s.heap.objs.size (SetO X.w s.heap.objs.size (fun k => S k && !T k) c)) s' := I1.call' (ch := []) ho (Un.kept fun b ob e => e) (I1.hok.kept fun b ob e => e) (by rw [hg]; exact I.bare) (fun _ z => nomatch z)
  refine wpAny_pure ⟨.ref s.heap.objs.size, rfl, ?_, ?_⟩
  · intro z; exact Value.noConfusion z
  · exact ⟨.ref s.heap.objs.size, _, I2, rfl, q _ c (I.hok.fresh (Nat.le_refl _))⟩
end
end Kg

set_option Elab.async false
set_option linter.all false
set_option maxRecDepth 100000
set_option maxHeartbeats 1000000
namespace Kg
open PySem PySem.Spec PyProof.Rows L2 Lk
section
variable {X : Cx}
/-- len(a set of ints) -/
def rLenS (w : World) : List V → Hp → VK → Prop := fun xs H Q => ∃ (a : Addr) (S : Int → Bool) (n : Nat), xs = [.ref a] ∧ H a = some (SetO w a S n) ∧ ((n = 0 ↔ ∀ k, S k = false) → Q (.int n) H)
theorem zero_iff {w : World} {h : Heap} {a : Addr} {S : Int → Bool} {n : Nat} (R : SetR w h a S n) : n = 0 ↔ ∀ k, S k = false := by
  obtain ⟨o, es, ep, t, ho, hex, hd, g, nd, hm, hb, hf, hn, hr, hl⟩ := R
  refine ⟨fun e k => ?_, fun h => ?_⟩
  · cases z : S k with
    | false => rfl
    | true =>
      have y := (hm k).mp z
      have : es.toList = [] := List.length_eq_zero_iff.mp (by rw [Array.length_toList]; omega)
      rw [this] at y
      cases y
  · rcases Nat.eq_zero_or_pos n with z | z
    · exact z
    · have lt : 0 < es.toList.length := by rw [Array.length_toList]; omega
      have y := (hm (keyOf es.toList[0])).mpr (List.mem_map.mpr ⟨_, List.getElem_mem lt, rfl⟩)
      rw [h] at y
      cases y
theorem call_lenS : CallR X (.builtin "len") (rLenS X.w) := by
  intro pins s σ H xs us Q I r h
  obtain ⟨a, S, n, rfl, ha, q⟩ := h
  rw [Vals.ref1 r]
  have R := setO_get I ha
  have z := zero_iff R
  obtain ⟨o, es, ep, t, ho, hex, hd, g, nd, hm, hb, hf, hn, hr, hl⟩ := R
  have hn63 := line63
  have hb' : es.size < 4096 := hb
  refine call_len_set ho hex hd hf (by omega) ⟨.int n, H, I.tok _, ⟨_, by rw [hn]⟩, q z⟩
end
end Kg

set_option Elab.async false
set_option linter.all false
set_option maxRecDepth 100000
set_option maxHeartbeats 4000000
/-! dicts of ints; a walk over a dict's keys in a comprehension of two clauses; t.count; xs.remove -/
namespace Kx
open PySem PySem.Spec PyProof.Rows L2 Lk Kd Km
def dnV (d : Dn) : List (L2.Key × V) := d.map fun p => (Sum.inl p.1, V.int (p.2 : Int))
theorem valV_dn (d : Dn) (x : Int) : valV (dnV d) (Sum.inl x) = if x ∈ keysN d then some (.int (getN d x : Int)) else none := by
  induction d with
  | nil => rfl
  | cons p r ih =>
    show valV ((Sum.inl p.1, V.int (p.2 : Int)) :: dnV r) (Sum.inl x) = _
    by_cases e : p.1 = x
    · rw [valV_pos (by rw [e])]
      rw [if_pos (by show x ∈ p.1 :: keysN r; rw [e]; exact List.mem_cons_self)]
      show _ = some (V.int ((if p.1 = x then p.2 else getN r x : Nat) : Int))
      rw [if_pos e]
    · rw [valV_neg (fun z => e (Sum.inl.inj z)), ih]
      show _ = if x ∈ p.1 :: keysN r then some (V.int ((if p.1 = x then p.2 else getN r x : Nat) : Int)) else none
      rw [if_neg e]
      by_cases m : x ∈ keysN r
      · rw [if_pos m, if_pos (List.mem_cons_of_mem _ m)]
      · rw [if_neg m, if_neg (fun z => (List.mem_cons.mp z).elim (fun q => e q.symm) m)]
theorem get_dn (d : Dn) (x : Int) : (valV (dnV d) (Sum.inl x)).getD (.int 0) = .int (getN d x : Int) := by
  rw [valV_dn]
  by_cases m : x ∈ keysN d
  · rw [if_pos m] <;> rfl
  · rw [if_neg m, getN_not m] <;> rfl
theorem put_dn (d : Dn) (x : Int) (n : Nat) (nd : (keysN d).Nodup) : putK (dnV d) (Sum.inl x) (.int (n : Int)) = dnV (putN d x n) := by
  induction d with
  | nil => rfl
  | cons p r ih =>
    have nd' := List.nodup_cons.mp (show (p.1 :: keysN r).Nodup from nd)
    have ih := ih nd'.2
    show putK ((Sum.inl p.1, V.int (p.2 : Int)) :: dnV r) (Sum.inl x) (.int (n : Int)) = dnV (if p.1 = x then (x, n) :: r else p :: putN r x n)
    by_cases e : p.1 = x
    · rw [if_pos e]
      unfold putK
      rw [if_pos (by rw [List.any_cons, decide_eq_true (by rw [e]), Bool.true_or]), List.map_cons, if_pos (by rw [e])]
      show _ = (Sum.inl x, V.int (n : Int)) :: dnV r
      rw [e]
      congr 1
      unfold dnV
      rw [List.map_map]
      refine List.map_congr_left fun q hq => ?_
      have : q.1 ≠ x := fun z => nd'.1 (by rw [e, ← z]; exact List.mem_map.mpr ⟨q, hq, rfl⟩)
      show (if (Sum.inl q.1 : L2.Key) = Sum.inl x then _ else _) = _
      rw [if_neg (fun z => this (Sum.inl.inj z))]
    · rw [if_neg e]
      show _ = (Sum.inl p.1, V.int (p.2 : Int)) :: dnV (putN r x n)
      rw [← ih]
      unfold putK
      rw [List.any_cons, decide_eq_false (fun z => e (Sum.inl.inj z)), Bool.false_or]
      split
      · rw [List.map_cons, if_neg (fun z => e (Sum.inl.inj z))]
      · rfl
theorem dn_len (d : Dn) : (dnV d).length = d.length := by simp [dnV]
theorem valV_at {d : Dn} {i : Nat} {x : Int} {n : Nat} (nd : (keysN d).Nodup) (h : d[i]? = some (x, n)) : some (V.int (n : Int)) = valV (dnV d) (Sum.inl x) := by
  obtain ⟨h1, h2⟩ := get_at nd h
  rw [valV_dn, if_pos h1, h2]
theorem dn_get {d : Dn} {i : Nat} {k : L2.Key} {v : V} (h : (dnV d)[i]? = some (k, v)) : ∃ x n, d[i]? = some (x, n) ∧ k = Sum.inl x ∧ v = .int ((n : Nat) : Int) := by
  unfold dnV at h
  rw [List.getElem?_map] at h
  cases e : d[i]? with
  | none => rw [e] at h; cases h
  | some p =>
    rw [e] at h
    have z := Option.some.inj h
    exact ⟨p.1, p.2, rfl, (Prod.ext_iff.mp z).1.symm, (Prod.ext_iff.mp z).2.symm⟩
/-! ### comprehensions: over a locked dict; an inner range -/
theorem lc2_keys {d : Addr} {od : Obj} {kvs : List (L2.Key × V)} {g g1 : TG} {tt tt1 : TT} {wi1 : TI} {te : TE} {vs vs1 : List Nat} {σ : L2.St} {H1 : Hp} {D : Addr} {Qd : Hp → Prop} (Pv : Nat → Hp → Prop) (h0 : Pv 0 (upd H1 D (.lst []))) (hl : ∀ i H, i ≤ kvs.length → Pv i H → H d = some (.frz od (.dK kvs))) (hd : ∀ H, Pv kvs.length H → Qd H)
    (hs : ∀ i k v H, kvs[i]? = some (k, v) → Pv i H → g (kV k) (wipe σ vs) H fun σ2 H2 => wipe σ2 vs = wipe σ vs ∧ tt σ2 H2 fun b H3 => if b = true then wi1 σ2 H3 fun J1 H4 => Kc.In2 g1 tt1 te vs1 D (Pv (i + 1)) σ2 J1 H4 else Pv (i + 1) H3) :
    ∃ W : Nat → Nat → Hp → Prop, (∃ m, W 0 m (upd H1 D (.lst []))) ∧ ∀ i m H, W i m H → ((Itk d od kvs).stop i H ∧ Qd H) ∨ ((Itk d od kvs).go i H ∧ ∃ Nx : Hp → Prop, (∀ H', Nx H' → ∃ m', m' < m ∧ W (i + 1) m' H') ∧
      ∀ x H', (Itk d od kvs).yld i H x H' → g x (wipe σ vs) H' fun σ2 H2 => wipe σ2 vs = wipe σ vs ∧ tt σ2 H2 fun b H3 => if b = true then wi1 σ2 H3 fun J1 H4 => Kc.In2 g1 tt1 te vs1 D Nx σ2 J1 H4 else Nx H3) := by
  refine ⟨fun i m H => m = kvs.length - i ∧ i ≤ kvs.length ∧ Pv i H, ⟨kvs.length, rfl, Nat.zero_le _, h0⟩, fun i m H ⟨em, hi, p⟩ => ?_⟩
  subst em
  have q := hl i H hi p
  rcases Nat.lt_or_ge i kvs.length with lt | ge
  · refine .inr ⟨⟨q, lt⟩, Pv (i + 1), fun H' p' => ⟨kvs.length - (i + 1), by omega, rfl, lt, p'⟩, ?_⟩
    rintro x H' ⟨rfl, k, v, hk, rfl⟩
    exact hs i k v _ hk p
  · have ei : i = kvs.length := by omega
    subst ei
    exact .inl ⟨⟨q, Nat.le_refl _⟩, hd H p⟩
theorem in2_range {n : Nat} {lo : Int} {g1 : TG} {tt1 : TT} {te : TE} {vs1 : List Nat} {σ2 : L2.St} {H4 : Hp} {D : Addr} {Nx : Hp → Prop} (Pv : Nat → Hp → Prop) (h0 : Pv 0 H4) (hd : ∀ H, Pv n H → Nx H)
    (hs : ∀ i H, i < n → Pv i H → g1 (.int (lo + (i : Int))) (wipe σ2 vs1) H fun σ3 H5 => wipe σ3 vs1 = wipe σ2 vs1 ∧ tt1 σ3 H5 fun b H6 => if b = true then te σ3 H6 fun y H7 => ∃ acc, H7 D = some (.lst acc) ∧ acc.length < sizeLine ∧ Pv (i + 1) (upd H7 D (.lst (acc ++ [y]))) else Pv (i + 1) H6) :
    Kc.In2 g1 tt1 te vs1 D Nx σ2 (Itr lo n) H4 := by
  refine ⟨fun i m H => m = n - i ∧ i ≤ n ∧ Pv i H, ⟨n, rfl, Nat.zero_le _, h0⟩, fun i m H ⟨em, hi, p⟩ => ?_⟩
  subst em
  rcases Nat.lt_or_ge i n with lt | ge
  · refine .inr ⟨lt, Pv (i + 1), fun H' p' => ⟨n - (i + 1), by omega, rfl, lt, p'⟩, ?_⟩
    rintro x H' ⟨rfl, rfl⟩
    exact hs i _ lt p
  · have ei : i = n := by omega
    subst ei
    exact .inl ⟨Nat.le_refl _, hd H p⟩
/-! ### t.count(x) of a tuple of ints -/
def rCntT (K : PySem.W.Frag) : V → List V → Hp → VK → Prop := fun x xs H Q => ∃ (p : Addr) (ns : List Int) (k : Int), x = .ref p ∧ xs = [.int k] ∧ SqT K H p (ns.map V.int) ∧ Q (.int (ns.count k : Nat)) H
theorem mt_tcount {X : Cx} : MtR X "tuple.count" (rCntT X.K) := by
  intro pins s σ H x xs v us Q I rx rxs h
  obtain ⟨p, ns, k, rfl, rfl, hs, q⟩ := h
  cases rx
  obtain ⟨u, rfl, ru⟩ := rxs.one
  obtain ⟨t, rfl⟩ := ru
  obtain ⟨its, rv, ⟨⟨cls, dd, data, sl⟩, ho, hc, n, hd⟩, hlen⟩ := I.tuple hs
  simp only at hc hd
  subst hc hd
  have hi := ints_of_vals rv
  refine call_meets PySem.F.slot_tuple_count ⟨_, ho, rfl⟩ PySem.F.entry_tuple_count (PySem.F.args_tuple_count_2 _ _)
    (SeqAt.tuple_countAt p its.toArray n dd sl (.int k t) (eqk k)) ⟨ho, fun y hy => (eqk_gives hi y (by simpa using hy)).at _ _, ?_⟩
  have ec : its.toArray.toList.countP (eqk k) = ns.count k := eqk_count hi
  refine ⟨.int (ns.count k : Nat), H, I.tok _, ⟨s.toks, ?_⟩, q⟩
  show Value.int ((its.toArray.toList.countP (eqk k) : Nat) : Int) s.toks = Value.int ((ns.count k : Nat) : Int) s.toks
  rw [ec]
end Kx

set_option Elab.async false
set_option linter.all false
set_option maxRecDepth 100000
set_option maxHeartbeats 4000000
/-! y = {k: v for ..} -/
namespace Kz
open PySem PySem.Spec PyProof.Rows L2 Lk Kd Kx
section
variable {X : Cx}
theorem ps_setDc {i : Nat} {y : Str} {py : Pos} {kx vx tg iter : Expr} {ifs : List Expr} {scope : Scope} {own : List (Str × Nat)} {pos spos : Pos} {wi : TI} {g : TG} {tt : TT} {tk tv : TE} (hc : X.calm = true) (hN : X.N.Nodup) (hy : X.N[i]? = some y) (hyl : X.env.scope.names.lookup y = some .local)
    (hsw : swapsWith (.DictComp kx vx [⟨tg, iter, ifs, 0⟩] scope pos) (some (.Name y py)) spos.line X.env = pure true) (hi : PI X tg iter wi) (ok : BlkOk X.N X.env.scope scope own)
    (hg : ∀ (s : Shared) (H : Hp) (C : Addr) (cl : List (Str × Addr)) (fp : List Addr), PG (X.blk s H scope (compEnvC scope cl C X.env) fp) tg g) (ht : ∀ (s : Shared) (H : Hp) (C : Addr) (cl : List (Str × Addr)) (fp : List Addr), PTs (X.blk s H scope (compEnvC scope cl C X.env) fp) ifs tt)
    (hk : ∀ (s : Shared) (H : Hp) (C : Addr) (cl : List (Str × Addr)) (fp : List Addr), PE (X.blk s H scope (compEnvC scope cl C X.env) fp) kx tk)
    (he : ∀ (s : Shared) (H : Hp) (C : Addr) (cl : List (Str × Addr)) (fp : List Addr), PE (X.blk s H scope (compEnvC scope cl C X.env) fp) vx tv) (hs : ∀ x, foldedSetIterable iter X.env x = pure x := by intro _; rfl) :
    PS X (.Assign [.Name y py] (.DictComp kx vx [⟨tg, iter, ifs, 0⟩] scope pos) spos) (tAsg (tDc wi g tt tk tv (own.map (·.2))) (gName i)) := by
  refine ⟨fun pins s σ H D I h => ?_⟩
  rw [exec_Assign_Name_used _ _ _ _ hsw]
  refine wpAny_bind (wpAny_standAt (wpAny_bind ?_))
  show wpAny _ X.A (do let _ ← comprehension (.DictComp kx vx [⟨tg, iter, ifs, 0⟩] scope pos) scope X.env (firstIterPos [⟨tg, iter, ifs, 0⟩] pos) newDict false (eval iter X.env) (some (assign (.Name y py) X.env))) _ _ s
  have h : tDc wi g tt tk tv (own.map (·.2)) σ H (fun x H1 => gName i x σ H1 D.nx) := h
  refine wpAny_bind (thn (dc_core (Qf := fun _ s' => SP X pins D .next s') hc hN I hi ok hg ht hk he hs h fun L C s' m H' I' q hn f => ?_) fun _ s' hq => wpAny_pure (wpAny_pure hq))
  show wpAny _ _ (assign (.Name y py) X.env (.ref L)) _ _ _
  refine wpAny_assign_Name (store_ok2 (v := V.ref L) I' hN hy (.inl hyl) rfl (fun s2 I2 ⟨a, sb, ha⟩ => ?_) (.inr hyl))
  obtain ⟨f0, f1, f2, f3, f4, f5⟩ := f
  have haC : C ≠ a := by
    rcases ha with z | z
    · rw [z]; exact f1
    · exact fun e => f4 y a z e.symm
  refine ⟨m, hn.sameBut sb haC, fun h3 sb3 => ?_⟩
  exact ⟨_, H', I2.turned (t' := s2.toks) (fun b o hb e => (sb3.2 b hb).trans e) f0 f1 f3 f4 f5, q⟩
theorem sw_dict {kx vx : Expr} {gs : List Comprehension} {sp : Scope} {ps py : Pos} {y : Str} {l : Nat} {env : Env} (hk : env.scope.kind = .function) (hy : env.scope.names.lookup y = some .local) (hl : (py.line == ps.line) = true)
    (ha : (sp.names.any fun (n, k) => n == y && (k == .local || k == .cell)) = false) : swapsWith (.DictComp kx vx gs sp ps) (some (.Name y py)) l env = pure true := by
  have hb : env.blockKind = .function := by unfold Env.blockKind; rw [hk] <;> rfl
  unfold swapsWith
  simp only [hb, show env.kindOf y = some .local from hy, ha, Expr.pos, hl]
  rfl
end
/-- {.. for i, x in enumerate(a tuple)} -/
theorem dc_enT {K : PySem.W.Frag} {a : Addr} {xs : List V} {g : TG} {tt : TT} {tk tv : TE} {vs : List Nat} {σ : L2.St} {H1 : Hp} {D : Addr} {Qd : Hp → Prop} (Pv : Nat → Hp → Prop) (h0 : Pv 0 (upd H1 D (.dK []))) (hl : ∀ i H, i ≤ xs.length → Pv i H → SqT K H a xs)
    (hs : ∀ i x H T, xs[i]? = some x → Pv i H → H T = none → g (.ref T) (wipe σ vs) (upd H T (.tup [.int (i : Nat), x])) fun σ2 H2 => wipe σ2 vs = wipe σ vs ∧ tt σ2 H2 fun b H3 =>
      if b = true then tk σ2 H3 fun y H4 => tv σ2 H4 fun z H5 => ∃ kvs k, y = kV k ∧ H5 D = some (.dK kvs) ∧ kvs.length < sizeLine ∧ Pv (i + 1) (upd H5 D (.dK (putK kvs k z))) else Pv (i + 1) H3) (hd : ∀ H, Pv xs.length H → Qd H) :
    ∃ W : Nat → Nat → Hp → Prop, (∃ m, W 0 m (upd H1 D (.dK []))) ∧ ∀ i m H, W i m H →
      ((Kc.ItT K a).stop i H ∧ Qd H) ∨ ((Kc.ItT K a).go i H ∧ ∃ Nx : Hp → Prop, (∀ H', Nx H' → ∃ m', m' < m ∧ W (i + 1) m' H') ∧ ∀ x H', (Kc.ItT K a).yld i H x H' → g x (wipe σ vs) H' fun σ2 H2 => wipe σ2 vs = wipe σ vs ∧ tt σ2 H2 fun b H3 =>
        if b = true then tk σ2 H3 fun y H4 => tv σ2 H4 fun z H5 => ∃ kvs k, y = kV k ∧ H5 D = some (.dK kvs) ∧ kvs.length < sizeLine ∧ Nx (upd H5 D (.dK (putK kvs k z))) else Nx H3) := by
  refine ⟨fun i m H => m = xs.length - i ∧ i ≤ xs.length ∧ Pv i H, ⟨xs.length, by simp, Nat.zero_le _, h0⟩, ?_⟩
  rintro i m H ⟨rfl, hi, p⟩
  have q := hl i H hi p
  by_cases hlt : i < xs.length
  · refine .inr ⟨⟨xs, xs[i], q, by simp [hlt]⟩, Pv (i + 1), fun H' p' => ⟨xs.length - (i + 1), by omega, rfl, hlt, p'⟩, fun x H' y => ?_⟩
    obtain ⟨T, z, rfl, nT, rfl, hz⟩ := y
    exact hs i z H T (hz xs q) p nT
  · have e : i = xs.length := by omega
    subst e
    exact .inl ⟨⟨xs, q, Nat.le_refl _⟩, hd H p⟩
/-- a dict whose keys are these letters, each with its place -/
def plV (a : List Int) : List (L2.Key × V) := a.zipIdx.map fun p => (Sum.inl p.1, V.int (p.2 : Int))
theorem valV_pl (a : List Int) : ∀ (l : List Int) (n : Nat) (x : Int), valV ((l.zipIdx n).map fun p => ((Sum.inl p.1 : L2.Key), V.int (p.2 : Int))) (Sum.inl x) = (l.findIdx? fun y => decide (y = x)).map fun i => V.int ((i + n : Nat) : Int)
  | [], _, _ => rfl
  | y :: r, n, x => by
    show valV (((Sum.inl y : L2.Key), V.int (n : Int)) :: (r.zipIdx (n + 1)).map _) (Sum.inl x) = _
    rw [List.findIdx?_cons]
    by_cases e : y = x
    · rw [valV_pos (by rw [e]), if_pos (decide_eq_true e)]
      simp
    · rw [valV_neg (fun z => e (Sum.inl.inj z)), decide_eq_false e, if_neg Bool.false_ne_true, valV_pl a r (n + 1) x]
      cases h : r.findIdx? fun y => decide (y = x) with
      | none => rfl
      | some i =>
        show some (V.int ((i + (n + 1) : Nat) : Int)) = some (V.int ((i + 1 + n : Nat) : Int))
        rw [show i + (n + 1) = i + 1 + n by omega]
theorem pl_snoc {a : List Int} {i : Nat} {x : Int} (nd : a.Nodup) (h : a[i]? = some x) : putK (plV (a.take i)) (Sum.inl x) (.int (i : Int)) = plV (a.take (i + 1)) := by
  have hi : i < a.length := (List.getElem?_eq_some_iff.mp h).1
  have nx : ¬ x ∈ a.take i := fun m => by
    obtain ⟨j, hj⟩ := List.mem_iff_getElem?.mp m
    have hj' : j < (a.take i).length := (List.getElem?_eq_some_iff.mp hj).1
    rw [List.length_take] at hj'
    rw [List.getElem?_take_of_lt (by omega)] at hj
    have := Km.nodup_get nd h hj
    omega
  rw [putK_new]
  · rw [List.take_succ, h]
    unfold plV
    show _ = ((a.take i ++ [x]).zipIdx).map _
    rw [List.zipIdx_append, List.map_append, List.length_take, Nat.min_eq_left (Nat.le_of_lt hi)]
    simp
  · unfold plV
    rw [valV_pl (a.take i)]
    rw [List.findIdx?_eq_none_iff.mpr]
    · rfl
    · intro y hy
      exact decide_eq_false fun e => nx (e ▸ hy)
theorem pl_get {a : List Int} (nd : a.Nodup) (x : Int) : ((valV (plV a) (Sum.inl x)).getD (.int (-1)) = .int (-1) ∧ ¬ x ∈ a) ∨ ∃ i : Nat, a[i]? = some x ∧ (valV (plV a) (Sum.inl x)).getD (.int (-1)) = .int (i : Int) := by
  unfold plV
  rw [valV_pl a]
  cases h : a.findIdx? fun y => decide (y = x) with
  | none =>
    refine .inl ⟨rfl, fun m => ?_⟩
    have := List.findIdx?_eq_none_iff.mp h x m
    simp at this
  | some i =>
    obtain ⟨h1, h2, _⟩ := List.findIdx?_eq_some_iff_getElem.mp h
    refine .inr ⟨i, ?_, ?_⟩
    · rw [List.getElem?_eq_getElem h1, of_decide_eq_true h2]
    · show V.int ((i + 0 : Nat) : Int) = _
      rfl
end Kz
namespace Kz
open PySem PySem.Spec PyProof.Rows L2 Lk Kd Kx
section
variable {X : Cx} {K : PySem.W.Frag}
theorem tcountK (h : X.K = K) : MtR X "tuple.count" (rCntT K) := by subst h; exact mt_tcount
/-- at t a tuple without a dict of its own -/
def NoD (H : Hp) (t : Addr) : Prop := ∃ o xs, H t = some (.frz o (.tup xs)) ∧ o.cls = .type "tuple" ∧ o.dict = none
theorem NoD.same {H H' : Hp} {t : Addr} (s : Same H H') (h : NoD H t) : NoD H' t := let ⟨o, xs, e, c, d⟩ := h; ⟨o, xs, s _ _ e, c, d⟩
theorem NoD.ext {S c : Addr} {H H' : Hp} {t : Addr} (hS : Stm S c H) (s : Ext S H H') (h : NoD H t) : NoD H' t := by
  obtain ⟨o, xs, e, hc, d⟩ := h
  refine ⟨o, xs, s _ _ (fun z => ?_) e, hc, d⟩
  obtain ⟨_, _, _, h1, _⟩ := hS
  rw [z, h1] at e
  cases e
theorem cr_tupN : CallR X (.type "tuple") (fun xs H Q => ∃ p ys, xs = [.ref p] ∧ SqL X.K H p ys ∧ ∀ l o, H l = none → o.cls = .type "tuple" → o.dict = none → Q (.ref l) (upd H l (.frz o (.tup ys)))) := by
  intro pins s σ H xs us Q I r h
  obtain ⟨p, ys, rfl, hq, q⟩ := h
  obtain ⟨u, rfl, rx⟩ := vals1 r
  cases rx
  obtain ⟨its, r', pl, hz⟩ := I.list hq
  have hlen := r'.length
  refine call_tuple_list pl.isList (fun h' kp => ?_) (by simp only [List.size_toArray] <;> omega)
  have I1 : Inv X pins σ H { s with heap := h' } := I.kept (t' := s.toks) kp
  have I2 : Inv X pins σ (upd H h'.objs.size (.frz { cls := .type "tuple", data := .seq its.toArray } (.tup ys))) { s with heap := h'.push { cls := .type "tuple", data := .seq its.toArray } } :=
    I1.laid (t' := s.toks) (fun b o e => Heap.get?_push_of_some _ e) (Nat.le_refl _) (show ObjOk X.prog X.w _ _ _ (.frz _ (.tup ys)) from ⟨Heap.get?_push_size _ rfl, hz, its, r', IsTup.new _ _⟩)
  exact ⟨.ref h'.objs.size, _, I2, rfl, q _ _ (I1.hok.fresh (Nat.le_refl _)) rfl rfl⟩
def tTM (r : V → List V → Hp → VK → Prop) (to : TE) (t : TA) : TE := fun σ H Q => to σ H fun x H1 => (∃ p, x = .ref p ∧ NoD H1 p) ∧ t σ H1 fun xs H2 => r x xs H2 Q
theorem pe_tm {o e : Expr} {es : List Expr} {to : TE} {t : TA} {name : Str} {apos cpos : Pos} {id : String} {r : V → List V → Hp → VK → Prop} (slot : Slot "tuple" name id) (hty : typeOf (.builtin id) = pure (.type "method_descriptor")) (hm : MtR X id r) (ho : PE X o to) (ha : PA X (e :: es) t)
    (hbase : attributeBase o name X.env (eval o X.env) = eval o X.env := by rfl)
    (hfew : ((backTo cpos (starEach (e :: es) X.env)).all (fun x => !x.1) && (backToKw cpos (keywordEach [] X.env)).all (fun x => x.1.isSome)
      && decide ((e :: es).length + ([] : List Keyword).length + (if ([] : List Keyword).isEmpty then 0 else 1) < 30)) = true := by rfl)
    (hline : (apos.endLine == cpos.line) = true := by rfl) (hs : starEach (e :: es) X.env = (false, eval e X.env) :: starEach es X.env := by rfl) (hplain : (backTo cpos (starEach es X.env)).any (·.1) = false := by rfl) :
    PE X (.Call (.Attribute o name apos) (e :: es) [] cpos) (tTM r to t) := by
  refine ⟨fun pins s σ H Q I h => ?_⟩
  refine wpAny_Call_method_late hbase hfew hline rfl (thn (ho.run pins s σ H _ I h) fun v s1 ⟨x, H1, I1, r1, ⟨p, ex, ob, ys, hp, hc, hd⟩, q1⟩ => ?_)
  subst ex
  cases r1
  obtain ⟨hg, _⟩ := (show ObjOk X.prog X.w H1 s1.heap p (.frz ob (.tup ys)) from I1.hok p _ hp)
  refine ⟨"tuple", id, PySem.F.plainAttrs_tuple, slot, hty, ⟨ob, hg, hc⟩, (fun a e => by cases e; exact ⟨ob, hg, hd⟩), ?_⟩
  have hA := ha.run cpos pins s1 σ H1 _ I1 q1
  rw [hs] at hA ⊢
  refine Calls.callWith_builtin (by show (false || (backTo cpos (starEach es X.env)).any (·.1)) = false; rw [hplain] <;> rfl) (Calls.evalArgs_plain ?_)
  exact thn hA fun us s2 ⟨vs, H2, I2, r2, q2⟩ => hm pins s2 σ H2 (V.ref p) vs (.ref p) us Q I2 rfl r2 q2
end
end Kz
namespace Kz
open PySem PySem.Spec PyProof.Rows L2 Lk Kd Kx
def onI (f : Int → Bool) (d : PyData) : Bool := match d with
  | .int i => f i
  | _ => false
theorem all_int {K : PySem.W.Frag} {H : Hp} {p : Addr} {ns : List Int} {f : Int → Bool} {t0 : TE} {g : TG} {te : TE} {vs : List Nat} {σ : L2.St} {Q : VK} (ev : ∀ Q : VK, Q (.ref p) H → t0 σ H Q) (hT : SqT K H p (ns.map V.int)) (hz : ns.length ≤ 900)
    (hs : ∀ x H' (Q' : VK), Same H H' → x ∈ ns → Q' (.bl (f x)) H' → g (.int x) (wipe σ vs) H' fun σ2 H2 => wipe σ2 vs = wipe σ vs ∧ te σ2 H2 Q')
    (hQ : ∀ D H', Same H H' → SqL K H' D ((ns.map f).map V.bl) → Q (.ref D) H') : tLc (iTup K t0) g tYes te vs σ H Q := by
  refine all_dat (f := onI f) (ds := ns.map PyData.int) ev hT (dpa_ints ns) (by rw [List.length_map]; exact hz) (fun x d H' Q' s1 hm hx q => ?_) fun D H' s1 hD => ?_
  · obtain ⟨i, hi, rfl⟩ := List.mem_map.mp hm
    cases hx
    exact hs i H' Q' s1 hi q
  · refine hQ D H' s1 ?_
    have e : (ns.map PyData.int).map (onI f) = ns.map f := by rw [List.map_map]; rfl
    rw [e] at hD
    exact hD
theorem all_int_id (ns : List Int) (f : Int → Bool) : (ns.map f).all id = ns.all f := by
  induction ns with
  | nil => rfl
  | cons x r ih => simp [ih]
end Kz
namespace Kz
open PySem PySem.Spec PyProof.Rows L2 Lk Kd Kx
theorem catAK {X : Cx} {K : PySem.W.Frag} (h : X.K = K) : OpR X (binaryOp .Add) (rCatA K) := by subst h; exact op_catA
theorem dpa_at {K : PySem.W.Frag} {H : Hp} {es : List V} {ws : List (List Int)} {i : Nat} {v : V} (h : DpAll K H es (ws.map wD)) (e : es[i]? = some v) : ∃ w, ws[i]? = some w ∧ Dp K H v (wD w) := by
  obtain ⟨d, h1, h2⟩ := dpa_get h e
  rw [List.getElem?_map] at h1
  cases z : ws[i]? with
  | none => rw [z] at h1; cases h1
  | some w => rw [z] at h1; cases h1; exact ⟨w, rfl, h2⟩
theorem dpa_app {K : PySem.W.Frag} {H : Hp} : ∀ {vs us : List V} {ds es : List PyData}, DpAll K H vs ds → DpAll K H us es → DpAll K H (vs ++ us) (ds ++ es)
  | _, _, _, _, .nil, h => h
  | _ :: _, _, _ :: _, _, .cons h1 h2, h => .cons h1 (dpa_app h2 h)
/-- None or a word -/
def FoundD (K : PySem.W.Frag) (H : Hp) (v : V) : Option (List Int) → Prop
  | none => v = .non
  | some w => Dp K H v (wD w)
theorem FoundD.same {K : PySem.W.Frag} {H H' : Hp} {v : V} {o : Option (List Int)} (s : Same H H') (h : FoundD K H v o) : FoundD K H' v o := by
  cases o with
  | none => exact h
  | some w => exact dp_same s h
theorem w_len {K : PySem.W.Frag} {H : Hp} {v : V} {ns : List Int} (h : Dp K H v (wD ns)) : ∃ t, v = .ref t ∧ SqT K H t (ns.map V.int) := w_inv h
end Kz
namespace Kz
open PySem PySem.Spec PyProof.Rows L2 Lk Kd Kx
def oD : Option (List Int) → PyData
  | none => .none
  | some w => wD w
theorem FoundD.dp {K : PySem.W.Frag} {H : Hp} {v : V} {o : Option (List Int)} (h : FoundD K H v o) : Dp K H v (oD o) := by
  cases o with
  | none => rw [show v = .non from h]; exact .non
  | some w => exact h
theorem shaped_o (o : Option (List Int)) : SeqAt.shaped (oD o) = true := by
  cases o with
  | none => rfl
  | some w => exact shaped_w w
theorem FoundD.isNon {K : PySem.W.Frag} {H : Hp} {v : V} {o : Option (List Int)} (h : FoundD K H v o) : decide (v = .non) = o.isNone := by
  cases o with
  | none => rw [show v = .non from h] <;> rfl
  | some w =>
    obtain ⟨t, rfl, _⟩ := w_inv h
    exact decide_eq_false fun z => V.noConfusion z
end Kz

set_option Elab.async false
set_option linter.all false
/-! rests, for all kinds at once; how a law looks for them -/
namespace Km
def rst8 : Kd8 → List Int → List Int → Option (List Int)
  | .list => rstA | .bag => bagR | .set => bagR | .first => rstA | .last => lst0 | .ends => end0 | .heads => rstA | .tails => tails0
theorem bagR_bag {a b : List Int} (hb : pl .bag b = b) : bagR a b = bag0 a b := bagR_eq (bag_sorted hb)
theorem bagR_set {a b : List Int} (ha : pl .set a = a) (hb : pl .set b = b) : bagR a b = set0 a b := by
  rw [set_bag ha]
  exact bagR_eq ((set_asc hb).imp fun h => Int.le_of_lt h)
theorem rst_sound {k : Kd8} {a b w : List Int} (ha : pl k a = a) (hb : pl k b = b) (h : rst8 k a b = some w) : pl k w = w ∧ pl k (a ++ w) = b := by
  cases k with
  | list => exact ⟨rfl, list_rst.mp h⟩
  | bag => exact bag_rst hb (by rw [← bagR_bag hb]; exact h)
  | set => exact set_rst hb (by rw [← bagR_set ha hb]; exact h)
  | first => exact first_rst ha hb h
  | last => exact last_rst ha hb h
  | ends => exact ends_rst ha hb h
  | heads => exact heads_rst ha hb h
  | tails => exact tails_rst ha hb h
theorem rst_short {k : Kd8} {a b w : List Int} (ha : pl k a = a) (hw : pl k w = w) (h : pl k (a ++ w) = b) : ∃ v, rst8 k a b = some v ∧ v.length ≤ w.length ∧ (k ≠ .ends → v.length = w.length → v = w) := by
  have hb : pl k b = b := by rw [← h]; exact pl_idem _ _
  cases k with
  | list => exact ⟨w, list_rst.mpr h, Nat.le_refl _, fun _ _ => rfl⟩
  | bag => exact ⟨w, by show bagR a b = _; rw [bagR_bag hb]; exact bag_short hw h, Nat.le_refl _, fun _ _ => rfl⟩
  | set =>
    obtain ⟨v, h1, h2, h3⟩ := set_short (a := a) hw h
    exact ⟨v, by show bagR a b = _; rw [bagR_set ha hb]; exact h1, h2, fun _ => h3⟩
  | first =>
    obtain ⟨v, h1, h2, h3⟩ := first_short ha hw h
    exact ⟨v, h1, h2, fun _ => h3⟩
  | last =>
    obtain ⟨v, h1, h2, h3⟩ := last_short ha hw h
    exact ⟨v, h1, h2, fun _ => h3⟩
  | ends =>
    obtain ⟨v, h1, h2⟩ := ends_short ha hw h
    exact ⟨v, h1, h2, fun z => absurd rfl z⟩
  | heads =>
    obtain ⟨v, h1, h2, h3⟩ := heads_short (w := w) ha h
    exact ⟨v, h1, h2, fun _ => h3⟩
  | tails =>
    obtain ⟨v, h1, h2, h3⟩ := tails_short ha hw h
    exact ⟨v, h1, h2, fun _ => h3⟩
theorem rstA_suf {a b v : List Int} (h : rstA a b = some v) : v.length ≤ b.length ∧ v = b.drop (b.length - v.length) := by
  have e := rstA_some.mp h
  subst e
  constructor
  · simp
  · rw [List.length_append, Nat.add_sub_cancel, List.drop_left']
    rfl
theorem rst_suf {k : Kd8} {a b v : List Int} (n1 : k ≠ .bag) (n2 : k ≠ .set) (h : rst8 k a b = some v) : v.length ≤ b.length ∧ v = b.drop (b.length - v.length) := by
  cases k with
  | list => exact rstA_suf h
  | bag => exact absurd rfl n1
  | set => exact absurd rfl n2
  | first => exact rstA_suf h
  | last =>
    have h : lst0 a b = some v := h
    unfold lst0 at h
    split at h
    · rw [← Option.some.inj h]; simp
    · split at h
      · cases h
      · rw [← Option.some.inj h]; simp
  | ends =>
    have h : end0 a b = some v := h
    unfold end0 at h
    split at h
    · rw [← Option.some.inj h]; simp
    · split at h
      · cases h
      · rw [← Option.some.inj h]; simp
  | heads => exact rstA_suf h
  | tails =>
    have h : tails0 a b = some v := h
    unfold tails0 at h
    split at h
    · rw [← Option.some.inj h]
      have := kq_le b a
      constructor
      · rw [List.length_drop]; omega
      · rw [List.length_drop]; congr 1; omega
    · cases h
theorem bag0_some {a b v : List Int} (h : bag0 a b = some v) : v = cutAll b a := by
  unfold bag0 at h
  split at h
  · exact (Option.some.inj h).symm
  · cases h
theorem set0_some {a b v : List Int} (h : set0 a b = some v) : v = cutAll b a := by
  unfold set0 at h
  split at h
  · exact (Option.some.inj h).symm
  · cases h
theorem rst_cut {k : Kd8} {a b v : List Int} (hk : k = .bag ∨ k = .set) (ha : pl k a = a) (hb : pl k b = b) (h : rst8 k a b = some v) : v = cutAll b a := by
  rcases hk with rfl | rfl
  · exact bag0_some (by rw [← bagR_bag hb]; exact h)
  · exact set0_some (by rw [← bagR_set ha hb]; exact h)
theorem rst_sub {k : Kd8} {a b v : List Int} (ha : pl k a = a) (hb : pl k b = b) (h : rst8 k a b = some v) : v.Sublist b := by
  by_cases n : k = .bag ∨ k = .set
  · rw [rst_cut n ha hb h]
    exact cutAll_sub a b
  · obtain ⟨_, e⟩ := rst_suf (fun z => n (.inl z)) (fun z => n (.inr z)) h
    rw [e]
    exact List.drop_sublist _ _
theorem rst_uniq {k : Kd8} {a b v w : List Int} (ha : pl k a = a) (hb : pl k b = b) (h : rst8 k a b = some v) (hw : pl k w = w) (hl : pl k (a ++ w) = b) (sw : w.Sublist b) : v.length ≤ w.length ∧ (v.length = w.length → v = w) := by
  obtain ⟨u, h1, h2, h3⟩ := rst_short ha hw hl
  rw [h] at h1
  cases h1
  refine ⟨h2, fun e => ?_⟩
  by_cases n : k = .ends
  · subst n
    have h : end0 a b = some v := h
    unfold end0 at h
    split at h
    · have ev := Option.some.inj h
      rw [← ev] at e ⊢
      exact (List.length_eq_zero_iff.mp e.symm).symm
    · split at h
      · cases h
      · have ev := Option.some.inj h
        rw [← ev] at e ⊢
        exact (sw.eq_of_length e.symm).symm
  · exact h3 n e
/-! ### all the rows of letters of a word, in their order -/
def rowsN (b : List Int) : List (List Int) := b.foldl (fun rows x => rows ++ rows.map (· ++ [x])) [[]]
theorem rowsN_snoc (b : List Int) (x : Int) : rowsN (b ++ [x]) = rowsN b ++ (rowsN b).map (· ++ [x]) := by
  unfold rowsN
  rw [List.foldl_append]
  rfl
theorem mem_rows (n : Nat) : ∀ (b : List Int), b.length = n → ∀ w, w ∈ rowsN b ↔ w.Sublist b := by
  induction n with
  | zero =>
    intro b hb w
    have := List.length_eq_zero_iff.mp hb
    subst this
    show w ∈ [[]] ↔ _
    rw [List.mem_singleton, List.sublist_nil]
  | succ n ih =>
    intro b hb w
    obtain ⟨c, x, rfl⟩ : ∃ c x, b = c ++ [x] := ⟨b.dropLast, b.getLast (by intro z; subst z; simp at hb), (List.dropLast_concat_getLast _).symm⟩
    have hc : c.length = n := by simpa using hb
    rw [rowsN_snoc, List.mem_append, List.mem_map, ih c hc]
    constructor
    · rintro (h | ⟨u, hu, rfl⟩)
      · exact h.trans (List.sublist_append_left _ _)
      · exact ((ih c hc u).mp hu).append (List.Sublist.refl _)
    · intro h
      obtain ⟨l1, l2, rfl, h1, h2⟩ := List.sublist_append_iff.mp h
      cases l2 with
      | nil => rw [List.append_nil]; exact .inl h1
      | cons y r =>
        have e : y :: r = [x] := by
          refine h2.eq_of_length ?_
          have := h2.length_le
          simp only [List.length_cons, List.length_nil] at this ⊢
          omega
        rw [e]
        exact .inr ⟨l1, (ih c hc l1).mpr h1, rfl⟩
theorem rows_len (b : List Int) : (rowsN b).length = 2 ^ b.length := by
  suffices z : ∀ (n : Nat) (b : List Int), b.length = n → (rowsN b).length = 2 ^ n from z _ b rfl
  intro n
  induction n with
  | zero => intro b hb; rw [List.length_eq_zero_iff.mp hb] <;> rfl
  | succ n ih =>
    intro b hb
    obtain ⟨c, x, rfl⟩ : ∃ c x, b = c ++ [x] := ⟨b.dropLast, b.getLast (by intro z; subst z; simp at hb), (List.dropLast_concat_getLast _).symm⟩
    have hc : c.length = n := by simpa using hb
    rw [rowsN_snoc, List.length_append, List.length_map, ih c hc, Nat.pow_succ]
    omega
def bst (ok : List Int → Bool) (s : Option (List Int)) (w : List Int) : Option (List Int) :=
  if ok w then match s with
    | none => some w
    | some u => if w.length < u.length then some w else some u
  else s
theorem bst_none {ok : List Int → Bool} {w : List Int} (h : ok w = true) : bst ok none w = some w := if_pos h
theorem bst_some {ok : List Int → Bool} {w u : List Int} (h : ok w = true) : bst ok (some u) w = if w.length < u.length then some w else some u := if_pos h
theorem bst_inv (ok : List Int → Bool) : ∀ (ws pre : List (List Int)) (s : Option (List Int)), ((s = none ∧ ∀ w ∈ pre, ok w = false) ∨ ∃ u, s = some u ∧ u ∈ pre ∧ ok u = true ∧ ∀ w ∈ pre, ok w = true → u.length ≤ w.length) →
    ((ws.foldl (bst ok) s = none ∧ ∀ w ∈ pre ++ ws, ok w = false) ∨ ∃ u, ws.foldl (bst ok) s = some u ∧ u ∈ pre ++ ws ∧ ok u = true ∧ ∀ w ∈ pre ++ ws, ok w = true → u.length ≤ w.length)
  | [], pre, s, h => by rw [List.append_nil]; exact h
  | w :: r, pre, s, h => by
    have e : pre ++ w :: r = (pre ++ [w]) ++ r := by simp
    rw [e]
    refine bst_inv ok r (pre ++ [w]) (bst ok s w) ?_
    unfold bst
    by_cases o : ok w = true
    · rw [if_pos o]
      refine .inr ?_
      rcases h with ⟨rfl, hn⟩ | ⟨u, rfl, hu, ou, hm⟩
      · refine ⟨w, rfl, by simp, o, fun z hz oz => ?_⟩
        rcases List.mem_append.mp hz with hz | hz
        · rw [hn z hz] at oz; cases oz
        · rw [List.mem_singleton.mp hz]; exact Nat.le_refl _
      · by_cases lt : w.length < u.length
        · refine ⟨w, by simp [lt], by simp, o, fun z hz oz => ?_⟩
          rcases List.mem_append.mp hz with hz | hz
          · exact Nat.le_trans (Nat.le_of_lt lt) (hm z hz oz)
          · rw [List.mem_singleton.mp hz]; exact Nat.le_refl _
        · refine ⟨u, by simp [lt], List.mem_append_left _ hu, ou, fun z hz oz => ?_⟩
          rcases List.mem_append.mp hz with hz | hz
          · exact hm z hz oz
          · rw [List.mem_singleton.mp hz]; omega
    · rw [if_neg o]
      rcases h with ⟨rfl, hn⟩ | ⟨u, rfl, hu, ou, hm⟩
      · refine .inl ⟨rfl, fun z hz => ?_⟩
        rcases List.mem_append.mp hz with hz | hz
        · exact hn z hz
        · rw [List.mem_singleton.mp hz]; simpa using o
      · refine .inr ⟨u, rfl, List.mem_append_left _ hu, ou, fun z hz oz => ?_⟩
        rcases List.mem_append.mp hz with hz | hz
        · exact hm z hz oz
        · rw [List.mem_singleton.mp hz] at oz; exact absurd oz o
/-- what a law looks for: plain, and it leads there -/
def okR (k : Kd8) (a b w : List Int) : Bool := decide (pl k w = w) && decide (pl k (a ++ w) = b)
theorem okR_iff {k : Kd8} {a b w : List Int} : okR k a b w = true ↔ pl k w = w ∧ pl k (a ++ w) = b := by
  unfold okR
  rw [Bool.and_eq_true, decide_eq_true_eq, decide_eq_true_eq]
theorem shortest_ok {k : Kd8} {a b : List Int} (ha : pl k a = a) (hb : pl k b = b) : (rowsN b).foldl (bst (okR k a b)) none = rst8 k a b := by
  have h := bst_inv (okR k a b) (rowsN b) [] none (.inl ⟨rfl, fun _ z => by cases z⟩)
  rw [List.nil_append] at h
  rcases h with ⟨e, hn⟩ | ⟨u, e, hu, ou, hm⟩
  · rw [e]
    cases z : rst8 k a b with
    | none => rfl
    | some v =>
      have := hn v ((mem_rows _ b rfl v).mpr (rst_sub ha hb z))
      rw [okR_iff.mpr (rst_sound ha hb z)] at this
      cases this
  · rw [e]
    obtain ⟨p1, p2⟩ := okR_iff.mp ou
    obtain ⟨v, h1, h2, h3⟩ := rst_short ha p1 p2
    have := hm v ((mem_rows _ b rfl v).mpr (rst_sub ha hb h1)) (okR_iff.mpr (rst_sound ha hb h1))
    obtain ⟨q1, q2⟩ := rst_uniq ha hb h1 p1 p2 ((mem_rows _ b rfl u).mp hu)
    rw [h1, q2 (by omega)]
/-! ### the first end of a word that does -/
def sufN (b : List Int) (n : Nat) : List Int := b.drop (b.length - n)
theorem suf_first {k : Kd8} {a b : List Int} {n : Nat} (n1 : k ≠ .bag) (n2 : k ≠ .set) (ha : pl k a = a) (hb : pl k b = b) (hn : n ≤ b.length) (ok : okR k a b (sufN b n) = true) (no : ∀ m, m < n → okR k a b (sufN b m) = false) : rst8 k a b = some (sufN b n) := by
  obtain ⟨p1, p2⟩ := okR_iff.mp ok
  obtain ⟨v, h1, h2, _⟩ := rst_short ha p1 p2
  obtain ⟨l, e⟩ := rst_suf n1 n2 h1
  have ln : (sufN b n).length = n := by unfold sufN; rw [List.length_drop]; omega
  rw [ln] at h2
  rcases Nat.lt_or_ge v.length n with lt | ge
  · have := no v.length lt
    rw [show sufN b v.length = v from e.symm, okR_iff.mpr (rst_sound ha hb h1)] at this
    cases this
  · rw [h1, e, show v.length = n by omega]
    rfl
theorem suf_none {k : Kd8} {a b : List Int} (n1 : k ≠ .bag) (n2 : k ≠ .set) (ha : pl k a = a) (hb : pl k b = b) (no : ∀ m, m < b.length + 1 → okR k a b (sufN b m) = false) : rst8 k a b = none := by
  cases z : rst8 k a b with
  | none => rfl
  | some v =>
    obtain ⟨l, e⟩ := rst_suf n1 n2 z
    have := no v.length (by omega)
    rw [show sufN b v.length = v from e.symm, okR_iff.mpr (rst_sound ha hb z)] at this
    cases this
theorem cut_plain {k : Kd8} {a b : List Int} (hk : k = .bag ∨ k = .set) (hb : pl k b = b) : pl k (cutAll b a) = cutAll b a := by
  rcases hk with rfl | rfl
  · exact (srt_of (List.Perm.refl _) ((bag_sorted hb).sublist (cutAll_sub a b))).symm
  · exact (sst_of (fun _ => Iff.rfl) ((set_asc hb).sublist (cutAll_sub a b))).symm
theorem cut_due {k : Kd8} {a b : List Int} (hk : k = .bag ∨ k = .set) (ha : pl k a = a) (hb : pl k b = b) : rst8 k a b = if pl k (a ++ cutAll b a) = b then some (cutAll b a) else none := by
  split
  · rename_i h
    obtain ⟨v, h1, _⟩ := rst_short ha (cut_plain hk hb) h
    rw [h1, rst_cut hk ha hb h1]
  · rename_i h
    cases z : rst8 k a b with
    | none => rfl
    | some v =>
      have := (rst_sound ha hb z).2
      rw [rst_cut hk ha hb z] at this
      exact absurd this h
theorem cutAll_snoc : ∀ (a l : List Int) (x : Int), cutAll l (a ++ [x]) = (cutAll l a).erase x
  | [], _, _ => rfl
  | y :: r, l, x => cutAll_snoc r (l.erase y) x
/-! ### who leads where -/
def leadB (k : Kd8) (a b : List Int) : Bool := decide (a = b) || match k with
  | .list | .heads => decide (b.take a.length = a)
  | .bag => a.all fun x => decide (a.count x ≤ b.count x)
  | .set | .tails => a.all fun x => decide (x ∈ b)
  | .first => decide (a = [])
  | .last => !decide (b = [])
  | .ends => decide (a = []) || (!decide (b = []) && decide (a.take 1 = b.take 1))
theorem subM_count : ∀ (a b : List Int), subM a b = true ↔ ∀ x, a.count x ≤ b.count x
  | [], b => by simp [subM]
  | y :: r, b => by
    unfold subM
    rw [Bool.and_eq_true, decide_eq_true_eq, subM_count r (b.erase y)]
    constructor
    · rintro ⟨m, h⟩ x
      have := h x
      by_cases e : y = x
      · subst e
        rw [List.count_cons_self]
        rw [List.count_erase_self] at this
        have := List.count_pos_iff.mpr m
        omega
      · rw [List.count_cons_of_ne e]
        rw [List.count_erase_of_ne (fun z => e z.symm)] at this
        exact this
    · intro h
      have m : y ∈ b := by
        have := h y
        rw [List.count_cons_self] at this
        exact List.count_pos_iff.mp (by omega)
      refine ⟨m, fun x => ?_⟩
      have := h x
      by_cases e : y = x
      · subst e
        rw [List.count_cons_self] at this
        rw [List.count_erase_self]
        omega
      · rw [List.count_cons_of_ne e] at this
        rw [List.count_erase_of_ne (fun z => e z.symm)]
        exact this
theorem subM_all (a b : List Int) : subM a b = a.all fun x => decide (a.count x ≤ b.count x) := by
  rw [Bool.eq_iff_iff, subM_count, List.all_eq_true]
  constructor
  · intro h x _
    exact decide_eq_true (h x)
  · intro h x
    by_cases m : x ∈ a
    · exact of_decide_eq_true (h x m)
    · rw [List.count_eq_zero.mpr m]
      exact Nat.zero_le _
theorem lead_list {a b : List Int} : (decide (a = b) || decide (b.take a.length = a)) = (rstA a b).isSome := by
  unfold rstA
  by_cases h : b.take a.length = a
  · rw [if_pos h, decide_eq_true h, Bool.or_true]; rfl
  · rw [if_neg h, decide_eq_false h, Bool.or_false]
    refine decide_eq_false fun e => h ?_
    rw [← e]
    exact List.take_length
theorem isSome_if {α : Type} {c : Bool} {x : α} : (if c = true then some x else none).isSome = c := by cases c <;> rfl
theorem all_self (a : List Int) : (a.all fun x => decide (x ∈ a)) = true := List.all_eq_true.mpr fun x hx => decide_eq_true hx
theorem lead_ok {k : Kd8} {a b : List Int} (ha : pl k a = a) (hb : pl k b = b) : leadB k a b = (rst8 k a b).isSome := by
  cases k with
  | list => exact lead_list
  | heads => exact lead_list
  | bag =>
    show (decide (a = b) || a.all _) = (bagR a b).isSome
    rw [bagR_bag hb, ← subM_all]
    unfold bag0
    rw [isSome_if]
    by_cases e : a = b
    · subst e
      rw [decide_eq_true rfl, Bool.true_or]
      exact ((subM_count a a).mpr fun _ => Nat.le_refl _).symm
    · rw [decide_eq_false e, Bool.false_or]
  | set =>
    show (decide (a = b) || a.all _) = (bagR a b).isSome
    rw [bagR_set ha hb]
    unfold set0
    rw [isSome_if]
    by_cases e : a = b
    · subst e
      rw [decide_eq_true rfl, Bool.true_or, all_self]
    · rw [decide_eq_false e, Bool.false_or]
  | tails =>
    show (decide (a = b) || a.all _) = (tails0 a b).isSome
    unfold tails0
    rw [isSome_if]
    by_cases e : a = b
    · subst e
      rw [decide_eq_true rfl, Bool.true_or, all_self]
    · rw [decide_eq_false e, Bool.false_or]
  | first =>
    show (decide (a = b) || decide (a = [])) = (rstA a b).isSome
    rw [← lead_list]
    by_cases e : a = b
    · rw [decide_eq_true e]; rfl
    · rw [decide_eq_false e, Bool.false_or, Bool.false_or]
      cases a with
      | nil => rw [decide_eq_true rfl]; exact (decide_eq_true rfl).symm
      | cons x r =>
        have hr : r = [] := by
          have : (x :: r).take 1 = x :: r := ha
          simpa using this
        subst hr
        rw [decide_eq_false (by simp)]
        refine (decide_eq_false fun z => e ?_).symm
        have : b.take 1 = b := hb
        rw [← this]
        exact z.symm
  | last =>
    show (decide (a = b) || !decide (b = [])) = (lst0 a b).isSome
    unfold lst0
    by_cases e : a = b
    · rw [if_pos e, decide_eq_true e]; rfl
    · rw [if_neg e, decide_eq_false e, Bool.false_or]
      by_cases f : b = []
      · rw [if_pos f, decide_eq_true f]; rfl
      · rw [if_neg f, decide_eq_false f]; rfl
  | ends =>
    show (decide (a = b) || (decide (a = []) || (!decide (b = []) && decide (a.take 1 = b.take 1)))) = (end0 a b).isSome
    unfold end0
    by_cases e : a = b
    · rw [if_pos e, decide_eq_true e]; rfl
    · rw [if_neg e, decide_eq_false e, Bool.false_or]
      by_cases f : a = []
      · rw [if_neg (fun z => z.1 f), decide_eq_true f]; rfl
      · rw [decide_eq_false f, Bool.false_or]
        by_cases g : a.take 1 = b.take 1
        · rw [if_neg (fun z => z.2 g), decide_eq_true g, Bool.and_true]
          refine Bool.not_eq_true' _ |>.mpr (decide_eq_false fun z => f ?_)
          subst z
          cases a with
          | nil => rfl
          | cons x r => simp at g
        · rw [if_pos ⟨f, g⟩, decide_eq_false g, Bool.and_false]; rfl
end Km

set_option Elab.async false
set_option linter.all false
/-! least steps between effects -/
namespace Kx
open PySem PySem.Spec L2 Lk Kd Km
/-- normal and plain -/
structure Nrm (k : Kd8) (e : Bool × List Int) : Prop where
  pl : Km.pl k e.2 = e.2
  fl : nF k e.1 e.2 = e.1
theorem Nrm.of (k : Kd8) (e : Bool × List Int) : Nrm k (nrm k e) := ⟨pl_idem k e.2, nF_idem k e.1 _⟩
theorem Nrm.eq {k : Kd8} {e : Bool × List Int} (h : Nrm k e) : nrm k e = e := Prod.ext (by show nF k e.1 (Km.pl k e.2) = e.1; rw [h.pl, h.fl]) h.pl
def stp (k : Kd8) (x y : Bool × List Int) : Option (Bool × List Int) :=
  if x = y then some (false, []) else
    match rst8 k x.2 y.2 with
    | some w => if x.1 = y.1 ∧ (y.1 = false ∨ w.length < y.2.length) then some (false, w) else if y.1 = true then some y else none
    | none => if y.1 = true then some y else none
/-- an effect that leads there -/
structure Leads (k : Kd8) (x y e : Bool × List Int) : Prop where
  pl : Km.pl k e.2 = e.2
  fl : nF k e.1 e.2 = e.1
  to : thE k x e = y
theorem nF_false {k : Kd8} {f : Bool} {l : List Int} (h : k ≠ .last) : nF k f l = f := by
  cases k with
  | last => exact absurd rfl h
  | _ => rfl
theorem nF_last {f : Bool} {l : List Int} (h : l ≠ []) : nF .last f l = true := by
  cases l with
  | nil => exact absurd rfl h
  | cons _ _ => rfl
theorem nF_idle (k : Kd8) (f : Bool) : nF k f [] = f := nF_nil k f
theorem pl_nil0 (k : Kd8) : Km.pl k [] = [] := by cases k <;> rfl
theorem idle_leads {k : Kd8} {x : Bool × List Int} (hx : Nrm k x) : Leads k x x (false, []) := ⟨pl_nil0 k, nF_idle k false, by
  show (nF k x.1 (Km.pl k (x.2 ++ [])), Km.pl k (x.2 ++ [])) = x
  rw [List.append_nil, hx.pl, hx.fl]⟩
theorem put_leads {k : Kd8} {x y : Bool × List Int} (hy : Nrm k y) (h : y.1 = true) : Leads k x y y := ⟨hy.pl, hy.fl, by
  unfold thE
  rw [if_pos h, ← h]⟩
/-- under last a part that is no put has no letters -/
theorem last_part {y : Bool × List Int} (hy : Nrm .last y) (h : y.1 = false) : y.2 = [] := by
  apply Decidable.byContradiction
  intro z
  have := hy.fl
  rw [nF_last z, h] at this
  cases this
theorem rest_leads {k : Kd8} {x y : Bool × List Int} {w : List Int} (hx : Nrm k x) (hy : Nrm k y) (ne : x ≠ y) (hr : rst8 k x.2 y.2 = some w) (e1 : x.1 = y.1) (h : y.1 = false ∨ w.length < y.2.length) : k ≠ .last ∧ Leads k x y (false, w) := by
  obtain ⟨p1, p2⟩ := rst_sound hx.pl hy.pl hr
  have nl : k ≠ .last := by
    rintro rfl
    have e : ∀ z : x.2 ≠ y.2, w = y.2 := fun z => by
      have hr : lst0 x.2 y.2 = some w := hr
      unfold lst0 at hr
      rw [if_neg z] at hr
      split at hr
      · cases hr
      · exact (Option.some.inj hr).symm
    have z : x.2 ≠ y.2 := fun z => ne (Prod.ext e1 z)
    rcases h with h | h
    · have hy0 := last_part hy h
      have hx0 := last_part hx (e1.trans h)
      exact z (hx0.trans hy0.symm)
    · rw [e z] at h
      exact Nat.lt_irrefl _ h
  refine ⟨nl, p1, nF_false nl, ?_⟩
  show (nF k x.1 (Km.pl k (x.2 ++ w)), Km.pl k (x.2 ++ w)) = y
  rw [p2, nF_false nl, e1]
theorem stp_leads {k : Kd8} {x y e : Bool × List Int} (hx : Nrm k x) (hy : Nrm k y) (h : stp k x y = some e) : Leads k x y e := by
  unfold stp at h
  by_cases c : x = y
  · rw [if_pos c] at h
    rw [← Option.some.inj h, ← c]
    exact idle_leads hx
  · rw [if_neg c] at h
    cases hr : rst8 k x.2 y.2 with
    | none =>
      rw [hr] at h
      dsimp only at h
      split at h
      · rename_i g
        rw [← Option.some.inj h]
        exact put_leads hy g
      · cases h
    | some w =>
      rw [hr] at h
      dsimp only at h
      split at h
      · rename_i g
        rw [← Option.some.inj h]
        exact (rest_leads hx hy c hr g.1 g.2).2
      · split at h
        · rename_i g
          rw [← Option.some.inj h]
          exact put_leads hy g
        · cases h
/-- no effect that leads there has fewer letters -/
theorem stp_least {k : Kd8} {x y e : Bool × List Int} (hx : Nrm k x) (hy : Nrm k y) (L : Leads k x y e) : ∃ s, stp k x y = some s ∧ s.2.length ≤ e.2.length := by
  unfold stp
  by_cases c : x = y
  · rw [if_pos c]
    exact ⟨_, rfl, Nat.zero_le _⟩
  · rw [if_neg c]
    obtain ⟨f, w⟩ := e
    cases f with
    | true =>
      have ey : (true, w) = y := L.to
      subst ey
      cases hr : rst8 k x.2 w with
      | none => exact ⟨_, if_pos rfl, Nat.le_refl _⟩
      | some v =>
        dsimp only
        split
        · rename_i g
          rcases g.2 with g | g
          · cases g
          · exact ⟨_, rfl, Nat.le_of_lt g⟩
        · exact ⟨_, if_pos rfl, Nat.le_refl _⟩
    | false =>
      have t : (nF k x.1 (Km.pl k (x.2 ++ w)), Km.pl k (x.2 ++ w)) = y := L.to
      have e2 : Km.pl k (x.2 ++ w) = y.2 := by rw [← t]
      have e1 : nF k x.1 (Km.pl k (x.2 ++ w)) = y.1 := by rw [← t]
      by_cases nl : k = .last
      · subst nl
        exfalso
        have hw : w = [] := by
          apply Decidable.byContradiction
          intro z
          have := L.fl
          rw [nF_last z] at this
          cases this
        subst hw
        rw [List.append_nil, hx.pl] at e1 e2
        rw [hx.fl] at e1
        exact c (Prod.ext e1 e2)
      · rw [nF_false nl] at e1
        obtain ⟨v, h1, h2, _⟩ := rst_short hx.pl L.pl e2
        rw [h1]
        dsimp only
        by_cases g : x.1 = y.1 ∧ (y.1 = false ∨ v.length < y.2.length)
        · rw [if_pos g]
          exact ⟨_, rfl, h2⟩
        · rw [if_neg g]
          have yt : y.1 = true := by
            cases z : y.1 with
            | true => rfl
            | false => exact absurd ⟨e1, .inl z⟩ g
          rw [if_pos yt]
          refine ⟨_, rfl, ?_⟩
          have : ¬ v.length < y.2.length := fun z => g ⟨e1, .inr z⟩
          have h2' : v.length ≤ w.length := h2
          show y.2.length ≤ w.length
          omega
theorem stp_sub {k : Kd8} {x y e : Bool × List Int} (hx : Nrm k x) (hy : Nrm k y) (h : stp k x y = some e) : e.2.Sublist y.2 := by
  unfold stp at h
  by_cases c : x = y
  · rw [if_pos c] at h
    rw [← Option.some.inj h]
    exact List.nil_sublist _
  · rw [if_neg c] at h
    cases hr : rst8 k x.2 y.2 with
    | none =>
      rw [hr] at h
      dsimp only at h
      split at h
      · rw [← Option.some.inj h]; exact List.Sublist.refl _
      · cases h
    | some w =>
      rw [hr] at h
      dsimp only at h
      split at h
      · rw [← Option.some.inj h]
        exact rst_sub hx.pl hy.pl hr
      · split at h
        · rw [← Option.some.inj h]; exact List.Sublist.refl _
        · cases h
/-- idle exactly for equal effects -/
theorem stp_idle {k : Kd8} {x y e : Bool × List Int} (hx : Nrm k x) (hy : Nrm k y) (h : stp k x y = some e) : decide (e = (false, [])) = decide (x = y) := by
  rw [Bool.eq_iff_iff, decide_eq_true_eq, decide_eq_true_eq]
  constructor
  · rintro rfl
    have := (stp_leads hx hy h).to
    rw [← this]
    exact ((idle_leads hx).to).symm
  · rintro rfl
    unfold stp at h
    rw [if_pos rfl] at h
    exact (Option.some.inj h).symm
/-- where as many letters stand, it is the goal itself -/
theorem stp_last {k : Kd8} {x y e : Bool × List Int} (hx : Nrm k x) (hy : Nrm k y) (h : stp k x y = some e) (ne : x ≠ y) (le : ¬ e.2.length < y.2.length) : e = y := by
  have sub := stp_sub hx hy h
  have e2 : e.2 = y.2 := sub.eq_of_length (Nat.le_antisymm sub.length_le (by omega))
  refine Prod.ext ?_ e2
  unfold stp at h
  rw [if_neg ne] at h
  cases hr : rst8 k x.2 y.2 with
  | none =>
    rw [hr] at h
    dsimp only at h
    split at h
    · rw [← Option.some.inj h]
    · cases h
  | some w =>
    rw [hr] at h
    dsimp only at h
    split at h
    · rename_i g
      have ee := Option.some.inj h
      rw [← ee]
      rcases g.2 with g | g
      · exact g.symm
      · rw [← ee] at le
        exact absurd g le
    · split at h
      · rw [← Option.some.inj h]
      · cases h
/-! ### the fewest letters, looked for among all rows -/
def few1 (ok : Bool × List Int → Bool) (s : Option Nat) (e : Bool × List Int) : Option Nat :=
  if ok e then match s with
    | none => some e.2.length
    | some n => if e.2.length < n then some e.2.length else some n
  else s
theorem few1_none {ok : Bool × List Int → Bool} {e : Bool × List Int} (h : ok e = true) : few1 ok none e = some e.2.length := if_pos h
theorem few1_some {ok : Bool × List Int → Bool} {e : Bool × List Int} {n : Nat} (h : ok e = true) : few1 ok (some n) e = if e.2.length < n then some e.2.length else some n := if_pos h
theorem few1_no {ok : Bool × List Int → Bool} {e : Bool × List Int} {s : Option Nat} (h : ok e = false) : few1 ok s e = s := by unfold few1; rw [h, if_neg Bool.false_ne_true]
theorem few_inv (ok : Bool × List Int → Bool) : ∀ (ws pre : List (Bool × List Int)) (s : Option Nat), ((s = none ∧ ∀ w ∈ pre, ok w = false) ∨ ∃ u, s = some u.2.length ∧ u ∈ pre ∧ ok u = true ∧ ∀ w ∈ pre, ok w = true → u.2.length ≤ w.2.length) →
    ((ws.foldl (few1 ok) s = none ∧ ∀ w ∈ pre ++ ws, ok w = false) ∨ ∃ u, ws.foldl (few1 ok) s = some u.2.length ∧ u ∈ pre ++ ws ∧ ok u = true ∧ ∀ w ∈ pre ++ ws, ok w = true → u.2.length ≤ w.2.length)
  | [], pre, s, h => by rw [List.append_nil]; exact h
  | w :: r, pre, s, h => by
    have e : pre ++ w :: r = (pre ++ [w]) ++ r := by simp
    rw [e]
    refine few_inv ok r (pre ++ [w]) (few1 ok s w) ?_
    by_cases o : ok w = true
    · refine .inr ?_
      rcases h with ⟨rfl, hn⟩ | ⟨u, rfl, hu, ou, hm⟩
      · rw [few1_none o]
        refine ⟨w, rfl, by simp, o, fun z hz oz => ?_⟩
        rcases List.mem_append.mp hz with hz | hz
        · rw [hn z hz] at oz; cases oz
        · rw [List.mem_singleton.mp hz]; exact Nat.le_refl _
      · rw [few1_some o]
        by_cases lt : w.2.length < u.2.length
        · rw [if_pos lt]
          refine ⟨w, rfl, by simp, o, fun z hz oz => ?_⟩
          rcases List.mem_append.mp hz with hz | hz
          · exact Nat.le_trans (Nat.le_of_lt lt) (hm z hz oz)
          · rw [List.mem_singleton.mp hz]; exact Nat.le_refl _
        · rw [if_neg lt]
          refine ⟨u, rfl, List.mem_append_left _ hu, ou, fun z hz oz => ?_⟩
          rcases List.mem_append.mp hz with hz | hz
          · exact hm z hz oz
          · rw [List.mem_singleton.mp hz]; omega
    · have o' : ok w = false := by simpa using o
      rw [few1_no o']
      rcases h with ⟨rfl, hn⟩ | ⟨u, rfl, hu, ou, hm⟩
      · refine .inl ⟨rfl, fun z hz => ?_⟩
        rcases List.mem_append.mp hz with hz | hz
        · exact hn z hz
        · rw [List.mem_singleton.mp hz]; exact o'
      · refine .inr ⟨u, rfl, List.mem_append_left _ hu, ou, fun z hz oz => ?_⟩
        rcases List.mem_append.mp hz with hz | hz
        · exact hm z hz oz
        · rw [List.mem_singleton.mp hz] at oz; exact absurd oz o
def okE (k : Kd8) (x y e : Bool × List Int) : Bool := (decide (Km.pl k e.2 = e.2) && decide (nF k e.1 e.2 = e.1)) && decide (thE k x e = y)
theorem okE_iff {k : Kd8} {x y e : Bool × List Int} : okE k x y e = true ↔ Leads k x y e := by
  unfold okE
  rw [Bool.and_eq_true, Bool.and_eq_true, decide_eq_true_eq, decide_eq_true_eq, decide_eq_true_eq]
  exact ⟨fun h => ⟨h.1.1, h.1.2, h.2⟩, fun h => ⟨⟨h.1, h.2⟩, h.3⟩⟩
def both (w : List Int) : List (Bool × List Int) := [(false, w), (true, w)]
theorem fewest_ok {k : Kd8} {x y : Bool × List Int} (hx : Nrm k x) (hy : Nrm k y) : ((rowsN y.2).flatMap both).foldl (few1 (okE k x y)) none = (stp k x y).map fun e => e.2.length := by
  have mem : ∀ e : Bool × List Int, e ∈ (rowsN y.2).flatMap both ↔ e.2.Sublist y.2 := fun e => by
    rw [List.mem_flatMap]
    constructor
    · rintro ⟨w, hw, he⟩
      have : e.2 = w := by
        simp only [both, List.mem_cons, List.not_mem_nil, or_false] at he
        rcases he with rfl | rfl <;> rfl
      rw [this]
      exact (mem_rows _ _ rfl w).mp hw
    · intro h
      refine ⟨e.2, (mem_rows _ _ rfl e.2).mpr h, ?_⟩
      obtain ⟨f, w⟩ := e
      cases f <;> simp [both]
  have h := few_inv (okE k x y) ((rowsN y.2).flatMap both) [] none (.inl ⟨rfl, fun _ z => by cases z⟩)
  rw [List.nil_append] at h
  rcases h with ⟨e, hn⟩ | ⟨u, e, hu, ou, hm⟩
  · rw [e]
    cases z : stp k x y with
    | none => rfl
    | some v =>
      have := hn v ((mem v).mpr (stp_sub hx hy z))
      rw [okE_iff.mpr (stp_leads hx hy z)] at this
      cases this
  · rw [e]
    obtain ⟨v, h1, h2⟩ := stp_least hx hy (okE_iff.mp ou)
    have := hm v ((mem v).mpr (stp_sub hx hy h1)) (okE_iff.mpr (stp_leads hx hy h1))
    rw [h1]
    show some u.2.length = some v.2.length
    congr 1
    omega
end Kx
namespace Kx
open PySem PySem.Spec L2 Lk Kd Km
/-- None or an effect -/
def FoundE (K : PySem.W.Frag) (H : Hp) (v : V) : Option (Bool × List Int) → Prop
  | none => v = .non
  | some e => Ef K H v e
theorem FoundE.same {K : PySem.W.Frag} {H H' : Hp} {v : V} {o : Option (Bool × List Int)} (s : Same H H') (h : FoundE K H v o) : FoundE K H' v o := by
  cases o with
  | none => exact h
  | some w => exact dp_same s h
def oE : Option (Bool × List Int) → PyData
  | none => .none
  | some e => eD e.1 e.2
theorem FoundE.dp {K : PySem.W.Frag} {H : Hp} {v : V} {o : Option (Bool × List Int)} (h : FoundE K H v o) : Dp K H v (oE o) := by
  cases o with
  | none => rw [show v = .non from h]; exact .non
  | some w => exact h
theorem shaped_oe (o : Option (Bool × List Int)) : SeqAt.shaped (oE o) = true := by
  cases o with
  | none => rfl
  | some w => exact shaped_e w.1 w.2
theorem FoundE.isNon {K : PySem.W.Frag} {H : Hp} {v : V} {o : Option (Bool × List Int)} (h : FoundE K H v o) : decide (v = .non) = o.isNone := by
  cases o with
  | none => rw [show v = .non from h] <;> rfl
  | some w =>
    obtain ⟨_, t, rfl, _⟩ := e_inv h
    exact decide_eq_false fun z => V.noConfusion z
theorem nE_nrm {k : Kd8} {x : Bool × List Int} (h : Km.pl k x.2 = x.2) : nE k x.1 x.2 = eD (nrm k x).1 (nrm k x).2 := by
  show eD (nF k x.1 x.2) x.2 = eD (nF k x.1 (Km.pl k x.2)) (Km.pl k x.2)
  rw [h]
theorem stp_eq (k : Kd8) (x : Bool × List Int) : stp k x x = some (false, []) := if_pos rfl
theorem stp_none {k : Kd8} {x y : Bool × List Int} (ne : x ≠ y) (h : rst8 k x.2 y.2 = none) : stp k x y = if y.1 = true then some y else none := by
  unfold stp
  rw [if_neg ne, h]
theorem stp_some {k : Kd8} {x y : Bool × List Int} {w : List Int} (ne : x ≠ y) (h : rst8 k x.2 y.2 = some w) : stp k x y = if x.1 = y.1 ∧ (y.1 = false ∨ w.length < y.2.length) then some (false, w) else if y.1 = true then some y else none := by
  unfold stp
  rw [if_neg ne, h]
end Kx
namespace Kx
open PySem PySem.Spec L2 Lk Kd Km
/-- None or a number -/
def FoundN (v : V) : Option Nat → Prop
  | none => v = .non
  | some n => v = .int (n : Int)
theorem fewest_take {ok : Bool × List Int → Bool} {ws : List (List Int)} {i : Nat} {w : List Int} {s : Option Nat} (h : ws[i]? = some w) : ((ws.take (i + 1)).flatMap both).foldl (few1 ok) s = few1 ok (few1 ok (((ws.take i).flatMap both).foldl (few1 ok) s) (false, w)) (true, w) := by
  rw [take_map h, List.flatMap_append, List.foldl_append]
  rfl
end Kx

set_option Elab.async false
set_option linter.all false
set_option maxRecDepth 100000
/-! kinds under kinds -/
namespace Km
def undB : Kd8 → Kd8 → Bool
  | .list, .list => true
  | .bag, .list => true | .bag, .bag => true
  | .set, .list => true | .set, .bag => true | .set, .set => true | .set, .heads => true | .set, .tails => true
  | .first, .list => true | .first, .first => true | .first, .ends => true | .first, .heads => true
  | .last, .list => true | .last, .last => true | .last, .ends => true | .last, .tails => true
  | .ends, .list => true | .ends, .ends => true
  | .heads, .list => true | .heads, .heads => true
  | .tails, .list => true | .tails, .tails => true
  | _, _ => false
theorem mem_foc : ∀ (l acc : List Int) (x : Int), x ∈ fo acc l ↔ x ∈ acc ∨ x ∈ l
  | [], acc, x => by simp [fo]
  | y :: r, acc, x => by
    show x ∈ fo (if y ∈ acc then acc else acc ++ [y]) r ↔ _
    rw [mem_foc r]
    by_cases h : y ∈ acc
    · rw [if_pos h, List.mem_cons]
      constructor
      · rintro (a | a)
        · exact .inl a
        · exact .inr (.inr a)
      · rintro (a | rfl | a)
        · exact .inl a
        · exact .inl h
        · exact .inr a
    · rw [if_neg h, List.mem_append, List.mem_singleton, List.mem_cons, or_assoc]
theorem fo_head (x : Int) (l : List Int) : ∀ acc : List Int, ∃ r, fo (x :: acc) l = x :: r := by
  induction l with
  | nil => exact fun acc => ⟨acc, rfl⟩
  | cons y r ih =>
    intro acc
    show ∃ q, fo (if y ∈ x :: acc then x :: acc else (x :: acc) ++ [y]) r = x :: q
    split
    · exact ih acc
    · exact ih (acc ++ [y])
theorem take_fo (l : List Int) : (fo [] l).take 1 = l.take 1 := by
  cases l with
  | nil => rfl
  | cons x r =>
    obtain ⟨q, e⟩ := fo_head x r []
    show (fo (if x ∈ [] then [] else [] ++ [x]) r).take 1 = _
    rw [if_neg List.not_mem_nil, List.nil_append, e]
    rfl
theorem lst1_rev (l : List Int) : lst1 l = (l.reverse.take 1).reverse := by
  unfold lst1
  rw [List.take_reverse, List.reverse_reverse]
theorem under_pl {n w : Kd8} (h : undB n w = true) (l : List Int) : pl n (pl w l) = pl n l := by
  cases w with
  | list => rfl
  | bag =>
    cases n with
    | bag => exact pl_idem .bag l
    | set => exact sst_of (fun x => by rw [show (x ∈ sst l ↔ x ∈ l) from mem_sst x l]; exact ((srt_perm l).mem_iff).symm) (sst_asc l) |>.symm
    | _ => cases h
  | set =>
    cases n with
    | set => exact pl_idem .set l
    | _ => cases h
  | first =>
    cases n with
    | first => exact pl_idem .first l
    | _ => cases h
  | last =>
    cases n with
    | last => exact pl_idem .last l
    | _ => cases h
  | ends =>
    cases n with
    | ends => exact pl_idem .ends l
    | first =>
      show (l.take 1 ++ lst1 l).take 1 = l.take 1
      cases l with
      | nil => rfl
      | cons x r => rfl
    | last =>
      show lst1 (l.take 1 ++ lst1 l) = lst1 l
      cases l with
      | nil => rfl
      | cons x r =>
        rw [lst1_app (fun z => by have := lst1_nil.mp z; cases this), lst1_idem]
    | _ => cases h
  | heads =>
    cases n with
    | heads => exact pl_idem .heads l
    | set => exact (sst_of (fun x => by rw [show (x ∈ sst l ↔ x ∈ l) from mem_sst x l]; show _ ↔ x ∈ fo [] l; rw [mem_foc]; simp) (sst_asc l)).symm
    | first => exact take_fo l
    | _ => cases h
  | tails =>
    cases n with
    | tails => exact pl_idem .tails l
    | set => exact (sst_of (fun x => by rw [show (x ∈ sst l ↔ x ∈ l) from mem_sst x l]; show _ ↔ x ∈ (fo [] l.reverse).reverse; rw [List.mem_reverse, mem_foc]; simp) (sst_asc l)).symm
    | last =>
      show lst1 ((fo [] l.reverse).reverse) = lst1 l
      rw [lst1_rev, List.reverse_reverse, take_fo, ← lst1_rev]
    | _ => cases h
/-- the pairs that tell kinds apart -/
def pairsK : List (List Int × List Int) := [([1, 2], [2, 1]), ([1, 1], [1]), ([1, 2, 3], [1, 3]), ([1, 2, 1], [1, 2]), ([1, 2, 1], [2, 1])]
def prtB (n w : Kd8) (p : List Int × List Int) : Bool := decide (pl w p.1 = pl w p.2) && !decide (pl n p.1 = pl n p.2)
def prt (n w : Kd8) : Option (List Int × List Int) := pairsK.find? (prtB n w)
theorem prt_und (n w : Kd8) : (prt n w).isNone = undB n w := by cases n <;> cases w <;> decide +kernel
theorem prt_some {n w : Kd8} {p : List Int × List Int} (h : prt n w = some p) : p ∈ pairsK ∧ pl w p.1 = pl w p.2 ∧ pl n p.1 ≠ pl n p.2 := by
  have := List.find?_some h
  unfold prtB at this
  rw [Bool.and_eq_true, decide_eq_true_eq, Bool.not_eq_true', decide_eq_false_iff_not] at this
  exact ⟨List.mem_of_find?_eq_some h, this.1, this.2⟩
end Km
namespace Kx
open PySem PySem.Spec L2 Lk Kd Km
theorem under_nF {n w : Kd8} (h : undB n w = true) (f : Bool) (l : List Int) : nF n (nF w f l) (pl n l) = nF n f (pl n l) := by
  by_cases e : w = .last
  · subst e
    cases n with
    | last =>
      by_cases z : l = []
      · subst z; rfl
      · rw [nF_last z]
        have z2 : pl .last l ≠ [] := fun q => z (pl_last_nil.mp q)
        rw [nF_last z2, nF_last z2]
    | _ => cases h
  · rw [nF_false e]
theorem under_nrm {n w : Kd8} (h : undB n w = true) (e : Bool × List Int) : nrm n (nrm w e) = nrm n e := by
  show (nF n (nF w e.1 (pl w e.2)) (pl n (pl w e.2)), pl n (pl w e.2)) = (nF n e.1 (pl n e.2), pl n e.2)
  rw [under_nF h, under_pl h]
theorem under_on {n w : Kd8} (h : undB n w = true) (e : Bool × List Int) (s : List Int) : onE n (nrm n e).1 (nrm n e).2 (pl n s) = pl n (onE w e.1 e.2 s) := by
  rw [on_nrm]
  unfold onE
  split
  · rfl
  · rw [pl_left, under_pl h]
/-- the step narrowed leads there -/
theorem under_leads {n w : Kd8} (h : undB n w = true) {x g u : Bool × List Int} (hu : Leads w (nrm w x) (nrm w g) u) : Leads n (nrm n x) (nrm n g) (nrm n u) := by
  refine ⟨(Nrm.of n u).pl, (Nrm.of n u).fl, ?_⟩
  have e1 : nrm w (mulE (nrm w x) u) = nrm w g := by rw [← thE_eq hu.pl]; exact hu.to
  rw [thE_eq (nrm_pl n u), nrm_mulR, nrm_mul, ← under_nrm h g, ← e1, under_nrm h, ← nrm_mul, ← nrm_mul (nrm w x), under_nrm h]
theorem under_then {n w : Kd8} (h : undB n w = true) {x y : Bool × List Int} : nrm n (mulE (nrm n x) (nrm n y)) = nrm n (nrm w (mulE x y)) := by
  rw [nrm_mulR, nrm_mul, under_nrm h]
end Kx
namespace Kx
open PySem PySem.Spec L2 Lk Kd Km
theorem whole_part {k8 : Km.Kd8} {x p : Bool × List Int} (hp : Km.pl k8 p.2 = p.2) : ∃ s, stp k8 (nrm k8 x) (nrm k8 (thE k8 x p)) = some s ∧ s.2.length ≤ p.2.length := by
  have e : thE k8 (nrm k8 x) (nrm k8 p) = nrm k8 (thE k8 x p) := by
    rw [thE_eq (nrm_pl k8 p), thE_eq hp, nrm_nrm, nrm_mulR, nrm_mul]
  have L : Leads k8 (nrm k8 x) (nrm k8 (thE k8 x p)) (nrm k8 p) := ⟨(Nrm.of k8 p).pl, (Nrm.of k8 p).fl, e⟩
  obtain ⟨s, h1, h2⟩ := stp_least (Nrm.of k8 x) (Nrm.of k8 (thE k8 x p)) L
  refine ⟨s, h1, ?_⟩
  rw [show (nrm k8 p).2 = p.2 from hp] at h2
  exact h2
end Kx

set_option Elab.async false
set_option linter.all false
set_option maxRecDepth 100000
set_option maxHeartbeats 4000000
/-! in a tuple of data; lists of truth values; kinds by their names -/
namespace Mr
open PySem PySem.Spec PyProof.Rows L2 Lk Kd Kx
section
variable {X : Cx}
def rInTD (K : PySem.W.Frag) : R2 := fun x y H Q => ∃ d ds, Dp K H x d ∧ Dp K H y (.tuple ds) ∧ SeqAt.shaped d = true ∧ SeqAt.shaped (.tuple ds) = true ∧ d.depth ≤ 60 ∧ Q (.bl (ds.any fun z => PyData.eqv z d)) H
theorem op_inTD (hu : X.A.units + 64 < cLine) : OpR X (compareOp .In) (rInTD X.K) := by
  intro pins s σ H x y v u Q I rx ry h
  obtain ⟨d, ds, hd, he, sd, se, hz, q⟩ := h
  obtain ⟨as, r1⟩ := Dp.reads I d x v hd rx
  obtain ⟨bs, r2⟩ := Dp.reads I (.tuple ds) y u he ry
  exact SeqAt.in_tuple_reads r2 r1 (SeqAt.canLay_of_shaped se) (SeqAt.canLay_of_shaped sd) (by have := Nat.min_le_right (PyData.depthAll ds) d.depth; omega) ⟨.bl _, H, I, rfl, q⟩
end
theorem dpa_bls {K : PySem.W.Frag} {H : Hp} : ∀ (bs : List Bool), DpAll K H (bs.map V.bl) (bs.map PyData.bool)
  | [] => .nil
  | b :: r => .cons (.bl b) (dpa_bls r)
theorem lay_bls : ∀ bs : List Bool, PyData.canLayAll0 (bs.map PyData.bool) = true ∧ PyData.depthAll (bs.map PyData.bool) = 0
  | [] => ⟨rfl, rfl⟩
  | n :: r => by
    obtain ⟨h1, h2⟩ := lay_bls r
    refine ⟨?_, ?_⟩
    · simp only [List.map, PyData.canLayAll0, PyData.canLay0, h1, Bool.and_self]
    · simp only [List.map, PyData.depthAll, PyData.depth, h2, Nat.max_self]
theorem shaped_bls (bs : List Bool) : SeqAt.shaped (.list (bs.map PyData.bool)) = true := by
  obtain ⟨h1, h2⟩ := lay_bls bs
  unfold SeqAt.shaped
  rw [PyData.canLay0, PyData.depth, h1, h2]
  rfl
/-- the pair of two words -/
def pD (p : List Int × List Int) : PyData := .tuple [wD p.1, wD p.2]
theorem shaped_p (p : List Int × List Int) : SeqAt.shaped (pD p) = true := by
  obtain ⟨h1, h2⟩ := lay_ints p.1
  obtain ⟨h3, h4⟩ := lay_ints p.2
  unfold SeqAt.shaped pD wD
  simp only [PyData.canLay0, PyData.canLayAll0, PyData.depth, PyData.depthAll, h1, h2, h3, h4]
  rfl
theorem p_inv {K : PySem.W.Frag} {H : Hp} {v : V} {p : List Int × List Int} (h : Dp K H v (pD p)) : ∃ t a b, v = .ref t ∧ SqT K H t [.ref a, .ref b] ∧ SqT K H a (p.1.map V.int) ∧ SqT K H b (p.2.map V.int) := by
  cases h with
  | tup h1 h2 =>
    cases h2 with
    | cons x r =>
      cases r with
      | cons y r =>
        cases r
        obtain ⟨a, rfl, ha⟩ := w_inv x
        obtain ⟨b, rfl, hb⟩ := w_inv y
        exact ⟨_, a, b, rfl, h1, ha, hb⟩
theorem p_mk {K : PySem.W.Frag} {H : Hp} {t a b : Addr} {p : List Int × List Int} (h : SqT K H t [.ref a, .ref b]) (ha : SqT K H a (p.1.map V.int)) (hb : SqT K H b (p.2.map V.int)) : Dp K H (.ref t) (pD p) := .tup h (.cons (w_mk ha) (.cons (w_mk hb) .nil))
/-- None or a pair of words -/
def FoundP (K : PySem.W.Frag) (H : Hp) (v : V) : Option (List Int × List Int) → Prop
  | none => v = .non
  | some p => Dp K H v (pD p)
theorem FoundP.same {K : PySem.W.Frag} {H H' : Hp} {v : V} {o : Option (List Int × List Int)} (s : Same H H') (h : FoundP K H v o) : FoundP K H' v o := by
  cases o with
  | none => exact h
  | some w => exact dp_same s h
theorem FoundP.isNon {K : PySem.W.Frag} {H : Hp} {v : V} {o : Option (List Int × List Int)} (h : FoundP K H v o) : decide (v = .non) = o.isNone := by
  cases o with
  | none => rw [show v = .non from h] <;> rfl
  | some w =>
    obtain ⟨t, a, b, rfl, _⟩ := p_inv h
    exact decide_eq_false fun z => V.noConfusion z
/-! ### kinds by their names -/
def inK (k : Km.Kd8) (ss : List V) : Bool := inV (.str (nm k)) ss
theorem in_bag_set (k : Km.Kd8) : inV (.str (nm k)) [.str "bag", .str "set"] = (isK k .bag || isK k .set) := by cases k <;> decide +kernel
theorem in_heads_first (k : Km.Kd8) : inV (.str (nm k)) [.str "heads", .str "first"] = (isK k .heads || isK k .first) := by cases k <;> decide +kernel
theorem in_tails_last (k : Km.Kd8) : inV (.str (nm k)) [.str "tails", .str "last"] = (isK k .tails || isK k .last) := by cases k <;> decide +kernel
theorem in_list_bag (k : Km.Kd8) : inV (.str (nm k)) [.str "list", .str "bag"] = (isK k .list || isK k .bag) := by cases k <;> decide +kernel
def idemV : List V := [.str "set", .str "first", .str "last", .str "ends", .str "heads", .str "tails"]
theorem in_idem (k : Km.Kd8) : inV (.str (nm k)) idemV = !(isK k .list || isK k .bag) := by cases k <;> decide +kernel
def pairsS : List PyData := [.tuple [.str "first", .str "ends"], .tuple [.str "first", .str "heads"], .tuple [.str "last", .str "ends"], .tuple [.str "last", .str "tails"]]
theorem und_if (n w : Km.Kd8) : Km.undB n w = if (isK n w || isK w .list) = true then true else if isK n .set = true then inV (.str (nm w)) [.str "bag", .str "heads", .str "tails"] else pairsS.any fun z => PyData.eqv z (.tuple [.str (nm n), .str (nm w)]) := by
  cases n <;> cases w <;> decide +kernel
def abv : Km.Kd8 → List Str
  | .list => ["list"] | .bag => ["list", "bag"] | .set => ["list", "bag", "set", "heads", "tails"] | .first => ["list", "first", "ends", "heads"] | .last => ["list", "last", "ends", "tails"] | .ends => ["list", "ends"] | .heads => ["list", "heads"] | .tails => ["list", "tails"]
theorem abv_in (n w : Km.Kd8) : inV (.str (nm w)) ((abv n).map V.str) = Km.undB n w := by cases n <;> cases w <;> decide +kernel
def all8 : List Km.Kd8 := [.list, .bag, .set, .first, .last, .ends, .heads, .tails]
theorem all8_map : all8.map (fun k => V.str (nm k)) = kNames := rfl
theorem flat_strs (ss : List Str) : (ss.map V.str).all flatV = true := by
  induction ss with
  | nil => rfl
  | cons y r ih => rw [List.map_cons, List.all_cons, ih] <;> rfl
def below (w : Km.Kd8) : List Km.Kd8 := all8.filter fun n => Km.undB n w
theorem below_pos (w : Km.Kd8) : 0 < (below w).length := by cases w <;> decide +kernel
theorem below_le (w : Km.Kd8) : (below w).length ≤ 8 := by cases w <;> decide +kernel
end Mr
namespace Mr
open PySem PySem.Spec PyProof.Rows L2 Lk Kd Kx
theorem ok_nm (k : Km.Kd8) : PyData.strOk (nm k) = true := by cases k <;> decide +kernel
theorem shaped_ss (a b : Km.Kd8) : SeqAt.shaped (.tuple [.str (nm a), .str (nm b)]) = true := by
  unfold SeqAt.shaped
  simp only [PyData.canLay0, PyData.canLayAll0, PyData.depth, PyData.depthAll, ok_nm]
  rfl
end Mr
namespace Mr
open PySem PySem.Spec PyProof.Rows L2 Lk Kd Kx
theorem effs_mut {K : PySem.W.Frag} {H : Hp} {L : Addr} {xs zs : List V} (hL : H L = some (.lst xs)) : ∀ {l : List (Bool × List Int)} {us : List V}, DpAll K H us (effs l) → DpAll K (upd H L (.lst zs)) us (effs l)
  | [], _, h => by cases h; exact .nil
  | e :: r, _, h => by
    cases h with
    | cons h1 h2 => exact .cons (ef_mut hL h1) (effs_mut hL h2)
theorem effs_get {K : PySem.W.Frag} {H : Hp} {l : List (Bool × List Int)} {us : List V} {i : Nat} {v : V} (h : DpAll K H us (effs l)) (hi : us[i]? = some v) : ∃ e, l[i]? = some e ∧ Ef K H v e := by
  obtain ⟨d, h1, h2⟩ := dpa_get h hi
  unfold effs at h1
  rw [List.getElem?_map] at h1
  cases z : l[i]? with
  | none => rw [z] at h1; cases h1
  | some e => rw [z] at h1; cases h1; exact ⟨e, rfl, h2⟩
theorem effs_at {K : PySem.W.Frag} {H : Hp} {l : List (Bool × List Int)} {us : List V} {i : Nat} {e : Bool × List Int} (h : DpAll K H us (effs l)) (hi : l[i]? = some e) : ∃ v, us[i]? = some v ∧ Ef K H v e := by
  have ll : us.length = l.length := by have := dpa_len h; unfold effs at this; rw [List.length_map] at this; exact this
  have lt : i < us.length := by rw [ll]; exact (List.getElem?_eq_some_iff.mp hi).1
  obtain ⟨e', h1, h2⟩ := effs_get h (List.getElem?_eq_getElem lt)
  rw [hi] at h1
  cases h1
  exact ⟨_, List.getElem?_eq_getElem lt, h2⟩
end Mr

set_option Elab.async false
set_option linter.all false
set_option maxRecDepth 100000
set_option maxHeartbeats 4000000
/-! own classes with fields: == by an own __eq__, methods that may raise, isinstance against an own class -/
namespace Mw
open PySem PySem.Spec PyProof.Rows L2 Lk Hm
section
variable {P : Program} {w : World} {K : PySem.W.Frag} {mg : Str → Option Value} {base : Heap} {x qual : Str} {st : Stmt} {dvs : List V} {f : Addr} {fd : FuncData} {N ps : List Str} {k : Nat} {sp : Sp}
theorem okMX (F : Hk.FnM K x qual st dvs f fd) (S : FnScope N ps (defScope st)) (len : ∀ vs H Q E, sp vs H Q E → vs.length = ps.length)
    (hbody : ∀ (cdv : Value) (A : Around) (outer : List Env) (s : Shared) (H : Hp) (vs : List V) (Q : VK) (E : XK), Room k (A.deeper (envOfC qual (defScope st) s.heap.objs.size f cdv)) → sp vs H Q E →
      ∃ t, PSs (cxOf (L2.CX P w) P w K mg base N qual (defScope st) f cdv A outer s H E) (defBody st) t ∧ t { nx := fun _ H' => Q .non H', rt := Q } (start N vs) H) : FnOk P w K mg base (L2.CX P w) (k + 1) f fd ps sp :=
  F.ok S len hbody
end
/-- x == y by the own __eq__ of x's class -/
def rOwn (K : PySem.W.Frag) (C : Addr) (sp : Sp) (E : XK) : R2 := fun x y H Q => ∃ a dx fs t, x = .ref a ∧ H a = some (.ins C dx fs) ∧ TyX K H y t ∧ PySem.W.notFirst K C t = true ∧ sp [x, y] H Q E
theorem op_own {X : Cx} {CX : CXT} {C f : Addr} {fd : FuncData} {ps : List Str} {sp : Sp} {E : XK} {k : Nat} (M : Meth X.K C "__eq__" f) (F : FnOk X.prog X.w X.K X.mg X.base CX k f fd ps sp) (hr : Room k X.A) (hb : Binds X.K fd ps []) (hx : Passes CX X E) :
    OpR X (compareOp .Eq) (rOwn X.K C sp E) := by
  intro pins s σ H x y v u Q I rx ry hq
  obtain ⟨a, dx, fs, t, rfl, ha, ty, hn, q⟩ := hq
  cases rx
  obtain ⟨mA, J, _⟩ := ins_get I.hok ha
  obtain ⟨od, J, _⟩ := J.look
  obtain ⟨Pz, Z, pz, _⟩ := kit_of I ry ty
  obtain ⟨m, hF⟩ := I.fr
  refine PySem.W.cmp_K (op := .Eq) (tb := t) hr.units0 hF I.ok.mod.kin J (Z.ty _ _ I.kIn pz) hn M.at_ M.fn ?_
  have hl := F.len _ _ _ _ q
  have r2 : Vals [V.ref a, y] [Value.ref a, u] := .cons rfl (.cons ry .nil)
  refine wpAny_call (codeAny_mono (F.run X.A X.stack s H ⟨[.ref a, u], []⟩ [.ref a, u] [.ref a, y] Q E hr I.env0 (by
    have := hb s [.ref a, u] I.kIn (by simpa using hl)
    simpa using this) r2 q) fun r s' hq => ?_)
  cases r with
  | error e => exact hx pins σ H s e s' I hq
  | ok fl =>
    cases fl with
    | ret w =>
      obtain ⟨z, H', I', rz, ez⟩ := I.after hq
      have g : EP X pins σ Q w s' := ⟨z, H', I', rz, ez⟩
      cases w with
      | notImplemented =>
        cases z with
        | non => cases rz
        | bl b => cases rz
        | int b => obtain ⟨_, e⟩ := rz; cases e
        | str b => obtain ⟨_, e⟩ := rz; cases e
        | byt b => obtain ⟨_, e⟩ := rz; cases e
        | flt b => obtain ⟨_, e⟩ := rz; cases e
        | ref b => cases rz
        | ty b => cases rz
      | _ => exact g
    | next => exact False.elim hq
    | brk => exact False.elim hq
    | cont => exact False.elim hq
end Mw

set_option Elab.async false
set_option linter.all false
set_option maxRecDepth 100000
/-! defs with a keyword-only parameter; kinds that are none -/
namespace Ms
open PySem PySem.Spec PyProof.Rows L2 Lk
section
variable {P : Program} {w : World} {K : PySem.W.Frag} {mg : Str → Option Value} {base : Heap} {x qual : Str} {st : Stmt} {kws : List (Str × V)} {f : Addr} {fd : FuncData} {N ps : List Str} {k : Nat} {sp : Sp}
abbrev FnK (K : PySem.W.Frag) (x : Str) (st : Stmt) (kws : List (Str × V)) (f : Addr) (fd : FuncData) : Prop := FunD K x x (defArgs st) (defBody st) (defScope st) [] kws f fd
theorem okX (F : FnK K x st kws f fd) (S : FnScope N ps (defScope st)) (len : ∀ vs H Q E, sp vs H Q E → vs.length = ps.length)
    (hbody : ∀ (cdv : Value) (A : Around) (outer : List Env) (s : Shared) (H : Hp) (vs : List V) (Q : VK) (E : XK), Room k (A.deeper (envOfC x (defScope st) s.heap.objs.size f cdv)) → sp vs H Q E →
      ∃ t, PSs (cxOf (L2.CX P w) P w K mg base N x (defScope st) f cdv A outer s H E) (defBody st) t ∧ t { nx := fun _ H' => Q .non H', rt := Q } (start N vs) H) : FnOk P w K mg base (L2.CX P w) (k + 1) f fd ps sp :=
  F.ok S len hbody
theorem kb0 {params : Arguments} {body : List Stmt} {scope : Scope} (F : FunD K x qual params body scope [] kws f fd) (n : Nat) (ks : List Str)
    (h : ∀ (kV doc pm : Value) (an : Option Addr) (cdv ct : Value) (us ws : List Value), us.length = n → ws.length = ks.length →
      bindArgs (PySem.W.fnOf x qual params body scope .none kV doc pm an cdv ct) ⟨us, ks.zip ws⟩ = pure (ps.zip (us ++ ws))) : KBn K fd ps n ks (fun us ws => us ++ ws) (fun vs zs => vs ++ zs) := by
  obtain ⟨oc, od, dV, kV, doc, pm, an, cdv, ct, osl, rfl, lk, hcd, hD, hK⟩ := F.ex
  rcases hD with ⟨_, rfl⟩ | ⟨e, _⟩
  · exact ⟨fun s us ws X l1 l2 => .of_eq (h kV doc pm an cdv ct us ws l1 l2), fun r1 r2 => r1.append r2⟩
  · exact absurd rfl e
end
section
variable {X : Cx} {CX : CXT} {k n : Nat} {f : Addr} {fd : FuncData} {ps ks : List Str} {sp : Sp} {E : L2.St → XK} {x : Str} {p pos : Pos} {e : Expr} {es : List Expr} {kws : List Keyword} {t tk : TA} {g : List Value → List Value → List Value} {gV : List V → List V → List V}
def tCallNS (n m : Nat) (sp : Sp) (gV : List V → List V → List V) (E : L2.St → XK) (t tk : TA) : TE := fun σ H Q => t σ H fun vs H1 => tk σ H1 fun zs H2 => vs.length = n ∧ zs.length = m ∧ sp (gV vs zs) H2 Q (E σ)
theorem run_fnNS {pins : List (Addr × Obj)} {σ : L2.St} {H : Hp} {s : Shared} {Q : VK} {us ws : List Value} {vs zs : List V} (F : FnOk X.prog X.w X.K X.mg X.base CX k f fd ps sp) (hr : Room k X.A) (hb : KBn X.K fd ps n ks g gV) (hx : PassesAt CX X σ (E σ))
    (I : Inv X pins σ H s) (r : Vals vs us) (rz : Vals zs ws) (l1 : vs.length = n) (l2 : zs.length = ks.length) (h : sp (gV vs zs) H Q (E σ)) : wpAny (model X.prog X.w) X.A (call (.ref f) us (ks.zip ws)) (EP X pins σ Q) X.xe s := by
  have r2 := hb.rel r rz
  refine wpAny_call (codeAny_mono (F.run X.A X.stack s H ⟨us, ks.zip ws⟩ (g us ws) (gV vs zs) Q (E σ) hr I.env0 (hb.to s us ws I.kIn (r.length.symm.trans l1) (rz.length.symm.trans l2)) r2 h) fun r s' hq => ?_)
  cases r with
  | error e => exact hx pins H s e s' I hq
  | ok fl =>
    cases fl with
    | ret u => exact I.after hq
    | next => exact False.elim hq
    | brk => exact False.elim hq
    | cont => exact False.elim hq
theorem pe_callNS (F : FnOk X.prog X.w X.K X.mg X.base CX k f fd ps sp) (hr : Room k X.A) (hg : Gl X x) (hm : X.mg x = some (.ref f)) (hk : PySem.W.keepIn X.K (.ref f) = true) (hb : KBn X.K fd ps n ks g gV) (hx : ∀ σ, PassesAt CX X σ (E σ))
    (ha : PA X (e :: es) t) (hkw : PK X kws tk) (hall : (backToKw pos (keywordEach kws X.env)).all (·.1.isSome) = true := by rfl) (hks : (backToKw pos (keywordEach kws X.env)).filterMap (·.1) = ks := by rfl)
    (hdb : (x == ("__debug__" : Str)) = false := by decide) (he : starEach (e :: es) X.env = (false, eval e X.env) :: starEach es X.env := by rfl)
    (hpl : ((backTo pos (starEach (e :: es) X.env)).any (·.1) || (backToKw pos (keywordEach kws X.env)).any (·.1.isNone)) = false := by rfl) :
    PE X (.Call (.Name x p) (e :: es) kws pos) (tCallNS n ks.length sp gV E t tk) := by
  refine ⟨fun pins s σ H Q I h => ?_⟩
  refine wpAny_Call_Name_kw (ld_glob I hg hm ?_ hdb)
  refine PySem.W.callWith_KW (h₀ := X.base) I.ok.mod.kin hk hall (thn (ha.run pos pins s σ H _ I h) fun us s1 ⟨vs, H1, I1, r, q⟩ => ?_) hpl he
  refine thn (hkw.run pos pins s1 σ H1 _ I1 q) fun ws s2 ⟨zs, H2, I2, rz, l1, l2, q2⟩ => ⟨I2.kIn, ?_⟩
  rw [hks]
  exact run_fnNS F hr hb (hx σ) I2 r rz l1 l2 q2
end
/-! ### what is no kind -/
def badK (d : PyData) : Bool := match d with
  | .str x => !([("list" : Str), "bag", "set", "first", "last", "ends", "heads", "tails"].contains x)
  | _ => true
end Ms
namespace Ms
open PySem L2 Lk
theorem len1 {l : List V} (h : l.length = 1) : ∃ a, l = [a] := by
  match l, h with
  | [a], _ => exact ⟨a, rfl⟩
theorem len2 {l : List V} (h : l.length = 2) : ∃ a b, l = [a, b] := by
  match l, h with
  | [a, b], _ => exact ⟨a, b, rfl⟩
end Ms
namespace Ms
open PySem L2 Lk Kx
theorem notin8 {x : Str} (h : (!([("list" : Str), "bag", "set", "first", "last", "ends", "heads", "tails"].contains x)) = true) : inV (.str x) kNames = false := by
  cases e : inV (.str x) kNames with
  | false => rfl
  | true =>
    have h : [("list" : Str), "bag", "set", "first", "last", "ends", "heads", "tails"].contains x = false := by simpa using h
    exfalso
    obtain ⟨y, hy, e⟩ := List.any_eq_true.mp e
    have hy : y ∈ [("list" : Str), "bag", "set", "first", "last", "ends", "heads", "tails"].map V.str := hy
    obtain ⟨z, hz, rfl⟩ := List.mem_map.mp hy
    have ez : z = x := by
      unfold eqV at e
      simpa using e
    subst ez
    rw [List.contains_iff_mem.mpr hz] at h
    cases h
end Ms

set_option Elab.async false
set_option linter.all false
set_option maxRecDepth 100000
/-! rows of effects -/
namespace Mt
open PySem PySem.Spec PyProof.Rows L2 Lk Kd Kx
abbrev Ev := Bool × List Int
def opD : Option Ev → PyData
  | none => .none
  | some e => eD e.1 e.2
section
variable {K : PySem.W.Frag} {H H' : Hp} {v : V} {o : Option Ev} {xs : List V} {l : List (Option Ev)}
theorem found_dp : FoundE K H v o ↔ Dp K H v (opD o) := by
  cases o with
  | none =>
    constructor
    · intro h; have h : v = .non := h; subst h; exact .non
    · intro h
      have h : Dp K H v .none := h
      cases h
      rfl
  | some e => exact Iff.rfl
theorem rowO_get (h : DpAll K H xs (l.map opD)) {i : Nat} (hi : xs[i]? = some v) : ∃ o, l[i]? = some o ∧ Dp K H v (opD o) := by
  obtain ⟨d, hd, hv⟩ := dpa_get h hi
  rw [List.getElem?_map] at hd
  cases z : l[i]? with
  | none => rw [z] at hd; cases hd
  | some o => rw [z] at hd; cases Option.some.inj hd; exact ⟨o, rfl, hv⟩
theorem rowO_len (h : DpAll K H xs (l.map opD)) : xs.length = l.length := by
  have z := dpa_len h
  rwa [List.length_map] at z
theorem effs_op (l : List Ev) : effs l = (l.map some).map opD := by
  unfold effs
  rw [List.map_map]
  rfl
theorem op_non (h : Dp K H .non (opD o)) : o = none := by
  cases o with
  | none => rfl
  | some e => have h : Dp K H .non (eD e.1 e.2) := h; cases h
theorem op_inv (h : Dp K H v (opD o)) : (v = .non ∧ o = none) ∨ ∃ e, o = some e ∧ v ≠ .non ∧ Ef K H v e := by
  cases o with
  | none => have h : Dp K H v .none := h; cases h; exact .inl ⟨rfl, rfl⟩
  | some e =>
    refine .inr ⟨e, rfl, fun z => ?_, h⟩
    subst z
    have h : Dp K H .non (eD e.1 e.2) := h
    cases h
end
/-- the letters of a row; its effects that are not idle -/
def lets (l : List (Option Ev)) : List Int := l.filterMap fun o => o.map fun e => (e.2.length : Int)
def busy (l : List (Option Ev)) : List (Option Ev) := l.filter fun o => o != none && o != some (false, [])
theorem lets_snoc (l : List (Option Ev)) (o : Option Ev) : lets (l ++ [o]) = lets l ++ (match o with | some e => [(e.2.length : Int)] | none => []) := by
  unfold lets
  rw [List.filterMap_append]
  cases o <;> rfl
theorem busy_snoc (l : List (Option Ev)) (o : Option Ev) : busy (l ++ [o]) = busy l ++ (if (o != none && o != some (false, [])) = true then [o] else []) := by
  unfold busy
  rw [List.filter_append, List.filter_cons, List.filter_nil]
theorem lets_len (l : List (Option Ev)) : (lets l).length ≤ l.length := List.length_filterMap_le _ _
theorem take1 {α : Type} {l : List α} {i : Nat} {o : α} (h : l[i]? = some o) : l.take (i + 1) = l.take i ++ [o] := by
  rw [List.take_succ, h] <;> rfl
theorem lcB {K : PySem.W.Frag} {j : Nat} {σ : L2.St} {p : Addr} {xs : List V} {H : Hp} {g : TG} {tt : TT} {te : TE} {vs : List Nat} {Q : VK} (hj : σ[j]? = some (some (.ref p))) (hq : Sq K H p xs)
    (Pv : Addr → Nat → Hp → Prop) (h0 : ∀ D, H D = none → Pv D 0 (upd H D (.lst []))) (hsm : ∀ D i H', Pv D i H' → Same H H')
    (hs : ∀ D, H D = none → ∀ i x H', xs[i]? = some x → Pv D i H' → g x (wipe σ vs) H' fun σ2 H2 => wipe σ2 vs = wipe σ vs ∧ tt σ2 H2 fun b H3 =>
      if b = true then te σ2 H3 fun y H4 => ∃ acc, H4 D = some (.lst acc) ∧ acc.length < sizeLine ∧ Pv D (i + 1) (upd H4 D (.lst (acc ++ [y]))) else Pv D (i + 1) H3)
    (hd : ∀ D H', H D = none → Pv D xs.length H' → Q (.ref D) H') :
    tLc (fun σ H R => iList K (tVar j) σ H R ∨ iTup K (tVar j) σ H R) g tt te vs σ H Q := by
  rcases hq with hq | hq
  · exact .inl ⟨_, hj, p, rfl, ⟨_, hq⟩, fun D nD => lc_list (Pv D) (h0 D nD) (fun i H' _ hp => (hsm D i H' hp).seq hq) (hs D nD) (fun H' hp => hd D H' nD hp)⟩
  · exact .inr ⟨_, hj, p, rfl, ⟨_, hq⟩, fun D nD => lc_tup (Pv D) (h0 D nD) (fun i H' _ hp => seqT_same (hsm D i H' hp) hq) (hs D nD) (fun H' hp => hd D H' nD hp)⟩
theorem forB {K : PySem.W.Frag} {j : Nat} {σ : L2.St} {p : Addr} {xs : List V} {H H0 : Hp} {g : TG} {tb : TS} {D : Ends} (hj : σ[j]? = some (some (.ref p))) (hq : Sq K H0 p xs) (h00 : Same H0 H)
    (Pv : Nat → L2.St → Hp → Prop) (h0 : Pv 0 σ H) (hsm : ∀ i σ' H', Pv i σ' H' → Same H0 H')
    (hs : ∀ i x σ H, xs[i]? = some x → Pv i σ H → g x σ H fun σ2 H2 => tb { D with nx := Pv (i + 1), ct := Pv (i + 1), bk := D.nx } σ2 H2) (hd : ∀ σ H, Pv xs.length σ H → D.nx σ H) :
    tFor (fun σ H R => iList K (tVar j) σ H R ∨ iTup K (tVar j) σ H R) g tb D σ H := by
  rcases hq with hq | hq
  · exact .inl ⟨_, hj, p, rfl, ⟨_, h00.seq hq⟩, for_list Pv h0 (fun i σ' H' _ hp => (hsm i σ' H' hp).seq hq) hs hd⟩
  · exact .inr ⟨_, hj, p, rfl, ⟨_, seqT_same h00 hq⟩, for_tup Pv h0 (fun i σ' H' _ hp => seqT_same (hsm i σ' H' hp) hq) hs hd⟩
theorem enB {K : PySem.W.Frag} {j : Nat} {σ : L2.St} {p : Addr} {xs : List V} {H H0 : Hp} {g : TG} {tb : TS} {D : Ends} (hj : σ[j]? = some (some (.ref p))) (hq : Sq K H0 p xs) (h00 : Same H0 H)
    (Pv : Nat → L2.St → Hp → Prop) (h0 : Pv 0 σ H) (hsm : ∀ i σ' H', Pv i σ' H' → Same H0 H')
    (hs : ∀ i x σ H T, xs[i]? = some x → Pv i σ H → H T = none → g (.ref T) σ (upd H T (.tup [.int (i : Nat), x])) fun σ2 H2 => tb { D with nx := Pv (i + 1), ct := Pv (i + 1), bk := D.nx } σ2 H2) (hd : ∀ σ H, Pv xs.length σ H → D.nx σ H) :
    tFor (fun σ H R => iEnum K (tCons (tVar j) tNil) σ H R ∨ Kc.iEnT K (tCons (tVar j) tNil) σ H R) g tb D σ H := by
  rcases hq with hq | hq
  · exact .inl ⟨_, hj, p, xs, rfl, h00.seq hq, Kc.for_en Pv h0 (fun i σ' H' _ hp => (hsm i σ' H' hp).seq hq) hs hd⟩
  · exact .inr ⟨_, hj, p, xs, rfl, seqT_same h00 hq, Kc.for_enT Pv h0 (fun i σ' H' _ hp => seqT_same (hsm i σ' H' hp) hq) hs hd⟩
theorem neDK {X : Cx} {K : PySem.W.Frag} (h : X.K = K) (hu : X.A.units + 64 < cLine) : OpR X (compareOp .NotEq) (rNeD K) := by subst h; exact op_neD hu
theorem eqDK {X : Cx} {K : PySem.W.Frag} (h : X.K = K) (hu : X.A.units + 64 < cLine) : OpR X (compareOp .Eq) (rEqD K) := by subst h; exact op_eqD hu
theorem lcL {K : PySem.W.Frag} {j : Nat} {σ : L2.St} {p : Addr} {xs : List V} {H : Hp} {g : TG} {tt : TT} {te : TE} {vs : List Nat} {Q : VK} (hj : σ[j]? = some (some (.ref p))) (hq : SqL K H p xs)
    (Pv : Addr → Nat → Hp → Prop) (h0 : ∀ D, H D = none → Pv D 0 (upd H D (.lst []))) (hsm : ∀ D i H', Pv D i H' → Same H H')
    (hs : ∀ D, H D = none → ∀ i x H', xs[i]? = some x → Pv D i H' → g x (wipe σ vs) H' fun σ2 H2 => wipe σ2 vs = wipe σ vs ∧ tt σ2 H2 fun b H3 =>
      if b = true then te σ2 H3 fun y H4 => ∃ acc, H4 D = some (.lst acc) ∧ acc.length < sizeLine ∧ Pv D (i + 1) (upd H4 D (.lst (acc ++ [y]))) else Pv D (i + 1) H3)
    (hd : ∀ D H', H D = none → Pv D xs.length H' → Q (.ref D) H') :
    tLc (iList K (tVar j)) g tt te vs σ H Q :=
  ⟨_, hj, p, rfl, ⟨_, hq⟩, fun D nD => lc_list (Pv D) (h0 D nD) (fun i H' _ hp => (hsm D i H' hp).seq hq) (hs D nD) (fun H' hp => hd D H' nD hp)⟩
theorem busy_non (l : List (Option Ev)) : busy (l ++ [none]) = busy l := by rw [busy_snoc, if_neg (by simp), List.append_nil]
theorem busy_idle (l : List (Option Ev)) : busy (l ++ [some (false, [])]) = busy l := by rw [busy_snoc, if_neg (by simp), List.append_nil]
theorem busy_some (l : List (Option Ev)) {e : Ev} (h : e ≠ (false, [])) : busy (l ++ [some e]) = busy l ++ [some e] := by rw [busy_snoc, if_pos (by simpa using h)]
theorem busy_le (l : List (Option Ev)) : (busy l).length ≤ l.length := List.length_filter_le _ _
theorem idle_dec (e : Ev) : (decide (e.1 = false) && decide (e.2 = [])) = decide (e = (false, [])) := dec_pair e (false, [])
theorem some_get {l : List Ev} {i : Nat} {o : Option Ev} (h : (l.map some)[i]? = some o) : ∃ e, l[i]? = some e ∧ o = some e := by
  rw [List.getElem?_map] at h
  cases z : l[i]? with
  | none => rw [z] at h; cases h
  | some e => rw [z] at h; exact ⟨e, rfl, (Option.some.inj h).symm⟩
end Mt

set_option Elab.async false
set_option linter.all false
/-! pieces of keys: their one form, the thing of a key, the least key at which two rows of pieces part -/
namespace Fm
section
variable {α : Type} [DecidableEq α]
abbrev Pc (α : Type) := Int × Int × α
/-- whether the piece has the key -/
def has (p : Pc α) (x : Int) : Bool := decide (p.1 ≤ x) && decide (x < p.2.1)
def vl (n : α) : List (Pc α) → Int → α
  | [], _ => n
  | p :: r, x => if has p x then p.2.2 else vl n r x
/-- pieces from lo on, ascending -/
def Asc : Int → List (Pc α) → Prop
  | _, [] => True
  | lo, p :: r => lo ≤ p.1 ∧ p.1 < p.2.1 ∧ Asc p.2.1 r
/-- .. in one form -/
def Can (n : α) : Int → Option α → List (Pc α) → Prop
  | _, _, [] => True
  | lo, t, p :: r => lo ≤ p.1 ∧ p.1 < p.2.1 ∧ p.2.2 ≠ n ∧ (p.1 = lo → t ≠ some p.2.2) ∧ Can n p.2.1 (some p.2.2) r
theorem Asc.mono {lo lo2 : Int} (h : lo2 ≤ lo) : ∀ {P : List (Pc α)}, Asc lo P → Asc lo2 P
  | [], _ => trivial
  | p :: r, q => ⟨Int.le_trans h q.1, q.2⟩
theorem Can.asc {n : α} : ∀ {P : List (Pc α)} {lo : Int} {t : Option α}, Can n lo t P → Asc lo P
  | [], _, _, _ => trivial
  | p :: r, _, _, q => ⟨q.1, q.2.1, q.2.2.2.2.asc⟩
theorem vl_below {n : α} : ∀ {P : List (Pc α)} {lo x : Int}, Asc lo P → x < lo → vl n P x = n
  | [], _, _, _, _ => rfl
  | p :: r, lo, x, h, hx => by
    obtain ⟨h1, h2, h3⟩ := h
    unfold vl
    rw [if_neg (by unfold has; simp; omega)]
    exact vl_below h3 (by omega)
theorem vl_app {n : α} : ∀ {P Q : List (Pc α)} {x : Int}, vl n (P ++ Q) x = vl (vl n Q x) P x
  | [], _, _ => rfl
  | p :: r, Q, x => by
    show (if has p x then p.2.2 else vl n (r ++ Q) x) = if has p x then p.2.2 else vl (vl n Q x) r x
    rw [vl_app]
/-- the end of the last piece -/
def fin (lo : Int) : List (Pc α) → Int
  | [] => lo
  | p :: r => fin p.2.1 r
theorem fin_le {P : List (Pc α)} : ∀ {lo : Int}, Asc lo P → lo ≤ fin lo P := by
  induction P with
  | nil => exact fun _ => Int.le_refl _
  | cons p r ih => exact fun h => Int.le_trans (by have := h.1; have := h.2.1; omega) (ih h.2.2)
theorem fin_app {P : List (Pc α)} {p : Pc α} : ∀ {lo : Int}, fin lo (P ++ [p]) = p.2.1 := by
  induction P with
  | nil => exact fun {lo} => rfl
  | cons q r ih => exact fun {lo} => ih
theorem asc_app {P : List (Pc α)} {p : Pc α} : ∀ {lo : Int}, Asc lo (P ++ [p]) ↔ Asc lo P ∧ fin lo P ≤ p.1 ∧ p.1 < p.2.1 := by
  induction P with
  | nil =>
    intro lo
    show (lo ≤ p.1 ∧ p.1 < p.2.1 ∧ True) ↔ True ∧ lo ≤ p.1 ∧ p.1 < p.2.1
    simp
  | cons q r ih =>
    intro lo
    show (lo ≤ q.1 ∧ q.1 < q.2.1 ∧ Asc q.2.1 (r ++ [p])) ↔ (lo ≤ q.1 ∧ q.1 < q.2.1 ∧ Asc q.2.1 r) ∧ fin q.2.1 r ≤ p.1 ∧ p.1 < p.2.1
    rw [ih]
    simp only [and_assoc]
def lastT (t : Option α) : List (Pc α) → Option α
  | [] => t
  | p :: r => lastT (some p.2.2) r
theorem can_app {n : α} {P : List (Pc α)} {p : Pc α} : ∀ {lo : Int} {t : Option α}, Can n lo t (P ++ [p]) ↔ Can n lo t P ∧ fin lo P ≤ p.1 ∧ p.1 < p.2.1 ∧ p.2.2 ≠ n ∧ (p.1 = fin lo P → lastT t P ≠ some p.2.2) := by
  induction P with
  | nil =>
    intro lo t
    show (lo ≤ p.1 ∧ p.1 < p.2.1 ∧ p.2.2 ≠ n ∧ (p.1 = lo → t ≠ some p.2.2) ∧ True) ↔ True ∧ lo ≤ p.1 ∧ p.1 < p.2.1 ∧ p.2.2 ≠ n ∧ (p.1 = lo → t ≠ some p.2.2)
    simp
  | cons q r ih =>
    intro lo t
    show (lo ≤ q.1 ∧ q.1 < q.2.1 ∧ q.2.2 ≠ n ∧ (q.1 = lo → t ≠ some q.2.2) ∧ Can n q.2.1 (some q.2.2) (r ++ [p])) ↔ (lo ≤ q.1 ∧ q.1 < q.2.1 ∧ q.2.2 ≠ n ∧ (q.1 = lo → t ≠ some q.2.2) ∧ Can n q.2.1 (some q.2.2) r) ∧ fin q.2.1 r ≤ p.1 ∧ p.1 < p.2.1 ∧ p.2.2 ≠ n ∧ (p.1 = fin q.2.1 r → lastT (some q.2.2) r ≠ some p.2.2)
    rw [ih]
    simp only [and_assoc]
theorem lastT_app {P : List (Pc α)} {p : Pc α} : ∀ {t : Option α}, lastT t (P ++ [p]) = some p.2.2 := by
  induction P with
  | nil => exact fun {lo} => rfl
  | cons q r ih => exact fun {lo} => ih
/-- one piece more -/
def push (n : α) (out : List (Pc α)) (p : Pc α) : List (Pc α) :=
  if p.2.2 = n then out else match out.getLast? with
    | none => [p]
    | some q => if q.2.1 = p.1 ∧ q.2.2 = p.2.2 then out.dropLast ++ [(q.1, p.2.1, p.2.2)] else out ++ [p]
def form (n : α) (P : List (Pc α)) : List (Pc α) := P.foldl (push n) []
theorem form_app {n : α} {P : List (Pc α)} {p : Pc α} : form n (P ++ [p]) = push n (form n P) p := by
  unfold form
  rw [List.foldl_append] <;> rfl
theorem snoc_cases (P : List (Pc α)) : P = [] ∨ ∃ Q q, P = Q ++ [q] := by
  cases h : P.getLast? with
  | none => exact .inl (List.getLast?_eq_none_iff.mp h)
  | some q =>
    right
    obtain ⟨ys, e⟩ := List.getLast?_eq_some_iff.mp h
    exact ⟨ys, q, e⟩
theorem push_nil {n : α} {p : Pc α} (h : p.2.2 ≠ n) : push n [] p = [p] := by unfold push; rw [if_neg h] <;> rfl
theorem push_snoc {n : α} {Q : List (Pc α)} {q p : Pc α} (h : p.2.2 ≠ n) : push n (Q ++ [q]) p = if q.2.1 = p.1 ∧ q.2.2 = p.2.2 then Q ++ [(q.1, p.2.1, p.2.2)] else Q ++ [q] ++ [p] := by
  unfold push
  rw [if_neg h, List.getLast?_append, List.getLast?_singleton, List.dropLast_concat]
  rfl
theorem push_neutral {n : α} {Q : List (Pc α)} {p : Pc α} (h : p.2.2 = n) : push n Q p = Q := by unfold push; rw [if_pos h]
theorem push_len (n : α) (Q : List (Pc α)) (p : Pc α) : (push n Q p).length ≤ Q.length + 1 := by
  by_cases h : p.2.2 = n
  · rw [push_neutral h]; omega
  · rcases snoc_cases Q with rfl | ⟨F, f, rfl⟩
    · rw [push_nil h]; simp
    · rw [push_snoc h]; split <;> simp
theorem form_len (n : α) (P : List (Pc α)) : (form n P).length ≤ P.length := by
  suffices z : ∀ (P Q : List (Pc α)), (P.foldl (push n) Q).length ≤ Q.length + P.length by
    have := z P []
    simpa [form] using this
  intro P
  induction P with
  | nil => intro Q; simp
  | cons p r ih =>
    intro Q
    have h1 := ih (push n Q p)
    have h2 := push_len n Q p
    simp only [List.foldl_cons, List.length_cons]
    omega
theorem push_all {n : α} {Q : List (Pc α)} {p : Pc α} {R : α → Prop} (h : ∀ q ∈ Q, R q.2.2) (hp : R p.2.2) : ∀ q ∈ push n Q p, R q.2.2 := by
  by_cases c : p.2.2 = n
  · rw [push_neutral c]; exact h
  · rcases snoc_cases Q with rfl | ⟨F, f, rfl⟩
    · rw [push_nil c]
      intro q hq
      rw [List.mem_singleton.mp hq]
      exact hp
    · rw [push_snoc c]
      split
      · intro q hq
        rcases List.mem_append.mp hq with hq | hq
        · exact h q (List.mem_append_left _ hq)
        · rw [List.mem_singleton.mp hq]
          exact hp
      · intro q hq
        rcases List.mem_append.mp hq with hq | hq
        · exact h q hq
        · rw [List.mem_singleton.mp hq]
          exact hp
theorem form_all {n : α} {P : List (Pc α)} {R : α → Prop} (h : ∀ q ∈ P, R q.2.2) : ∀ q ∈ form n P, R q.2.2 := by
  suffices z : ∀ (P Q : List (Pc α)), (∀ q ∈ P, R q.2.2) → (∀ q ∈ Q, R q.2.2) → ∀ q ∈ P.foldl (push n) Q, R q.2.2 from z P [] h (fun q hq => by cases hq)
  intro P
  induction P with
  | nil => exact fun Q _ h => h
  | cons p r ih => exact fun Q h1 h2 => ih _ (fun q hq => h1 q (List.mem_cons_of_mem _ hq)) (push_all h2 (h1 p (by simp)))
/-- a row of pieces as one field -/
structure FOk (n : α) (lo : Int) (P : List (Pc α)) (hi : Int) : Prop where
  can : Can n lo none P
  hi_ : fin lo P ≤ hi
  lo_ : lo ≤ hi
theorem push_ok {n : α} {lo hi : Int} {P : List (Pc α)} {p : Pc α} (h : FOk n lo P hi) (h1 : hi ≤ p.1) (h2 : p.1 < p.2.1) :
    FOk n lo (push n P p) p.2.1 ∧ ∀ x, vl n (push n P p) x = if has p x then p.2.2 else vl n P x := by
  obtain ⟨hc, hf, hl⟩ := h
  by_cases hp : p.2.2 = n
  · rw [push_neutral hp]
    refine ⟨⟨hc, by omega, by omega⟩, fun x => ?_⟩
    split
    · rename_i hx
      unfold has at hx
      simp only [Bool.and_eq_true, decide_eq_true_eq] at hx
      rw [hp]
      -- beyond all
      clear hl h2
      suffices z : ∀ (P : List (Pc α)) (lo : Int) (t : Option α), Can n lo t P → fin lo P ≤ x → vl n P x = n from z P lo _ hc (by omega)
      intro P
      induction P with
      | nil => exact fun _ _ _ _ => rfl
      | cons q r ih =>
        intro lo t c f
        have f : fin q.2.1 r ≤ x := f
        have := fin_le c.2.2.2.2.asc
        unfold vl
        rw [if_neg (by unfold has; simp; omega)]
        exact ih _ _ c.2.2.2.2 f
    · rfl
  · rcases snoc_cases P with rfl | ⟨Q, q, rfl⟩
    · rw [push_nil hp]
      have hf : lo ≤ hi := hf
      exact ⟨⟨⟨by omega, h2, hp, (fun _ z => by cases z), trivial⟩, Int.le_refl _, by omega⟩, fun x => rfl⟩
    · rw [push_snoc hp]
      rw [fin_app] at hf
      obtain ⟨c1, c2, c3, c4, c5⟩ := can_app.mp hc
      split
      · rename_i e
        refine ⟨⟨can_app.mpr ⟨c1, c2, by show q.1 < p.2.1; omega, hp, fun z => by show lastT none Q ≠ some p.2.2; rw [← e.2]; exact c5 z⟩, by rw [fin_app]; exact Int.le_refl _, by have := fin_le hc.asc; rw [fin_app] at this; omega⟩, fun x => ?_⟩
        rw [vl_app, vl_app]
        show vl (if has (q.1, p.2.1, p.2.2) x then p.2.2 else n) Q x = if has p x then p.2.2 else vl (if has q x then q.2.2 else n) Q x
        -- a key of p is in no piece of Q
        by_cases hx : has p x = true
        · rw [if_pos hx]
          have e1 : has (q.1, p.2.1, p.2.2) x = true := by
            unfold has at hx ⊢
            simp only [Bool.and_eq_true, decide_eq_true_eq] at hx ⊢
            omega
          rw [if_pos e1]
          unfold has at hx
          simp only [Bool.and_eq_true, decide_eq_true_eq] at hx
          have c2' : fin lo Q ≤ x := by omega
          suffices z : ∀ (P : List (Pc α)) (lo : Int) (t : Option α) (m : α), Can n lo t P → fin lo P ≤ x → vl m P x = m from z Q lo _ _ c1 c2'
          intro P
          induction P with
          | nil => exact fun _ _ _ _ _ => rfl
          | cons q r ih =>
            intro lo t m c f
            have f : fin q.2.1 r ≤ x := f
            have := fin_le c.2.2.2.2.asc
            unfold vl
            rw [if_neg (by unfold has; simp; omega)]
            exact ih _ _ _ c.2.2.2.2 f
        · rw [if_neg hx]
          congr 1
          have e1 : has (q.1, p.2.1, p.2.2) x = has q x := by
            unfold has at hx ⊢
            rw [Bool.eq_iff_iff]
            simp only [Bool.and_eq_true, decide_eq_true_eq] at hx ⊢
            omega
          rw [e1, e.2]
      · rename_i e
        refine ⟨⟨can_app.mpr ⟨hc, by rw [fin_app]; omega, h2, hp, fun z => by rw [lastT_app]; rw [fin_app] at z; exact fun y => e ⟨z.symm, Option.some.inj y⟩⟩, by rw [fin_app]; exact Int.le_refl _, by omega⟩, fun x => ?_⟩
        rw [vl_app]
        show vl (if has p x then p.2.2 else n) (Q ++ [q]) x = _
        by_cases hx : has p x = true
        · rw [if_pos hx, if_pos hx]
          unfold has at hx
          simp only [Bool.and_eq_true, decide_eq_true_eq] at hx
          have c2' : fin lo (Q ++ [q]) ≤ x := by rw [fin_app]; omega
          suffices z : ∀ (P : List (Pc α)) (lo : Int) (t : Option α) (m : α), Can n lo t P → fin lo P ≤ x → vl m P x = m from z _ lo _ _ hc c2'
          intro P
          induction P with
          | nil => exact fun _ _ _ _ _ => rfl
          | cons q r ih =>
            intro lo t m c f
            have f : fin q.2.1 r ≤ x := f
            have := fin_le c.2.2.2.2.asc
            unfold vl
            rw [if_neg (by unfold has; simp; omega)]
            exact ih _ _ _ c.2.2.2.2 f
        · rw [if_neg hx, if_neg hx]
/-- the one form of ascending pieces: in form, with the same things -/
theorem form_ok {n : α} {lo : Int} : ∀ {P : List (Pc α)}, Asc lo P → FOk n lo (form n P) (fin lo P) ∧ ∀ x, vl n (form n P) x = vl n P x := by
  intro P
  suffices z : ∀ (k : Nat) (P : List (Pc α)), P.length = k → Asc lo P → FOk n lo (form n P) (fin lo P) ∧ ∀ x, vl n (form n P) x = vl n P x from z _ P rfl
  intro k
  induction k with
  | zero =>
    intro P hk _
    have e : P = [] := List.length_eq_zero_iff.mp hk
    subst e
    exact ⟨⟨trivial, Int.le_refl _, Int.le_refl _⟩, fun _ => rfl⟩
  | succ k ih =>
    intro P hk h
    rcases snoc_cases P with rfl | ⟨Q, q, rfl⟩
    · simp at hk
    · obtain ⟨h1, h2, h3⟩ := asc_app.mp h
      obtain ⟨i1, i2⟩ := ih Q (by simpa using hk) h1
      obtain ⟨p1, p2⟩ := push_ok i1 h2 h3
      rw [form_app, fin_app]
      refine ⟨p1, fun x => ?_⟩
      rw [p2, vl_app, i2]
      show (if has q x then q.2.2 else vl n Q x) = vl (if has q x then q.2.2 else n) Q x
      by_cases hx : has q x = true
      · rw [if_pos hx, if_pos hx]
        unfold has at hx
        simp only [Bool.and_eq_true, decide_eq_true_eq] at hx
        have c2' : fin lo Q ≤ x := by omega
        suffices z : ∀ (P : List (Pc α)) (lo : Int) (m : α), Asc lo P → fin lo P ≤ x → vl m P x = m from (z _ lo _ h1 c2').symm
        intro P
        induction P with
        | nil => exact fun _ _ _ _ => rfl
        | cons q r ih =>
          intro lo m c f
          have f : fin q.2.1 r ≤ x := f
          have := fin_le c.2.2
          unfold vl
          rw [if_neg (by unfold has; simp; omega)]
          exact ih _ _ c.2.2 f
      · rw [if_neg hx, if_neg hx]
/-- the first key at which two rows of pieces part, as the program looks for it -/
def fuk : List (Pc α) → List (Pc α) → Int
  | p :: P, q :: Q => if p.1 ≠ q.1 ∨ p.2.2 ≠ q.2.2 then min p.1 q.1 else if p.2.1 ≠ q.2.1 then min p.2.1 q.2.1 else fuk P Q
  | p :: _, [] => p.1
  | [], q :: _ => q.1
  | [], [] => 0
theorem vl_at {n : α} {p : Pc α} {P : List (Pc α)} {x : Int} (h : has p x = true) : vl n (p :: P) x = p.2.2 := if_pos h
theorem vl_off {n : α} {p : Pc α} {P : List (Pc α)} {x : Int} (h : has p x = false) : vl n (p :: P) x = vl n P x := by
  show (if has p x = true then p.2.2 else vl n P x) = _
  rw [h, if_neg Bool.false_ne_true]
theorem has_iff {p : Pc α} {x : Int} : has p x = true ↔ p.1 ≤ x ∧ x < p.2.1 := by unfold has; simp
theorem has_not {p : Pc α} {x : Int} : has p x = false ↔ ¬ (p.1 ≤ x ∧ x < p.2.1) := by rw [← has_iff]; simp
theorem can_next {n : α} : ∀ {P : List (Pc α)} {lo : Int} {t : α}, Can n lo (some t) P → t ≠ n → vl n P lo ≠ t
  | [], _, _, _, ht => fun z => ht z.symm
  | p :: P, lo, t, h, ht => by
    obtain ⟨h1, h2, h3, h4, h5⟩ := h
    by_cases e : p.1 = lo
    · rw [vl_at (has_iff.mpr (by omega))]
      exact fun z => h4 e (by rw [z])
    · rw [vl_off (has_not.mpr (by omega)), vl_below h5.asc (by omega)]
      exact fun z => ht z.symm
theorem fuk_ok {n : α} : ∀ {P Q : List (Pc α)} {lo : Int} {t t' : Option α}, Can n lo t P → Can n lo t' Q → P ≠ Q → lo ≤ fuk P Q ∧ vl n P (fuk P Q) ≠ vl n Q (fuk P Q) ∧ ∀ x, x < fuk P Q → vl n P x = vl n Q x
  | [], [], _, _, _, _, _, h => absurd rfl h
  | [], q :: Q, lo, _, _, _, hq, _ => by
    obtain ⟨h1, h2, h3, _, h5⟩ := hq
    refine ⟨h1, ?_, fun x hx => ?_⟩
    · rw [vl_at (p := q) (has_iff.mpr (by show q.1 ≤ q.1 ∧ q.1 < q.2.1; omega))]
      exact fun z => h3 z.symm
    · have hx : x < q.1 := hx
      rw [vl_off (has_not.mpr (by omega)), vl_below h5.asc (by omega)]
      rfl
  | p :: P, [], lo, _, _, hq, _, _ => by
    obtain ⟨h1, h2, h3, _, h5⟩ := hq
    refine ⟨h1, ?_, fun x hx => ?_⟩
    · rw [vl_at (p := p) (has_iff.mpr (by show p.1 ≤ p.1 ∧ p.1 < p.2.1; omega))]
      exact h3
    · have hx : x < p.1 := hx
      rw [vl_off (has_not.mpr (by omega)), vl_below h5.asc (by omega)]
      rfl
  | p :: P, q :: Q, lo, _, _, hp, hq, hne => by
    obtain ⟨p1, p2, p3, _, p5⟩ := hp
    obtain ⟨q1, q2, q3, _, q5⟩ := hq
    unfold fuk
    by_cases h : p.1 ≠ q.1 ∨ p.2.2 ≠ q.2.2
    · rw [if_pos h]
      refine ⟨by omega, ?_, fun x hx => ?_⟩
      · rcases Int.lt_trichotomy p.1 q.1 with l | l | l
        · have e : min p.1 q.1 = p.1 := by omega
          rw [e, vl_at (p := p) (has_iff.mpr (by omega)), vl_off (has_not.mpr (by omega)), vl_below q5.asc (by omega)]
          exact p3
        · have e : min p.1 q.1 = p.1 := by omega
          rw [e, vl_at (p := p) (has_iff.mpr (by omega)), vl_at (p := q) (has_iff.mpr (by omega))]
          exact h.resolve_left fun z => z l
        · have e : min p.1 q.1 = q.1 := by omega
          rw [e, vl_at (p := q) (has_iff.mpr (by omega)), vl_off (has_not.mpr (by omega)), vl_below p5.asc (by omega)]
          exact fun z => q3 z.symm
      · rw [vl_off (has_not.mpr (by omega)), vl_below p5.asc (by omega), vl_off (has_not.mpr (by omega)), vl_below q5.asc (by omega)]
    · rw [if_neg h]
      have e1 : p.1 = q.1 := Decidable.byContradiction fun z => h (.inl z)
      have e2 : p.2.2 = q.2.2 := Decidable.byContradiction fun z => h (.inr z)
      by_cases h2 : p.2.1 ≠ q.2.1
      · rw [if_pos h2]
        refine ⟨by omega, ?_, fun x hx => ?_⟩
        · rcases Int.lt_or_gt_of_ne h2 with l | l
          · have e : min p.2.1 q.2.1 = p.2.1 := by omega
            rw [e, vl_at (p := q) (has_iff.mpr (by omega)), vl_off (has_not.mpr (by omega)), ← e2]
            exact can_next p5 p3
          · have e : min p.2.1 q.2.1 = q.2.1 := by omega
            rw [e, vl_at (p := p) (has_iff.mpr (by omega)), vl_off (has_not.mpr (by omega)), e2]
            exact fun z => can_next q5 q3 z.symm
        · by_cases hx2 : p.1 ≤ x
          · rw [vl_at (has_iff.mpr (by omega)), vl_at (has_iff.mpr (by omega)), e2]
          · rw [vl_off (has_not.mpr (by omega)), vl_below p5.asc (by omega), vl_off (has_not.mpr (by omega)), vl_below q5.asc (by omega)]
      · rw [if_neg h2]
        have e3 : p.2.1 = q.2.1 := Decidable.byContradiction fun z => h2 z
        have epq : p = q := by
          obtain ⟨a, b, c⟩ := p
          obtain ⟨a', b', c'⟩ := q
          simp only at e1 e2 e3
          rw [e1, e2, e3]
        subst epq
        obtain ⟨i1, i2, i3⟩ := fuk_ok p5 q5 (fun z => hne (by rw [z]))
        refine ⟨by omega, ?_, fun x hx => ?_⟩
        · rw [vl_off (has_not.mpr (by omega)), vl_off (has_not.mpr (by omega))]
          exact i2
        · unfold vl
          rw [i3 x hx]
/-- the one form is one -/
theorem can_ext {n : α} {P Q : List (Pc α)} {lo : Int} {t t' : Option α} (hp : Can n lo t P) (hq : Can n lo t' Q) (h : ∀ x, vl n P x = vl n Q x) : P = Q :=
  Decidable.byContradiction fun z => (fuk_ok hp hq z).2.1 (h _)
/-! ### a row of things over a grid -/
/-- the thing of a key, by the row -/
def rw_ (n : α) : List Int → List α → Int → α
  | a :: b :: g, d :: r, x => if decide (a ≤ x) && decide (x < b) then d else rw_ n (b :: g) r x
  | _, _, _ => n
theorem rw_below {n : α} : ∀ {g : List Int} {r : List α} {lo x : Int}, g.Pairwise (· < ·) → (∀ y ∈ g, lo ≤ y) → x < lo → rw_ n g r x = n
  | [], _, _, _, _, _, _ => rfl
  | [_], [], _, _, _, _, _ => rfl
  | [_], _ :: _, _, _, _, _, _ => rfl
  | _ :: _ :: _, [], _, _, _, _, _ => rfl
  | a :: b :: g, d :: r, lo, x, h, hl, hx => by
    unfold rw_
    have := hl a (by simp)
    rw [if_neg (by simp; omega)]
    exact rw_below (List.pairwise_cons.mp h).2 (fun y hy => hl y (List.mem_cons_of_mem _ hy)) hx
theorem rw_at {n : α} : ∀ {g : List Int} {r : List α} {k : Nat} {d : α} {a b x : Int}, g.Pairwise (· < ·) → r[k]? = some d → g[k]? = some a → g[k + 1]? = some b → a ≤ x → x < b → rw_ n g r x = d
  | [], _, _, _, _, _, _, _, _, h, _, _, _ => by simp at h
  | [_], _, _, _, _, _, _, _, _, _, h, _, _ => by simp at h
  | _ :: _ :: _, [], _, _, _, _, _, _, h, _, _, _, _ => by simp at h
  | a :: b :: g, d :: r, 0, d', a', b', x, _, h1, h2, h3, h4, h5 => by
    cases h1
    cases h2
    cases h3
    unfold rw_
    rw [if_pos (by simp; omega)]
  | a :: b :: g, d :: r, k + 1, d', a', b', x, h, h1, h2, h3, h4, h5 => by
    have q := List.pairwise_cons.mp h
    unfold rw_
    have h2' : (b :: g)[k]? = some a' := h2
    have hb : b ≤ a' := by
      cases k with
      | zero => cases h2'; exact Int.le_refl _
      | succ k =>
        have := (List.pairwise_cons.mp q.2).1 a' (List.mem_of_getElem? (show g[k]? = some a' from h2'))
        omega
    rw [if_neg (by simp; omega)]
    exact rw_at q.2 h1 h2 h3 h4 h5
/-- where the rows part first -/
theorem rw_same {n : α} : ∀ {g : List Int} {r s : List α} {k : Nat} {a x : Int}, g.Pairwise (· < ·) → r.length = s.length → (∀ j, j < k → r[j]? = s[j]?) → g[k]? = some a → x < a → rw_ n g r x = rw_ n g s x
  | [], r, s, _, _, _, _, _, _, h, _ => by simp at h
  | [_], r, s, _, _, _, _, _, _, _, _ => by
    unfold rw_
    rfl
  | _ :: _ :: _, [], s, _, _, _, _, hl, _, _, _ => by
    have e : s = [] := List.length_eq_zero_iff.mp hl.symm
    subst e
    rfl
  | _ :: _ :: _, _ :: _, [], _, _, _, _, hl, _, _, _ => by simp at hl
  | a :: b :: g, d :: r, e :: s, 0, a', x, h, hl, hj, hk, hx => by
    cases hk
    have q := List.pairwise_cons.mp h
    have hab := q.1 b (by simp)
    unfold rw_
    rw [if_neg (by simp; omega), if_neg (by simp; omega)]
    have hb : ∀ y ∈ b :: g, b ≤ y := fun y hy => by
      rcases List.mem_cons.mp hy with rfl | hy
      · exact Int.le_refl _
      · exact Int.le_of_lt ((List.pairwise_cons.mp q.2).1 y hy)
    rw [rw_below q.2 hb (by omega), rw_below q.2 hb (by omega)]
  | a :: b :: g, d :: r, e :: s, k + 1, a', x, h, hl, hj, hk, hx => by
    have q := List.pairwise_cons.mp h
    have e0 := hj 0 (Nat.zero_lt_succ _)
    have e0 : d = e := Option.some.inj e0
    subst e0
    unfold rw_
    rw [rw_same q.2 (by simpa using hl) (fun j hjk => hj (j + 1) (Nat.succ_lt_succ hjk)) hk hx]
/-! ### the least key at which two rows part -/
theorem fuk_row {n : α} {g : List Int} {r s : List α} {P Q : List (Pc α)} {lo : Int} {k : Nat} {a b : Int} {d e : α} (hp : Can n lo none P) (hq : Can n lo none Q) (vp : ∀ x, vl n P x = rw_ n g r x) (vq : ∀ x, vl n Q x = rw_ n g s x)
    (hg : g.Pairwise (· < ·)) (hl : r.length = s.length) (hj : ∀ j, j < k → r[j]? = s[j]?) (ha : g[k]? = some a) (hb : g[k + 1]? = some b) (hd : r[k]? = some d) (he : s[k]? = some e) (hde : d ≠ e) :
    P ≠ Q ∧ fuk P Q = a ∧ vl n P a = d ∧ vl n Q a = e ∧ ∀ x, x < a → vl n P x = vl n Q x := by
  have hab : a < b := by
    have h1 := List.pairwise_iff_getElem.mp hg
    obtain ⟨l1, e1⟩ := List.getElem?_eq_some_iff.mp ha
    obtain ⟨l2, e2⟩ := List.getElem?_eq_some_iff.mp hb
    have := h1 k (k + 1) l1 l2 (by omega)
    omega
  have va : vl n P a = d := by rw [vp]; exact rw_at hg hd ha hb (Int.le_refl _) hab
  have wa : vl n Q a = e := by rw [vq]; exact rw_at hg he ha hb (Int.le_refl _) hab
  have lo_ : ∀ x, x < a → vl n P x = vl n Q x := fun x hx => by rw [vp, vq]; exact rw_same hg hl hj ha hx
  have hne : P ≠ Q := fun z => hde (by rw [← va, ← wa, z])
  obtain ⟨_, f2, f3⟩ := fuk_ok hp hq hne
  refine ⟨hne, ?_, va, wa, lo_⟩
  rcases Int.lt_trichotomy (fuk P Q) a with l | l | l
  · exact absurd (lo_ _ l) f2
  · exact l
  · have := f3 a l
    rw [va, wa] at this
    exact absurd this hde
/-! ### loose pieces of a row -/
/-- pieces of the row, one or two for each gap, or none where the thing is neutral -/
inductive Loose (n : α) : List Int → List α → List (Pc α) → Prop where
  | nil {a : Int} : Loose n [a] [] []
  | one {a b : Int} {g : List Int} {d : α} {r : List α} {P : List (Pc α)} (h : a < b) (t : Loose n (b :: g) r P) : Loose n (a :: b :: g) (d :: r) ((a, b, d) :: P)
  | two {a m b : Int} {g : List Int} {d : α} {r : List α} {P : List (Pc α)} (h1 : a < m) (h2 : m < b) (t : Loose n (b :: g) r P) : Loose n (a :: b :: g) (d :: r) ((a, m, d) :: (m, b, d) :: P)
  | off {a b : Int} {g : List Int} {r : List α} {P : List (Pc α)} (h : a < b) (t : Loose n (b :: g) r P) : Loose n (a :: b :: g) (n :: r) P
theorem Loose.asc {n : α} {g : List Int} {r : List α} {P : List (Pc α)} (h : Loose n g r P) : ∀ {a : Int} {g' : List Int}, g = a :: g' → Asc a P := by
  induction h with
  | nil => exact fun _ => trivial
  | one h t ih => exact fun e => by cases e; exact ⟨Int.le_refl _, h, ih rfl⟩
  | two h1 h2 t ih => exact fun e => by cases e; exact ⟨Int.le_refl _, h1, Int.le_refl _, h2, ih rfl⟩
  | off h t ih => exact fun e => by cases e; exact (ih rfl).mono (Int.le_of_lt h)
theorem Loose.val {n : α} {g : List Int} {r : List α} {P : List (Pc α)} (h : Loose n g r P) (x : Int) : vl n P x = rw_ n g r x := by
  induction h with
  | nil => rfl
  | one h t ih =>
    unfold vl rw_
    rw [ih] <;> rfl
  | @two a m b g d r P h1 h2 t ih =>
    show (if has (a, m, d) x then d else if has (m, b, d) x then d else vl n P x) = if decide (a ≤ x) && decide (x < b) then d else rw_ n (b :: g) r x
    rw [ih]
    by_cases c1 : has (a, m, d) x = true
    · rw [if_pos c1]
      have := has_iff.mp c1
      simp only at this
      rw [if_pos (by simp; omega)]
    · rw [if_neg c1]
      have c1' := has_not.mp (by simpa using c1)
      simp only at c1'
      by_cases c2 : has (m, b, d) x = true
      · rw [if_pos c2]
        have := has_iff.mp c2
        simp only at this
        rw [if_pos (by simp; omega)]
      · rw [if_neg c2]
        have c2' := has_not.mp (by simpa using c2)
        simp only at c2'
        rw [if_neg (by simp; omega)]
  | @off a b g r P h t ih =>
    show vl n P x = if decide (a ≤ x) && decide (x < b) then n else rw_ n (b :: g) r x
    rw [ih]
    split
    · rename_i c
      simp only [Bool.and_eq_true, decide_eq_true_eq] at c
      rw [← ih, vl_below (t.asc rfl) c.2]
    · rfl
theorem asc_take : ∀ {P : List (Pc α)} {lo x : Int} {m : Nat} {p : Pc α}, Asc lo P → P[m]? = some p → p.2.1 ≤ x → ∀ q ∈ P.take (m + 1), q.2.1 ≤ x
  | [], _, _, _, _, _, h, _ => by simp at h
  | p0 :: P, lo, x, 0, p, h, hp, hx => by
    intro q hq
    have e : q = p0 := by simpa using hq
    have e2 : p0 = p := by simpa using hp
    rw [e, e2]
    exact hx
  | p0 :: P, lo, x, m + 1, p, h, hp, hx => by
    intro q hq
    have hp : P[m]? = some p := by simpa using hp
    rcases List.mem_cons.mp (show q ∈ p0 :: P.take (m + 1) from by simpa using hq) with rfl | hq
    · have h3 := h.2.2
      suffices z : ∀ (P : List (Pc α)) (lo : Int) (m : Nat), Asc lo P → P[m]? = some p → lo ≤ p.1 from by
        have := z P _ m h3 hp
        have h4 : ∀ (P : List (Pc α)) (lo : Int) (m : Nat), Asc lo P → P[m]? = some p → p.1 < p.2.1 := by
          intro P
          induction P with
          | nil => intro _ _ _ h; simp at h
          | cons a r ih =>
            intro lo m ha h
            cases m with
            | zero =>
              have e : a = p := by simpa using h
              rw [← e]
              exact ha.2.1
            | succ m => exact ih _ m ha.2.2 (by simpa using h)
        have := h4 P _ m h3 hp
        omega
      intro P
      induction P with
      | nil => intro _ _ _ h; simp at h
      | cons a r ih =>
        intro lo m ha h
        cases m with
        | zero =>
          have e : a = p := by simpa using h
          rw [← e]
          exact ha.1
        | succ m =>
          have := ih _ m ha.2.2 (by simpa using h)
          have := ha.1
          have := ha.2.1
          omega
    · exact asc_take h.2.2 hp hx q hq
/-- where the search for a key ends -/
theorem vl_find {n : α} : ∀ {P : List (Pc α)} {lo x : Int} {m : Nat}, Asc lo P → (∀ p ∈ P.take m, p.2.1 ≤ x) → (∀ p, P[m]? = some p → x < p.2.1) → vl n P x = match P[m]? with
    | some p => if p.1 ≤ x then p.2.2 else n
    | none => n
  | [], _, _, _, _, _, _ => by simp [vl]
  | p0 :: P, lo, x, 0, h, _, hm => by
    have hx := hm p0 rfl
    show vl n (p0 :: P) x = if p0.1 ≤ x then p0.2.2 else n
    split
    · rename_i c
      exact vl_at (has_iff.mpr ⟨c, hx⟩)
    · rename_i c
      rw [vl_off (has_not.mpr fun z => c z.1)]
      exact vl_below h.2.2 hx
  | p0 :: P, lo, x, m + 1, h, ht, hm => by
    have h0 := ht p0 (by simp)
    rw [vl_off (has_not.mpr (by omega))]
    have := vl_find (n := n) (m := m) h.2.2 (fun p hp => ht p (by simp [hp])) (fun p hp => hm p (by simpa using hp))
    simpa using this
theorem fuk_top {n : α} : ∀ {P Q : List (Pc α)} {lo hi : Int} {t t' : Option α}, Can n lo t P → Can n lo t' Q → P ≠ Q → fin lo P ≤ hi → fin lo Q ≤ hi → fuk P Q < hi
  | [], [], _, _, _, _, _, _, h, _, _ => absurd rfl h
  | [], q :: Q, lo, hi, _, _, _, hq, _, _, f2 => by
    have := fin_le hq.2.2.2.2.asc
    have f2 : fin q.2.1 Q ≤ hi := f2
    have := hq.2.1
    show q.1 < hi
    omega
  | p :: P, [], lo, hi, _, _, hp, _, _, f1, _ => by
    have := fin_le hp.2.2.2.2.asc
    have f1 : fin p.2.1 P ≤ hi := f1
    have := hp.2.1
    show p.1 < hi
    omega
  | p :: P, q :: Q, lo, hi, _, _, hp, hq, hne, f1, f2 => by
    have i1 := fin_le hp.2.2.2.2.asc
    have i2 := fin_le hq.2.2.2.2.asc
    have f1 : fin p.2.1 P ≤ hi := f1
    have f2 : fin q.2.1 Q ≤ hi := f2
    have l1 := hp.2.1
    have l2 := hq.2.1
    unfold fuk
    split
    · omega
    · rename_i c1
      split
      · omega
      · rename_i c2
        have e1 : p.1 = q.1 := Decidable.byContradiction fun z => c1 (.inl z)
        have e2 : p.2.2 = q.2.2 := Decidable.byContradiction fun z => c1 (.inr z)
        have e3 : p.2.1 = q.2.1 := Decidable.byContradiction fun z => c2 z
        have epq : p = q := Prod.ext e1 (Prod.ext e3 e2)
        subst epq
        exact fuk_top hp.2.2.2.2 hq.2.2.2.2 (fun z => hne (by rw [z])) f1 f2
theorem Loose.snoc {n : α} {g : List Int} {r : List α} {P : List (Pc α)} (h : Loose n g r P) {a b : Int} : g.getLast? = some a → a < b →
    (∀ d, Loose n (g ++ [b]) (r ++ [d]) (P ++ [(a, b, d)])) ∧ (∀ d m, a < m → m < b → Loose n (g ++ [b]) (r ++ [d]) (P ++ [(a, m, d), (m, b, d)])) ∧ Loose n (g ++ [b]) (r ++ [n]) P := by
  induction h with
  | nil =>
    intro e l
    cases e
    exact ⟨fun d => .one l .nil, fun d m l1 l2 => .two l1 l2 .nil, .off l .nil⟩
  | @one a0 b0 g d0 r P h t ih =>
    intro e l
    rw [List.getLast?_cons_cons] at e
    obtain ⟨i1, i2, i3⟩ := ih e l
    exact ⟨fun d => .one h (i1 d), fun d m l1 l2 => .one h (i2 d m l1 l2), .one h i3⟩
  | @two a0 m0 b0 g d0 r P h1 h2 t ih =>
    intro e l
    rw [List.getLast?_cons_cons] at e
    obtain ⟨i1, i2, i3⟩ := ih e l
    exact ⟨fun d => .two h1 h2 (i1 d), fun d m l1 l2 => .two h1 h2 (i2 d m l1 l2), .two h1 h2 i3⟩
  | @off a0 b0 g r P h t ih =>
    intro e l
    rw [List.getLast?_cons_cons] at e
    obtain ⟨i1, i2, i3⟩ := ih e l
    exact ⟨fun d => .off h (i1 d), fun d m l1 l2 => .off h (i2 d m l1 l2), .off h i3⟩
theorem Loose.le {n : α} {g : List Int} {r : List α} {P : List (Pc α)} (h : Loose n g r P) : ∀ p ∈ P, p.2.1 ∈ g ∨ ∃ x ∈ g, p.2.1 ≤ x := by
  induction h with
  | nil => intro p hp; cases hp
  | one h t ih =>
    intro p hp
    rcases List.mem_cons.mp hp with rfl | hp
    · exact .inl (by simp)
    · rcases ih p hp with q | ⟨x, q, l⟩
      · exact .inl (List.mem_cons_of_mem _ q)
      · exact .inr ⟨x, List.mem_cons_of_mem _ q, l⟩
  | @two a m b g d r P h1 h2 t ih =>
    intro p hp
    rcases List.mem_cons.mp hp with rfl | hp
    · exact .inr ⟨b, by simp, Int.le_of_lt h2⟩
    · rcases List.mem_cons.mp hp with rfl | hp
      · exact .inl (by simp)
      · rcases ih p hp with q | ⟨x, q, l⟩
        · exact .inl (List.mem_cons_of_mem _ q)
        · exact .inr ⟨x, List.mem_cons_of_mem _ q, l⟩
  | off h t ih =>
    intro p hp
    rcases ih p hp with q | ⟨x, q, l⟩
    · exact .inl (List.mem_cons_of_mem _ q)
    · exact .inr ⟨x, List.mem_cons_of_mem _ q, l⟩
theorem Loose.max {n : α} {g : List Int} {r : List α} {P : List (Pc α)} (h : Loose n g r P) {B : Int} (hb : ∀ x ∈ g, x ≤ B) : ∀ p ∈ P, p.2.1 ≤ B := fun p hp => by
  rcases h.le p hp with q | ⟨x, q, l⟩
  · exact hb _ q
  · exact Int.le_trans l (hb _ q)
theorem fin_max {B : Int} : ∀ {P : List (Pc α)} {lo : Int}, lo ≤ B → (∀ p ∈ P, p.2.1 ≤ B) → fin lo P ≤ B
  | [], _, h, _ => h
  | p :: r, _, _, h => fin_max (P := r) (h p (by simp)) (fun q hq => h q (List.mem_cons_of_mem _ hq))
theorem vl_cases {n : α} : ∀ {P : List (Pc α)} {x : Int}, vl n P x = n ∨ ∃ p ∈ P, vl n P x = p.2.2
  | [], _ => .inl rfl
  | p :: r, x => by
    by_cases h : has p x = true
    · exact .inr ⟨p, by simp, vl_at h⟩
    · rw [vl_off (by simpa using h)]
      rcases vl_cases (n := n) (P := r) (x := x) with e | ⟨q, hq, e⟩
      · exact .inl e
      · exact .inr ⟨q, List.mem_cons_of_mem _ hq, e⟩
theorem rw_cases {n : α} : ∀ {g : List Int} {r : List α} {x : Int}, rw_ n g r x = n ∨ rw_ n g r x ∈ r
  | [], _, _ => .inl rfl
  | [_], [], _ => .inl rfl
  | [_], _ :: _, _ => .inl rfl
  | _ :: _ :: _, [], _ => .inl rfl
  | a :: b :: g, d :: r, x => by
    unfold rw_
    split
    · exact .inr (by simp)
    · rcases rw_cases (n := n) (g := b :: g) (r := r) (x := x) with e | e
      · exact .inl e
      · exact .inr (List.mem_cons_of_mem _ e)
/-- a piece for each gap -/
def full : List Int → List α → List (Pc α)
  | a :: b :: g, d :: r => (a, b, d) :: full (b :: g) r
  | _, _ => []
theorem full_len : ∀ {g : List Int} {r : List α}, g.length = r.length + 1 → (full g r).length = r.length
  | [], _, h => by simp at h
  | [_], [], _ => rfl
  | [_], _ :: _, h => by simp at h
  | _ :: _ :: _, [], _ => rfl
  | _ :: b :: g, _ :: r, h => by
    show (full (b :: g) r).length + 1 = r.length + 1
    rw [full_len (by simpa using h)]
theorem full_get : ∀ {g : List Int} {r : List α} {k : Nat} {a b : Int} {d : α}, g[k]? = some a → g[k + 1]? = some b → r[k]? = some d → (full g r)[k]? = some (a, b, d)
  | [], _, _, _, _, _, h, _, _ => by simp at h
  | [_], _, _, _, _, _, _, h, _ => by simp at h
  | _ :: _ :: _, [], _, _, _, _, _, _, h => by simp at h
  | a0 :: b0 :: g, d0 :: r, 0, a, b, d, h1, h2, h3 => by cases h1; cases h2; cases h3; rfl
  | a0 :: b0 :: g, d0 :: r, k + 1, a, b, d, h1, h2, h3 => full_get (g := b0 :: g) (r := r) (k := k) h1 h2 h3
theorem full_loose {n : α} : ∀ {g : List Int} {r : List α}, g.Pairwise (· < ·) → g.length = r.length + 1 → Loose n g r (full g r)
  | [], _, _, h => by simp at h
  | [_], [], _, _ => .nil
  | [_], _ :: _, _, h => by simp at h
  | _ :: _ :: _, [], _, h => by simp at h
  | a :: b :: g, d :: r, hp, h => by
    have q := List.pairwise_cons.mp hp
    exact .one (q.1 b (by simp)) (full_loose q.2 (by simpa using h))
theorem full_all {R : α → Prop} : ∀ {g : List Int} {r : List α}, (∀ d ∈ r, R d) → ∀ p ∈ full g r, R p.2.2
  | [], _, _, _, h => by cases h
  | [_], [], _, _, h => by cases h
  | [_], _ :: _, _, _, h => by cases h
  | _ :: _ :: _, [], _, _, h => by cases h
  | a :: b :: g, d :: r, hr, p, h => by
    rcases List.mem_cons.mp h with rfl | h
    · exact hr _ (by simp)
    · exact full_all (fun d hd => hr d (List.mem_cons_of_mem _ hd)) p h
theorem rw_skip {n : α} {g : List Int} {r : List α} {i : Nat} {a b x : Int} (ha : g[i]? = some a) (hb : g[i + 1]? = some b) (hi : i < r.length) (hx : ¬ (a ≤ x ∧ x < b)) : rw_ n (g.drop i) (r.drop i) x = rw_ n (g.drop (i + 1)) (r.drop (i + 1)) x := by
  obtain ⟨l1, e1⟩ := List.getElem?_eq_some_iff.mp ha
  obtain ⟨l2, e2⟩ := List.getElem?_eq_some_iff.mp hb
  rw [List.drop_eq_getElem_cons l1, List.drop_eq_getElem_cons l2, List.drop_eq_getElem_cons hi, e1, e2]
  show (if decide (a ≤ x) && decide (x < b) then _ else _) = _
  rw [if_neg (by simp; omega)]
end
end Fm

set_option Elab.async false
set_option linter.all false
set_option maxRecDepth 100000
set_option maxHeartbeats 4000000
/-! things, pieces, fields as data -/
namespace Kx
open PySem PySem.Spec PyProof.Rows L2 Lk Kd Km
/-- a thing of a field: a word, an effect, a truth value, an int -/
inductive Tg where
  | w (ns : List Int) | e (f : Bool) (ns : List Int) | b (f : Bool) | i (n : Int)
  deriving DecidableEq
def Tg.d : Tg → PyData
  | .w ns => wD ns | .e f ns => eD f ns | .b f => .bool f | .i n => .int n
def Tg.s : Tg → Nat
  | .w _ => 0 | .e _ _ => 1 | .b _ => 2 | .i _ => 3
abbrev Pt := Fm.Pc Tg
def pcD (p : Pt) : PyData := .tuple [.int p.1, .int p.2.1, p.2.2.d]
theorem tg_eqv {x y : Tg} (h : x.s = y.s) : PyData.eqv x.d y.d = decide (x = y) := by
  cases x with
  | w ns =>
    cases y with
    | w ms => show PyData.eqv (wD ns) (wD ms) = _; rw [eqv_w]; simp
    | _ => cases h
  | e f ns =>
    cases y with
    | e g ms =>
      show PyData.eqv (eD f ns) (eD g ms) = _
      rw [eqv_e, Bool.eq_iff_iff]
      simp
    | _ => cases h
  | b f =>
    cases y with
    | b g => show (f == g) = _; cases f <;> cases g <;> rfl
    | _ => cases h
  | i n =>
    cases y with
    | i m => show (n == m) = _; rw [Bool.eq_iff_iff]; simp
    | _ => cases h
def low (k : Nat) (d : PyData) : Prop := PyData.canLay0 d = true ∧ PyData.depth d ≤ k
theorem low_all {k : Nat} : ∀ {ds : List PyData}, (∀ d ∈ ds, low k d) → PyData.canLayAll0 ds = true ∧ PyData.depthAll ds ≤ k
  | [], _ => ⟨rfl, Nat.zero_le _⟩
  | d :: r, h => by
    obtain ⟨h1, h2⟩ := low_all (ds := r) fun d hd => h d (List.mem_cons_of_mem _ hd)
    obtain ⟨h3, h4⟩ := h d (by simp)
    refine ⟨?_, ?_⟩
    · simp only [PyData.canLayAll0, h1, h3, Bool.and_self]
    · simp only [PyData.depthAll]
      omega
theorem low_tup {k : Nat} {ds : List PyData} (h : ∀ d ∈ ds, low k d) : low (k + 1) (.tuple ds) := by
  obtain ⟨h1, h2⟩ := low_all h
  refine ⟨by simp only [PyData.canLay0, h1], ?_⟩
  simp only [PyData.depth]
  omega
theorem low_lst {k : Nat} {ds : List PyData} (h : ∀ d ∈ ds, low k d) : low (k + 1) (.list ds) := by
  obtain ⟨h1, h2⟩ := low_all h
  refine ⟨by simp only [PyData.canLay0, h1], ?_⟩
  simp only [PyData.depth]
  omega
theorem low_int (i : Int) : low 0 (.int i) := ⟨rfl, Nat.le_refl _⟩
theorem low_bool (i : Bool) : low 0 (.bool i) := ⟨rfl, Nat.le_refl _⟩
theorem low.mono {k m : Nat} {d : PyData} (h : low k d) (hm : k ≤ m) : low m d := ⟨h.1, Nat.le_trans h.2 hm⟩
theorem low.sh {k : Nat} {d : PyData} (h : low k d) (hk : k ≤ 64) : SeqAt.shaped d = true := by
  unfold SeqAt.shaped
  rw [h.1, decide_eq_true (Nat.le_trans h.2 hk)] <;> rfl
theorem low_w (ns : List Int) : low 1 (wD ns) := low_tup fun d hd => by
  obtain ⟨i, _, rfl⟩ := List.mem_map.mp hd
  exact low_int i
theorem tg_low (x : Tg) : low 2 x.d := by
  cases x with
  | w ns => exact (low_w ns).mono (by decide)
  | e f ns =>
    refine low_tup fun d hd => ?_
    simp only [List.mem_cons, List.not_mem_nil, or_false] at hd
    rcases hd with rfl | rfl
    · exact (low_bool f).mono (by decide)
    · exact low_w ns
  | b f => exact (low_bool f).mono (by decide)
  | i n => exact (low_int n).mono (by decide)
theorem tg_sh (x : Tg) : SeqAt.shaped x.d = true := (tg_low x).sh (by decide)
theorem pc_low (p : Pt) : low 3 (pcD p) := low_tup fun d hd => by
  simp only [List.mem_cons, List.not_mem_nil, or_false] at hd
  rcases hd with rfl | rfl | rfl
  · exact (low_int _).mono (by decide)
  · exact (low_int _).mono (by decide)
  · exact tg_low _
theorem pcs_sh (ps : List Pt) : SeqAt.shaped (.list (ps.map pcD)) = true := (low_lst (k := 3) fun d hd => by
  obtain ⟨i, _, rfl⟩ := List.mem_map.mp hd
  exact pc_low i).sh (by decide)
theorem eqvAll_map {α : Type} [DecidableEq α] {f : α → PyData} : ∀ {l m : List α}, (∀ x ∈ l, ∀ y ∈ m, PyData.eqv (f x) (f y) = decide (x = y)) → PyData.eqvAll (l.map f) (m.map f) = decide (l = m)
  | [], [], _ => rfl
  | [], _ :: _, _ => by show false = _; simp
  | _ :: _, [], _ => by show false = _; simp
  | x :: l, y :: m, h => by
    show (PyData.eqv (f x) (f y) && PyData.eqvAll (l.map f) (m.map f)) = _
    rw [eqvAll_map fun x hx y hy => h x (List.mem_cons_of_mem _ hx) y (List.mem_cons_of_mem _ hy), h x (by simp) y (by simp), Bool.eq_iff_iff]
    simp
theorem pc_eqv {p q : Pt} (h : p.2.2.s = q.2.2.s) : PyData.eqv (pcD p) (pcD q) = decide (p = q) := by
  obtain ⟨a, b, x⟩ := p
  obtain ⟨c, d, y⟩ := q
  show ((a == c) && ((b == d) && (PyData.eqv x.d y.d && true))) = _
  rw [tg_eqv h, Bool.eq_iff_iff]
  simp
/-- all things are of the sort s -/
def Srt (s : Nat) (ps : List Pt) : Prop := ∀ p ∈ ps, p.2.2.s = s
theorem pcs_eqv {s : Nat} {ps qs : List Pt} (hp : Srt s ps) (hq : Srt s qs) : PyData.eqv (.list (ps.map pcD)) (.list (qs.map pcD)) = decide (ps = qs) :=
  eqvAll_map (f := pcD) fun x hx y hy => pc_eqv ((hp x hx).trans (hq y hy).symm)
section
variable {K : PySem.W.Frag} {H H' : Hp} {v : V} {S c : Addr} {t : Tg}
/-- the stream is no part of a thing -/
theorem tg_hid (hS : Stm S c H) (h : Dp K H v t.d) : Dp K (hid S H) v t.d := by
  cases t with
  | w ns =>
    obtain ⟨p, rfl, h'⟩ := w_inv h
    exact w_mk (sqt_hid hS h')
  | e f ns =>
    obtain ⟨x, p, rfl, h1, h2⟩ := e_inv h
    exact e_mk (sqt_hid hS h1) (w_mk (sqt_hid hS h2))
  | b f => cases h; exact .bl f
  | i n => cases h; exact .int n
theorem w_hid {ns : List Int} (hS : Stm S c H) (h : Dp K H v (wD ns)) : Dp K (hid S H) v (wD ns) := tg_hid (t := .w ns) hS h
theorem e_hid {f : Bool} {ns : List Int} (hS : Stm S c H) (h : Dp K H v (eD f ns)) : Dp K (hid S H) v (eD f ns) := tg_hid (t := .e f ns) hS h
theorem hid_none {p : Addr} (h : H p = none) : hid S H p = none := by
  unfold hid
  split
  · rfl
  · exact h
theorem hid_new {p : Addr} {o : HO} (hS : Stm S c H) (h : H p = none) : hid S (upd H p o) = upd (hid S H) p o := by
  funext q
  have n := ext_ne hS h
  unfold hid upd
  by_cases e : q = p
  · subst e
    simp [n]
  · simp [e]
/-- a piece as a tuple -/
theorem pc_mk {q : Addr} {a b : Int} (h : SqT K H q [.int a, .int b, v]) (hv : Dp K H v t.d) : Dp K H (.ref q) (pcD (a, b, t)) := .tup h (.cons (.int a) (.cons (.int b) (.cons hv .nil)))
theorem pc_inv {p : Pt} (h : Dp K H v (pcD p)) : ∃ q u, v = .ref q ∧ SqT K H q [.int p.1, .int p.2.1, u] ∧ Dp K H u p.2.2.d := by
  obtain ⟨a, b, x⟩ := p
  cases h with
  | tup h1 h2 =>
    cases h2 with
    | cons c1 r =>
      cases r with
      | cons c2 r =>
        cases r with
        | cons c3 r =>
          cases r
          cases c1
          cases c2
          exact ⟨_, _, rfl, h1, c3⟩
theorem dpa_at {ds : List PyData} {vs : List V} {i : Nat} {d : PyData} (h : DpAll K H vs ds) (hd : ds[i]? = some d) : ∃ v, vs[i]? = some v ∧ Dp K H v d := by
  have hl := dpa_len h
  have hi : i < vs.length := by rw [hl]; exact (List.getElem?_eq_some_iff.mp hd).1
  obtain ⟨d', e, h'⟩ := dpa_get h (List.getElem?_eq_getElem hi)
  rw [hd] at e
  cases e
  exact ⟨_, List.getElem?_eq_getElem hi, h'⟩
theorem dpa_map {α : Type} {f : α → PyData} {l : List α} {vs : List V} {i : Nat} {x : α} (h : DpAll K H vs (l.map f)) (hx : l[i]? = some x) : ∃ v, vs[i]? = some v ∧ Dp K H v (f x) := dpa_at h (by rw [List.getElem?_map, hx] <;> rfl)
theorem dpa_mapV {α : Type} {f : α → PyData} {l : List α} {vs : List V} {i : Nat} {v : V} (h : DpAll K H vs (l.map f)) (hx : vs[i]? = some v) : ∃ x, l[i]? = some x ∧ Dp K H v (f x) := by
  obtain ⟨d, e, h'⟩ := dpa_get h hx
  rw [List.getElem?_map] at e
  cases q : l[i]? with
  | none => rw [q] at e; cases e
  | some x =>
    rw [q] at e
    cases e
    exact ⟨x, rfl, h'⟩
theorem dpa_lenM {α : Type} {f : α → PyData} {l : List α} {vs : List V} (h : DpAll K H vs (l.map f)) : vs.length = l.length := by rw [dpa_len h, List.length_map]
/-- the last entry replaced -/
theorem dpa_setL {ds : List PyData} {d : PyData} : ∀ {vs : List V}, DpAll K H vs ds → Dp K H v d → vs ≠ [] → DpAll K H (vs.dropLast ++ [v]) (ds.dropLast ++ [d]) := by
  induction ds with
  | nil => intro vs h _ n; cases h; exact absurd rfl n
  | cons d0 r ih =>
    intro vs h hv n
    cases h with
    | cons h1 h2 =>
      rename_i v0 vs'
      cases r with
      | nil =>
        cases h2
        exact .cons hv .nil
      | cons d1 r1 =>
        cases vs' with
        | nil => cases h2
        | cons v1 vs1 => exact .cons h1 (ih h2 hv (by simp))
end
/-- the field at F: its neutral thing, its pieces in one form -/
structure FdW (K : PySem.W.Frag) (C : Addr) (H : Hp) (F : Addr) (n : Tg) (ps : List Pt) (dx : Addr) (nv : V) (L : Addr) (vs : List V) : Prop where
  at_ : H F = some (.ins C dx [("_neutral", nv), ("_pieces", .ref L)])
  neu : Dp K H nv n.d
  lst : H L = some (.lst vs)
  dat : DpAll K H vs (ps.map pcD)
def Fd (K : PySem.W.Frag) (C : Addr) (H : Hp) (F : Addr) (n : Tg) (ps : List Pt) : Prop := ∃ dx nv L vs, FdW K C H F n ps dx nv L vs
theorem FdW.same {K : PySem.W.Frag} {C : Addr} {H H' : Hp} {F : Addr} {n : Tg} {ps : List Pt} {dx : Addr} {nv : V} {L : Addr} {vs : List V} (h : FdW K C H F n ps dx nv L vs) (e : Same H H') : FdW K C H' F n ps dx nv L vs := ⟨e _ _ h.at_, dp_same e h.neu, e _ _ h.lst, dpa_same e h.dat⟩
theorem Fd.same {K : PySem.W.Frag} {C : Addr} {H H' : Hp} {F : Addr} {n : Tg} {ps : List Pt} (h : Fd K C H F n ps) (e : Same H H') : Fd K C H' F n ps := by
  obtain ⟨dx, nv, L, vs, h⟩ := h
  exact ⟨dx, nv, L, vs, h.same e⟩
theorem Fd.ext {K : PySem.W.Frag} {C S : Addr} {H H' : Hp} {F : Addr} {n : Tg} {ps : List Pt} (h : Fd K C (hid S H) F n ps) (e : Ext S H H') : Fd K C (hid S H') F n ps := h.same (hid_ext e)
theorem lk_neu {x y : V} : List.lookup "_neutral" [("_neutral", x), ("_pieces", y)] = some x := by rfl
theorem lk_pcs {x y : V} : List.lookup "_pieces" [("_neutral", x), ("_pieces", y)] = some y := by rfl
/-- a list of things that is not the stream -/
def RowT (K : PySem.W.Frag) (H : Hp) (R : Addr) (r : List Tg) : Prop := ∃ vs, H R = some (.lst vs) ∧ DpAll K H vs (r.map Tg.d)
theorem RowT.same {K : PySem.W.Frag} {H H' : Hp} {R : Addr} {r : List Tg} (h : RowT K H R r) (e : Same H H') : RowT K H' R r := by
  obtain ⟨vs, h1, h2⟩ := h
  exact ⟨vs, e _ _ h1, dpa_same e h2⟩
theorem dpa_snoc_inv {K : PySem.W.Frag} {H : Hp} {d : PyData} : ∀ {ds : List PyData} {vs : List V}, DpAll K H vs (ds ++ [d]) → ∃ ws w, vs = ws ++ [w] ∧ DpAll K H ws ds ∧ Dp K H w d
  | [], _, h => by
    cases h with
    | cons h1 h2 => cases h2; exact ⟨[], _, rfl, .nil, h1⟩
  | d0 :: r, _, h => by
    cases h with
    | cons h1 h2 =>
      obtain ⟨ws, w, rfl, h3, h4⟩ := dpa_snoc_inv h2
      exact ⟨_ :: ws, w, rfl, .cons h1 h3, h4⟩
def isStr2 : PyData → Bool
  | .tuple [.int a, .int b] => decide (0 ≤ a) && (decide (a < b) && decide (b ≤ 1000000))
  | _ => false
/-- which place of a row is no piece, or comes too early -/
def okPc (e : Int) : PyData → Option Int
  | .tuple [.int a, .int b, _] => if decide (0 ≤ a) && (decide (a < b) && decide (b ≤ 1000000)) && decide (e ≤ a) then some b else none
  | _ => none
def badPc : Int → List PyData → Nat → Option Nat
  | _, [], _ => none
  | e, d :: r, i => match okPc e d with
    | some b => badPc b r (i + 1)
    | none => some i
theorem badPc_pcs {n : Nat} : ∀ {ps : List Pt} {e : Int} {i : Nat}, 0 ≤ e → Fm.Asc e ps → (∀ p ∈ ps, p.2.1 ≤ 1000000) → badPc e (ps.map pcD) i = none
  | [], _, _, _, _, _ => rfl
  | p :: r, e, i, h0, h, hm => by
    obtain ⟨h1, h2, h3⟩ := h
    have := hm p (by simp)
    show (match okPc e (pcD p) with | some b => badPc b (r.map pcD) (i + 1) | none => some i) = none
    have z : okPc e (pcD p) = some p.2.1 := by
      show (if decide (0 ≤ p.1) && (decide (p.1 < p.2.1) && decide (p.2.1 ≤ 1000000)) && decide (e ≤ p.1) then some p.2.1 else none) = _
      rw [if_pos (by simp; omega)]
    rw [z]
    exact badPc_pcs (n := n) (by omega) h3 (fun q hq => hm q (List.mem_cons_of_mem _ hq))
theorem tg_mut {K : PySem.W.Frag} {H : Hp} {L : Addr} {xs zs : List V} {v : V} {t : Tg} (hL : H L = some (.lst xs)) (h : Dp K H v t.d) : Dp K (upd H L (.lst zs)) v t.d := by
  cases t with
  | w ns => exact w_mut hL h
  | e f ns => exact ef_mut hL h
  | b f => cases h; exact .bl f
  | i n => cases h; exact .int n
theorem pc_mut {K : PySem.W.Frag} {H : Hp} {L : Addr} {xs zs : List V} {v : V} {p : Pt} (hL : H L = some (.lst xs)) (h : Dp K H v (pcD p)) : Dp K (upd H L (.lst zs)) v (pcD p) := by
  obtain ⟨q, u, rfl, h1, h2⟩ := pc_inv h
  exact pc_mk (sqt_mut hL h1) (tg_mut hL h2)
theorem dpa_mut {K : PySem.W.Frag} {H : Hp} {L : Addr} {xs zs : List V} {α : Type} {f : α → PyData} (hL : H L = some (.lst xs)) (hm : ∀ {v : V} {x : α}, Dp K H v (f x) → Dp K (upd H L (.lst zs)) v (f x)) : ∀ {l : List α} {vs : List V}, DpAll K H vs (l.map f) → DpAll K (upd H L (.lst zs)) vs (l.map f)
  | [], _, h => by cases h; exact .nil
  | x :: r, _, h => by
    cases h with
    | cons h1 h2 => exact .cons (hm h1) (dpa_mut hL hm h2)
theorem pcs_mut {K : PySem.W.Frag} {H : Hp} {L : Addr} {xs zs vs : List V} {l : List Pt} (hL : H L = some (.lst xs)) (h : DpAll K H vs (l.map pcD)) : DpAll K (upd H L (.lst zs)) vs (l.map pcD) := dpa_mut hL (pc_mut hL) h
theorem form_srt {n : Tg} {s : Nat} {ps : List Pt} (h : Srt s ps) : Srt s (Fm.form n ps) := Fm.form_all (R := fun t : Tg => t.s = s) h
theorem ixN_nat {n j : Nat} (h : j < n) : ixN n (j : Int) = some j := by
  unfold ixN
  simp
  omega

theorem ixN_last {α : Type} (xs : List α) (v : α) : ixN (xs ++ [v]).length (-1) = some xs.length := by
  have hl : (xs ++ [v]).length = xs.length + 1 := by simp
  unfold ixN
  rw [hl, if_neg (by omega), if_pos (by omega)]
  congr 1
  omega
theorem set_last {α : Type} (xs : List α) (v w : α) : (xs ++ [v]).set xs.length w = xs ++ [w] := by
  simp [List.set_append]
/-- a walk over two lists side by side, of any lengths -/
theorem for_zipU {K : PySem.W.Frag} {a b : Addr} {xs ys : List V} {g : TG} {tb : TS} {D : Ends} {σ : L2.St} {H : Hp} (Pv : Nat → L2.St → Hp → Prop) (h0 : Pv 0 σ H) (hq : ∀ i σ H, Pv i σ H → SqL K H a xs ∧ SqL K H b ys)
    (hs : ∀ (i : Nat) (x y : V) (T : Addr) (σ : L2.St) (H : Hp), xs[i]? = some x → ys[i]? = some y → Pv i σ H → H T = none → g (.ref T) σ (upd H T (.tup [x, y])) fun σ2 H2 => tb { D with nx := Pv (i + 1), ct := Pv (i + 1), bk := D.nx } σ2 H2) (hd : ∀ i σ H, (xs.length ≤ i ∨ ys.length ≤ i) → i ≤ xs.length → i ≤ ys.length → Pv i σ H → D.nx σ H) :
    ∃ W : Nat → Nat → L2.St → Hp → Prop, (∃ m, W 0 m σ H) ∧ ∀ i m σ H, W i m σ H →
      ((Itz K a b).stop i H ∧ D.nx σ H) ∨ ((Itz K a b).go i H ∧ ∃ N : L2.St → Hp → Prop, (∀ σ' H', N σ' H' → ∃ m', m' < m ∧ W (i + 1) m' σ' H') ∧ ∀ v H', (Itz K a b).yld i H v H' → g v σ H' fun σ2 H2 => tb { D with nx := N, ct := N, bk := D.nx } σ2 H2) := by
  refine ⟨fun i m σ H => m = xs.length - i ∧ i ≤ xs.length ∧ i ≤ ys.length ∧ Pv i σ H, ⟨xs.length, rfl, Nat.zero_le _, Nat.zero_le _, h0⟩, ?_⟩
  rintro i m σ H ⟨rfl, hi, hi2, p⟩
  obtain ⟨qx, qy⟩ := hq i σ H p
  by_cases hlt : i < xs.length ∧ i < ys.length
  · have hx : xs[i]? = some xs[i] := List.getElem?_eq_getElem hlt.1
    have hy : ys[i]? = some ys[i] := List.getElem?_eq_getElem hlt.2
    refine .inr ⟨⟨xs, ys, _, _, qx, qy, hx, hy⟩, Pv (i + 1), fun σ' H' p' => ⟨xs.length - (i + 1), by omega, rfl, hlt.1, hlt.2, p'⟩, fun v H' y => ?_⟩
    obtain ⟨T, x', y', rfl, hT, rfl, f1, f2⟩ := y
    exact hs i x' y' T σ H (f1 xs qx) (f2 ys qy) p hT
  · have e : xs.length ≤ i ∨ ys.length ≤ i := by omega
    exact .inl ⟨⟨xs, ys, qx, qy, e⟩, hd i σ H e hi hi2 p⟩
theorem okPc_str {e : Int} {d1 d2 d3 : PyData} (h : isStr2 (.tuple [d1, d2]) = false) : okPc e (.tuple [d1, d2, d3]) = none := by
  unfold okPc
  split
  · rename_i a b c q
    cases q
    have h : (decide (0 ≤ a) && (decide (a < b) && decide (b ≤ 1000000))) = false := h
    rw [h, Bool.false_and, if_neg (by simp)]
  · rfl
section
variable {K : PySem.W.Frag} {H : Hp} {x C dx : Addr} {fs gs : List (Str × V)} {v : V}
theorem sqt_ins {t : Addr} {ys : List V} (hx : H x = some (.ins C dx fs)) (h : SqT K H t ys) : SqT K (upd H x (.ins C dx gs)) t ys := by
  have ne : ∀ o, H t = some o → (∀ a b l, o ≠ .ins a b l) → t ≠ x := fun o e n z => by
    rw [z, hx] at e
    exact n _ _ _ (Option.some.inj e).symm
  rcases h with (h | ⟨o, h⟩) | h
  · exact .inl (.inl (by rw [upd_ne (ne _ h fun a b l z => HO.noConfusion z)]; exact h))
  · exact .inl (.inr ⟨o, by rw [upd_ne (ne _ h fun a b l z => HO.noConfusion z)]; exact h⟩)
  · exact .inr h
theorem sql_ins {t : Addr} {ys : List V} (hx : H x = some (.ins C dx fs)) (h : SqL K H t ys) : SqL K (upd H x (.ins C dx gs)) t ys := by
  have ne : ∀ o, H t = some o → (∀ a b l, o ≠ .ins a b l) → t ≠ x := fun o e n z => by
    rw [z, hx] at e
    exact n _ _ _ (Option.some.inj e).symm
  rcases h with (h | ⟨o, h⟩) | h
  · exact .inl (.inl (by rw [upd_ne (ne _ h fun a b l z => HO.noConfusion z)]; exact h))
  · exact .inl (.inr ⟨o, by rw [upd_ne (ne _ h fun a b l z => HO.noConfusion z)]; exact h⟩)
  · exact .inr h
theorem sq_ins {t : Addr} {ys : List V} (hx : H x = some (.ins C dx fs)) (h : Sq K H t ys) : Sq K (upd H x (.ins C dx gs)) t ys := h.imp (sql_ins hx) (sqt_ins hx)
mutual
theorem dp_ins (hx : H x = some (.ins C dx fs)) : ∀ {d : PyData} {v : V}, Dp K H v d → Dp K (upd H x (.ins C dx gs)) v d
  | .none, _, h => by cases h; exact .non
  | .bool b, _, h => by cases h; exact .bl b
  | .int i, _, h => by cases h; exact .int i
  | .str x, _, h => by cases h; exact .str x
  | .list ds, _, h => by cases h with | lst h1 h2 => exact .lst (sql_ins hx h1) (dpa_ins hx h2)
  | .tuple ds, _, h => by cases h with | tup h1 h2 => exact .tup (sqt_ins hx h1) (dpa_ins hx h2)
  | .dict _, _, h => by cases h
theorem dpa_ins (hx : H x = some (.ins C dx fs)) : ∀ {ds : List PyData} {vs : List V}, DpAll K H vs ds → DpAll K (upd H x (.ins C dx gs)) vs ds
  | [], _, h => by cases h; exact .nil
  | _ :: _, _, h => by cases h with | cons h1 h2 => exact .cons (dp_ins hx h1) (dpa_ins hx h2)
end
theorem tg_ins {t : Tg} (hx : H x = some (.ins C dx fs)) (h : Dp K H v t.d) : Dp K (upd H x (.ins C dx gs)) v t.d := dp_ins hx h
theorem pcs_ins {vs : List V} {l : List Pt} (hx : H x = some (.ins C dx fs)) (h : DpAll K H vs (l.map pcD)) : DpAll K (upd H x (.ins C dx gs)) vs (l.map pcD) := dpa_ins hx h
end
theorem imn {a c : Int} : (if c < a then c else a) = min a c := by omega
def Tg.small : Tg → Prop
  | .w ns => ns.length ≤ 8 | .e _ ns => ns.length ≤ 8 | _ => True
/-- the neutral thing of a sort -/
def nonT : Nat → Int → Tg
  | 0, _ => .w [] | 1, _ => .e false [] | 2, _ => .b false | _, x => .i x
theorem hid_upd {S R : Addr} {H : Hp} {o : HO} (n : R ≠ S) : hid S (upd H R o) = upd (hid S H) R o := by
  funext q
  unfold hid upd
  by_cases e : q = R
  · subst e
    simp [n]
  · simp [e]
/-- good things of a sort -/
def GoodR (s : Nat) (r : List Tg) : Prop := ∀ t ∈ r, t.s = s ∧ t.small
/-- a list of things at R, of which the stream is no part -/
structure RowS (K : PySem.W.Frag) (S : Addr) (H : Hp) (R : Addr) (r : List Tg) (vs : List V) : Prop where
  ne : R ≠ S
  at_ : H R = some (.lst vs)
  dat : DpAll K (hid S H) vs (r.map Tg.d)
section
variable {K : PySem.W.Frag} {S c R : Addr} {H H' : Hp} {r : List Tg} {vs : List V} {v : V} {t : Tg}
theorem RowS.ext (h : RowS K S H R r vs) (e : Ext S H H') : RowS K S H' R r vs := ⟨h.ne, e _ _ h.ne h.at_, dpa_same (hid_ext e) h.dat⟩
theorem RowS.len (h : RowS K S H R r vs) : vs.length = r.length := dpa_lenM h.dat
theorem RowS.nil (hS : Stm S c H) (n : H R = none) : RowS K S (upd H R (.lst [])) R [] [] := ⟨ext_ne hS n, upd_same, .nil⟩
theorem RowS.snoc (h : RowS K S H R r vs) (ht : Dp K (hid S H) v t.d) : RowS K S (upd H R (.lst (vs ++ [v]))) R (r ++ [t]) (vs ++ [v]) := by
  have h1 : hid S H R = some (.lst vs) := by rw [hid_at h.ne]; exact h.at_
  refine ⟨h.ne, upd_same, ?_⟩
  rw [hid_upd h.ne, List.map_append]
  exact dpa_snoc (dpa_mut h1 (tg_mut h1) h.dat) (tg_mut h1 ht)
theorem RowS.get (h : RowS K S H R r vs) {i : Nat} (hi : r[i]? = some t) : ∃ v, vs[i]? = some v ∧ Dp K (hid S H) v t.d := dpa_map h.dat hi
theorem RowS.dp (h : RowS K S H R r vs) {i : Nat} (hi : r[i]? = some t) (hv : vs[i]? = some v) : Dp K (hid S H) v t.d := by
  obtain ⟨w, hw, hd⟩ := h.get hi
  rw [hv] at hw
  cases hw
  exact hd
theorem RowS.sq (h : RowS K S H R r vs) : SqL K H R vs := SqL.of h.at_
theorem tg_ext (h : Dp K (hid S H) v t.d) (e : Ext S H H') : Dp K (hid S H') v t.d := dp_same (hid_ext e) h
theorem tg_le (h : Dp K (hid S H) v t.d) : Dp K H v t.d := dp_same hid_le h
end
theorem good_snoc {s : Nat} {r : List Tg} {t : Tg} (h : GoodR s r) (ht : t.s = s ∧ t.small) : GoodR s (r ++ [t]) := fun x hx => by
  rcases List.mem_append.mp hx with hx | hx
  · exact h x hx
  · rw [List.mem_singleton.mp hx]
    exact ht
/-- a list of pieces at P, of which the stream is no part -/
structure PcsS (K : PySem.W.Frag) (S : Addr) (H : Hp) (P : Addr) (ps : List Pt) (vs : List V) : Prop where
  ne : P ≠ S
  at_ : H P = some (.lst vs)
  dat : DpAll K (hid S H) vs (ps.map pcD)
section
variable {K : PySem.W.Frag} {S c P : Addr} {H H' : Hp} {ps : List Pt} {vs : List V} {v : V} {p : Pt} {t : Tg} {a b : Int}
theorem PcsS.ext (h : PcsS K S H P ps vs) (e : Ext S H H') : PcsS K S H' P ps vs := ⟨h.ne, e _ _ h.ne h.at_, dpa_same (hid_ext e) h.dat⟩
theorem PcsS.len (h : PcsS K S H P ps vs) : vs.length = ps.length := dpa_lenM h.dat
theorem PcsS.nil (hS : Stm S c H) (n : H P = none) : PcsS K S (upd H P (.lst [])) P [] [] := ⟨ext_ne hS n, upd_same, .nil⟩
theorem PcsS.snoc (h : PcsS K S H P ps vs) (ht : Dp K (hid S H) v (pcD p)) : PcsS K S (upd H P (.lst (vs ++ [v]))) P (ps ++ [p]) (vs ++ [v]) := by
  have h1 : hid S H P = some (.lst vs) := by rw [hid_at h.ne]; exact h.at_
  refine ⟨h.ne, upd_same, ?_⟩
  rw [hid_upd h.ne, List.map_append]
  exact dpa_snoc (dpa_mut h1 (pc_mut h1) h.dat) (pc_mut h1 ht)
theorem PcsS.sq (h : PcsS K S H P ps vs) : SqL K H P vs := SqL.of h.at_
theorem PcsS.le (h : PcsS K S H P ps vs) : DpAll K H vs (ps.map pcD) := dpa_same hid_le h.dat
theorem pc_new {q : Addr} (hS : Stm S c H) (n : H q = none) (hv : Dp K (hid S H) v t.d) : Dp K (hid S (upd H q (.tup [.int a, .int b, v]))) (.ref q) (pcD (a, b, t)) := by
  rw [hid_new hS n]
  exact pc_mk (.inl (.inl upd_same)) (dp_same (same_new (hid_none n)) hv)
end
theorem srt_snoc {s : Nat} {ps : List Pt} {p : Pt} (h : Srt s ps) (hp : p.2.2.s = s) : Srt s (ps ++ [p]) := fun x hx => by
  rcases List.mem_append.mp hx with hx | hx
  · exact h x hx
  · rw [List.mem_singleton.mp hx]
    exact hp
theorem pc_hid {K : PySem.W.Frag} {S c : Addr} {H : Hp} {v : V} {p : Pt} (hS : Stm S c H) (h : Dp K H v (pcD p)) : Dp K (hid S H) v (pcD p) := by
  obtain ⟨q, u, rfl, h1, h2⟩ := pc_inv h
  exact pc_mk (sqt_hid hS h1) (tg_hid hS h2)
theorem dpa_mono {K : PySem.W.Frag} {H H' : Hp} {α : Type} {f : α → PyData} (hm : ∀ {v : V} {x : α}, Dp K H v (f x) → Dp K H' v (f x)) : ∀ {l : List α} {vs : List V}, DpAll K H vs (l.map f) → DpAll K H' vs (l.map f)
  | [], _, h => by cases h; exact .nil
  | x :: r, _, h => by
    cases h with
    | cons h1 h2 => exact .cons (hm h1) (dpa_mono hm h2)
theorem pcs_ne {K : PySem.W.Frag} {S c L : Addr} {H H2 : Hp} {ps : List Pt} {ws : List V} (hS : Stm S c H) (hL : H L = some (.lst ws)) (hd : DpAll K H2 ws (ps.map pcD)) : L ≠ S := fun e => by
  obtain ⟨ns, q, v, h1, _⟩ := hS
  rw [e, h1] at hL
  have e2 := HO.lst.inj (Option.some.inj hL)
  subst e2
  cases ps with
  | nil => cases hd
  | cons p r =>
    cases hd with
    | cons _ h =>
      cases r with
      | nil => cases h
      | cons p2 r2 =>
        cases h with
        | cons h _ =>
          have h : Dp K H2 (.int q) (.tuple [.int p2.1, .int p2.2.1, p2.2.2.d]) := h
          cases h
theorem FdW.hid {K : PySem.W.Frag} {C S c : Addr} {H : Hp} {F : Addr} {n : Tg} {ps : List Pt} {dx : Addr} {nv : V} {L : Addr} {vs : List V} (hS : Stm S c H) (h : FdW K C H F n ps dx nv L vs) : FdW K C (hid S H) F n ps dx nv L vs := by
  have nF : F ≠ S := fun e => by
    obtain ⟨ns, q, v, h1, _⟩ := hS
    have := h.at_
    rw [e, h1] at this
    cases this
  exact ⟨by rw [hid_at nF]; exact h.at_, tg_hid hS h.neu, by rw [hid_at (pcs_ne hS h.lst h.dat)]; exact h.lst, dpa_mono (pc_hid hS) h.dat⟩
theorem first_diff : ∀ {r q : List Tg}, r.length = q.length → r ≠ q → ∃ (k : Nat) (d e : Tg), r[k]? = some d ∧ q[k]? = some e ∧ d ≠ e ∧ ∀ j, j < k → r[j]? = q[j]?
  | [], [], _, h => absurd rfl h
  | [], _ :: _, h, _ => by cases h
  | _ :: _, [], h, _ => by cases h
  | a :: r, b :: q, hl, h => by
    by_cases e : a = b
    · subst e
      obtain ⟨k, d, e, h1, h2, h3, h4⟩ := first_diff (r := r) (q := q) (by simpa using hl) (fun z => h (by rw [z]))
      refine ⟨k + 1, d, e, h1, h2, h3, fun j hj => ?_⟩
      cases j with
      | zero => rfl
      | succ j => exact h4 j (by omega)
    · exact ⟨0, a, b, rfl, rfl, e, fun j hj => absurd hj (Nat.not_lt_zero _)⟩
/-- what an own == finds unequal to a field: a field with another neutral thing, or no field -/
def OddF (K : PySem.W.Frag) (C : Addr) (H : Hp) (n : Tg) (v : V) : Prop := (∃ G m qs, v = .ref G ∧ Fd K C H G m qs ∧ PyData.eqv n.d m.d = false) ∨ ∃ d, Dp K H v d ∧ Hm.noD d = true
theorem OddF.same {K : PySem.W.Frag} {C : Addr} {H H' : Hp} {n : Tg} {v : V} (h : OddF K C H n v) (e : Same H H') : OddF K C H' n v := by
  rcases h with ⟨G, m, qs, h1, h2, h3⟩ | ⟨d, h1, h2⟩
  · exact .inl ⟨G, m, qs, h1, h2.same e, h3⟩
  · exact .inr ⟨d, dp_same e h1, h2⟩
theorem OddF.ty {K : PySem.W.Frag} {C : Addr} {H : Hp} {n : Tg} {v : V} (o : Hm.OwnT K C) (h : OddF K C H n v) : ∃ t, TyX K H v t ∧ PySem.W.notFirst K C t = true := by
  rcases h with ⟨G, m, qs, rfl, ⟨dx, nv, L, vs, h2⟩, h3⟩ | ⟨d, h1, h2⟩
  · exact ⟨_, o.ins.ty h2.at_, Hm.OwnT.nfC⟩
  · exact ⟨_, ty_of h1, o.nf _ (Hm.tname_mem h2)⟩
/-- what == of a field and a value says -/
def EqB (K : PySem.W.Frag) (C : Addr) (H : Hp) (n : Tg) (ps : List Pt) (y : V) (b : Bool) : Prop := (∃ (G : Addr) (m : Tg) (qs : List Pt), y = .ref G ∧ Fd K C H G m qs ∧ b = (PyData.eqv n.d m.d && PyData.eqv (.list (ps.map pcD)) (.list (qs.map pcD)))) ∨ ∃ d, Dp K H y d ∧ Hm.noD d = true ∧ b = false
theorem OddF.no {K : PySem.W.Frag} {C : Addr} {H : Hp} {n : Tg} {ps : List Pt} {v : V} (h : OddF K C H n v) : EqB K C H n ps v false := by
  rcases h with ⟨G, m, qs, h1, h2, h3⟩ | ⟨d, h1, h2⟩
  · exact .inl ⟨G, m, qs, h1, h2, by rw [h3, Bool.false_and]⟩
  · exact .inr ⟨d, h1, h2, rfl⟩
theorem ext_init {x dx C : Addr} {H H' : Hp} {o : HO} (nx : H x = none) (nd : H dx = none) (h : Ext x (upd (upd H dx o) x (.ins C dx [])) H') : Same H H' := fun b u hb => by
  have n1 : b ≠ x := ne_of_none hb nx
  have n2 : b ≠ dx := ne_of_none hb nd
  exact h b u n1 (by rw [upd_ne n1, upd_ne n2]; exact hb)
theorem same_init {x dx C : Addr} {H : Hp} {o : HO} (nx : H x = none) (nd : H dx = none) : Same H (upd (upd H dx o) x (.ins C dx [])) := fun b u hb => by
  have n1 : b ≠ x := ne_of_none hb nx
  have n2 : b ≠ dx := ne_of_none hb nd
  rw [upd_ne n1, upd_ne n2]
  exact hb
theorem nonT_s : ∀ {s : Nat} {x : Int}, s < 4 → (nonT s x).s = s ∧ (nonT s x).small
  | 0, _, _ => ⟨rfl, Nat.zero_le _⟩
  | 1, _, _ => ⟨rfl, Nat.zero_le _⟩
  | 2, _, _ => ⟨rfl, trivial⟩
  | 3, _, _ => ⟨rfl, trivial⟩
  | n + 4, _, h => absurd h (by omega)
end Kx

set_option Elab.async false
set_option linter.all false
set_option maxRecDepth 100000
set_option maxHeartbeats 4000000
/-! own specials: len, in, truth by __len__, list by __iter__; makes and methods in a try -/
namespace Mn
open PySem PySem.Spec PyProof.Rows L2 Lk
section
variable {X : Cx} {CX : CXT} {k : Nat} {C f : Addr} {fd : FuncData} {ps : List Str} {sp : Sp} {E : XK} {ds : List Value} {dvs : List V} {A1 : Around}
/-- a call of a def of ours inside a built-in (at A1) -/
theorem run_at {pins : List (Addr × Obj)} {σ : L2.St} {H : Hp} {s : Shared} {Q : VK} {us : List Value} {vs : List V} (F : FnOk X.prog X.w X.K X.mg X.base CX k f fd ps sp) (hr : Room k A1) (hf : A1.frames = X.A.frames) (hb : Binds X.K fd ps []) (hx : PassesAt CX X σ E)
    (I : Inv X pins σ H s) (r : Vals vs us) (h : sp vs H Q E) : wpAny (model X.prog X.w) A1 (call (.ref f) us) (EP X pins σ Q) X.xe s := by
  have hl : us.length = ps.length := by rw [← r.length]; exact F.len _ _ _ _ h
  have b := hb s us I.kIn (by rw [List.append_nil]; exact hl)
  rw [List.append_nil] at b
  have e0 : Env0 X.prog X.w X.K X.mg X.base A1 X.stack s H := by
    have e := I.env0
    exact ⟨by rw [hf]; exact e.frames, e.mod, e.bs, e.bsz, e.funs, e.frf, e.hok, e.bare⟩
  refine wpAny_call (codeAny_mono (F.run A1 X.stack s H ⟨us, []⟩ us vs Q E hr e0 b r h) fun r s' hq => ?_)
  cases r with
  | error e => exact hx pins H s e s' I hq
  | ok fl =>
    cases fl with
    | ret u => exact I.after hq
    | next => exact False.elim hq
    | brk => exact False.elim hq
    | cont => exact False.elim hq
theorem at_of {E : XK} (h : Passes CX X E) (σ : L2.St) : PassesAt CX X σ E := fun pins H s e s' I c => h pins σ H s e s' I c
/-! ### len(o) -/
def rLenO (C : Addr) (sp : Sp) (E : XK) : List V → Hp → VK → Prop := fun xs H Q => ∃ a dx fs, xs = [.ref a] ∧ H a = some (.ins C dx fs) ∧ sp [.ref a] H (fun v H' => ∃ n : Int, v = .int n ∧ 0 ≤ n ∧ n < 2 ^ 63 ∧ Q (.int n) H') E
theorem call_lenO (M : Meth X.K C "__len__" f) (F : FnOk X.prog X.w X.K X.mg X.base CX k f fd ps sp) (hr : Room (k + 1) X.A) (hb : Binds X.K fd ps []) (hx : Passes CX X E) : CallR X (.builtin "len") (rLenO C sp E) := by
  intro pins s σ H xs us Q I rv h
  obtain ⟨a, dx, fs, rfl, ha, h⟩ := h
  obtain ⟨u, rfl, ru⟩ := vals1 rv
  cases ru
  obtain ⟨mA, J, _⟩ := ins_get I.hok ha
  obtain ⟨od, J, _⟩ := J.look
  obtain ⟨m, hF⟩ := I.fr
  have sb : Sub X k X.A.in1 := Sub.in1 ⟨hr, rfl⟩
  refine PySem.W.len_K hF I.ok.mod.kin J M.at_ M.fn (wpAny_mono (run_at (vs := [.ref a]) F sb.room sb.fr hb (at_of hx σ) I (.cons rfl .nil) h) (fun v s' hv => ?_) fun _ _ z => z)
  obtain ⟨w, H', I', rw_, n, rfl, n0, n1, q⟩ := hv
  obtain ⟨t, rfl⟩ := rw_
  exact ⟨⟨n0, n1⟩, .int n, H', I'.tok _, ⟨_, rfl⟩, q⟩
/-! ### truth of o by its __len__ -/
def rTruO (C : Addr) (sp : Sp) (E : XK) : V → Hp → (Bool → Hp → Prop) → Prop := fun x H Q => ∃ a dx fs, x = .ref a ∧ H a = some (.ins C dx fs) ∧ sp [.ref a] H (fun v H' => ∃ n : Int, v = .int n ∧ 0 ≤ n ∧ n < 2 ^ 63 ∧ Q (n != 0) H') E
theorem len_bodyO {prog : Program} {w : World} {A : Around} {E : Value → Shared → Prop} {s : Shared} {K : PySem.W.Frag} {x C f : Addr} {ox : Obj} {od : Option Obj} {Q : Value → Shared → Prop}
    (Xk : K.In s.heap) (I : PySem.W.InstAt s.heap x ox C od) (hs : PySem.W.findIn K (.ref C) "__len__" = some (some (.ref f))) (hf : PySem.W.isFn K (.ref f) = true)
    (h : wpAny (model prog w) A (call (.ref f) [.ref x]) (PySem.W.LenBack Q) E s) : wpAny (model prog w) A (Builtin.«len» ⟨[.ref x], []⟩) (fun fin s' => ∃ r, fin = .done (.ret r) ∧ Q r s') E s := by
  unfold Builtin.«len»
  refine wpAny_bind (m := oneArg "len" _) (wpAny_pure ?_)
  refine wpAny_bind (m := callSpecial? (.ref x) (Str.ofString "__len__")) (PySem.W.special_fn Xk I hs (beq_iff_eq.mp hf) (wpAny_mono h (fun r s' hr => ?_) fun _ _ y => y))
  cases r <;> first | exact hr.elim | skip
  rename_i n u
  obtain ⟨⟨h0, h1⟩, hq⟩ := hr
  refine wpAny_bind (wpAny_holding (wpAny_pure ?_))
  refine wpAny_bind (wpAny_letGo ?_)
  show wpAny _ _ (if n < 0 then _ else _) _ _ _
  rw [if_neg (by omega)]
  show wpAny _ _ (if n ≥ 2 ^ 63 then _ else _) _ _ _
  rw [if_neg (by omega)]
  exact wpAny_bind (wpAny_mkInt (wpAny_pure ⟨_, rfl, hq⟩))
theorem tru_lenO (M : Meth X.K C "__len__" f) (nb : PySem.W.findIn X.K (.ref C) "__bool__" = some none) (F : FnOk X.prog X.w X.K X.mg X.base CX k f fd ps sp) (hr : Room (k + 1) X.A) (hb : Binds X.K fd ps []) (hx : Passes CX X E) : TruR X (rTruO C sp E) := by
  intro pins s σ H x v Q I rx h
  obtain ⟨a, dx, fs, rfl, ha, h⟩ := h
  cases rx
  obtain ⟨mA, J, _⟩ := ins_get I.hok ha
  obtain ⟨od, J, _⟩ := J.look
  obtain ⟨m, hF⟩ := I.fr
  have sb : Sub X k X.A.in1 := Sub.in1 ⟨hr, rfl⟩
  have key : wpAny (model X.prog X.w) X.A (runValue (.builtin "len" ⟨[.ref a], []⟩)) (fun r s' => ∃ n t, r = .int n t ∧ TP X pins σ Q (n != 0) s') X.xe s := by
    refine wpAny_runValue (codeAny_builtin entry_len ?_)
    rw [Around.under_plainId plain_len _]
    refine wpAny_mono (len_bodyO (Q := fun r s' => ∃ n t, r = .int n t ∧ TP X pins σ Q (n != 0) s') I.kIn J M.at_ M.fn (wpAny_mono (run_at (vs := [.ref a]) F sb.room sb.fr hb (at_of hx σ) I (.cons rfl .nil) h) (fun v s' hv => ?_) fun _ _ z => z)) (fun fin s' h' => by obtain ⟨r, rfl, hq⟩ := h'; exact hq) fun _ _ e => e
    obtain ⟨w, H', I', rw_, n, rfl, n0, n1, q⟩ := hv
    obtain ⟨t, rfl⟩ := rw_
    exact ⟨⟨n0, n1⟩, n, _, rfl, H', I'.tok _, q⟩
  have XI := I.kIn
  unfold truthy
  refine wpAny_bind (m := callSpecial? (.ref a) (Str.ofString "__bool__")) (wpAny_bind (wpAny_bind (J.type.here ((PySem.W.looks_findIn XI nb).here (wpAny_pure ?_)))))
  refine wpAny_bind (wpAny_bind (J.type.here ((PySem.W.looks_findIn XI M.at_).here ?_)))
  exact wpAny_bind (wpAny_mono key (fun r s' h' => by obtain ⟨n, t, rfl, hq⟩ := h'; exact wpAny_pure hq) fun _ _ e => e)
/-! ### x in o -/
def rInO (C : Addr) (sp : Sp) (E : XK) : R2 := fun x y H Q => ∃ a dx fs, y = .ref a ∧ H a = some (.ins C dx fs) ∧ sp [.ref a, x] H (fun v H' => ∃ b : Bool, v = .bl b ∧ Q (.bl b) H') E
theorem op_inO (M : Meth X.K C "__contains__" f) (F : FnOk X.prog X.w X.K X.mg X.base CX k f fd ps sp) (hr : Room k X.A) (hb : Binds X.K fd ps []) (hx : ∀ σ, PassesAt CX X σ E) : OpR X (compareOp .In) (rInO C sp E) := by
  intro pins s σ H x y v u Q I rx ry h
  obtain ⟨a, dx, fs, rfl, ha, h⟩ := h
  cases ry
  obtain ⟨mA, J, _⟩ := ins_get I.hok ha
  obtain ⟨od, J, _⟩ := J.look
  obtain ⟨m, hF⟩ := I.fr
  refine PySem.W.in_K hF I.ok.mod.kin J M.at_ M.fn (wpAny_mono (run_at (vs := [.ref a, x]) F hr rfl hb (hx σ) I (.cons rfl (.cons rx .nil)) h) (fun v s' hv => ?_) fun _ _ z => z)
  obtain ⟨w, H', I', rw_, b, rfl, q⟩ := hv
  cases rw_
  exact wpAny_truthy_bool ⟨.bl b, H', I', rfl, q⟩
/-- x in o, in a try -/
theorem pe_inS {E : L2.St → XK} {a b : Expr} {pos : Pos} {ta tb : TE} (M : Meth X.K C "__contains__" f) (F : FnOk X.prog X.w X.K X.mg X.base CX k f fd ps sp) (hr : Room k X.A) (hb' : Binds X.K fd ps []) (hx : ∀ σ, PassesAt CX X σ (E σ)) (ha : PE X a ta) (hb : PE X b tb) (hm : behindInMarks .In b = false) :
    PE X (.Compare a [.In] [b] pos) (fun σ H Q => ta σ H fun x H1 => tb σ H1 fun y H2 => rInO C sp (E σ) x y H2 Q) := by
  refine ⟨fun pins s σ H Q I h => ?_⟩
  refine wpAny_Compare1 (thn (ha.run pins s σ H _ I h) fun v s1 ⟨x, H1, I1, r1, q1⟩ => thn (hb.run pins s1 σ H1 _ I1 q1) fun u s2 ⟨y, H2, I2, ry, q2⟩ => ?_) hm
  obtain ⟨a, dx, fs, rfl, ha, h⟩ := q2
  cases ry
  obtain ⟨mA, J, _⟩ := ins_get I2.hok ha
  obtain ⟨od, J, _⟩ := J.look
  obtain ⟨m, hF⟩ := I2.fr
  refine PySem.W.in_K hF I2.ok.mod.kin J M.at_ M.fn (wpAny_mono (run_at (vs := [.ref a, x]) F hr rfl hb' (hx σ) I2 (.cons rfl (.cons r1 .nil)) h) (fun v s' hv => ?_) fun _ _ z => z)
  obtain ⟨w, H', I', rw_, b, rfl, q⟩ := hv
  cases rw_
  exact wpAny_truthy_bool ⟨.bl b, H', I', rfl, q⟩
/-! ### makes and methods in a try -/
def tMakeS (C : Addr) (sp : Sp) (dvs : List V) (E : L2.St → XK) (t : TA) : TE := fun σ H Q => t σ H fun vs H1 => ∀ x dx, H1 x = none → H1 dx = none → dx ≠ x → sp (.ref x :: (vs ++ dvs)) (upd (upd H1 dx (.own x)) x (.ins C dx [])) (fun v H2 => v = .non ∧ Q (.ref x) H2) (E σ)
def tMethS (C : Addr) (m : Str) (sp : Sp) (dvs : List V) (E : L2.St → XK) (ta : TE) (t : TA) : TE := fun σ H Q => ta σ H fun x H1 => ∃ a dx fs, x = .ref a ∧ H1 a = some (.ins C dx fs) ∧ fs.lookup m = none ∧ t σ H1 fun vs H2 => sp (x :: (vs ++ dvs)) H2 Q (E σ)
end
section
variable {X : Cx} {CX : CXT} {k : Nat} {C f : Addr} {fd : FuncData} {ps : List Str} {sp : Sp} {E : L2.St → XK} {ds : List Value} {dvs : List V} {x m : Str} {p pos apos : Pos} {e o : Expr} {es : List Expr} {ta : TE} {t : TA}
theorem run_makeS {pins : List (Addr × Obj)} {σ : L2.St} {H : Hp} {s : Shared} {Q : VK} {us : List Value} {vs : List V} (M : Mk X.K C f) (F : FnOk X.prog X.w X.K X.mg X.base CX k f fd ps sp) (hr : Room (k + 1) X.A) (hb : Binds X.K fd ps ds) (hd : Vals dvs ds)
    (hx : PassesAt CX X σ (E σ)) (I : Inv X pins σ H s) (r : Vals vs us)
    (h : ∀ x dx, H x = none → H dx = none → dx ≠ x → sp (.ref x :: (vs ++ dvs)) (upd (upd H dx (.own x)) x (.ins C dx [])) (fun v H2 => v = .non ∧ Q (.ref x) H2) (E σ)) :
    wpAny (model X.prog X.w) X.A (call (.ref C) us) (EP X pins σ Q) X.xe s := by
  have hq := h (s.heap.objs.size + 1) s.heap.objs.size (I.hok.fresh (Nat.le_succ _)) (I.hok.fresh (Nat.le_refl _)) (Nat.ne_of_lt (Nat.lt_succ_self _))
  have I2 := Inv.made (C := C) I
  have r2 : Vals (V.ref (s.heap.objs.size + 1) :: (vs ++ dvs)) (Value.ref (s.heap.objs.size + 1) :: (us ++ ds)) := .cons rfl (r.append hd)
  have hl : (Value.ref (s.heap.objs.size + 1) :: us ++ ds).length = ps.length := by
    have e := r2.length
    rw [F.len _ _ _ _ hq] at e
    exact e.symm
  refine wpAny_call (make_map (f := f) I.kIn M.makes M.init (beq_iff_eq.mp M.fn) (codeAny_mono (F.run _ X.stack _ _ ⟨Value.ref (s.heap.objs.size + 1) :: us, []⟩ (Value.ref (s.heap.objs.size + 1) :: (us ++ ds)) _ _ (E σ) (hr.make C us [])
    (I2.env0.make C us []) (hb _ (Value.ref (s.heap.objs.size + 1) :: us) I2.kIn hl) r2 hq) fun r s' hq' => ?_))
  cases r with
  | error e => exact hx pins _ _ e s' I2 hq'
  | ok fl =>
    cases fl with
    | ret u =>
      obtain ⟨v, H', I3, rv, ev, q3⟩ := I2.after hq'
      subst ev
      exact ⟨rv, ⟨V.ref (s.heap.objs.size + 1), H', I3, rfl, q3⟩⟩
    | next => exact False.elim hq'
    | brk => exact False.elim hq'
    | cont => exact False.elim hq'
theorem pe_makeS (M : Mk X.K C f) (F : FnOk X.prog X.w X.K X.mg X.base CX k f fd ps sp) (hr : Room (k + 1) X.A) (hg : Gl X x) (hm : X.mg x = some (.ref C)) (hb : Binds X.K fd ps ds) (hd : Vals dvs ds) (hx : ∀ σ, PassesAt CX X σ (E σ))
    (ha : PA X (e :: es) t) (hdb : (x == ("__debug__" : Str)) = false := by decide) (he : starEach (e :: es) X.env = (false, eval e X.env) :: starEach es X.env := by rfl) (hpl : (backTo pos (starEach es X.env)).any (·.1) = false := by rfl) :
    PE X (.Call (.Name x p) (e :: es) [] pos) (tMakeS C sp dvs E t) := by
  refine ⟨fun pins s σ H Q I h => ?_⟩
  refine wpAny_Call_Name_kw (ld_glob I hg hm ?_ hdb)
  refine PySem.W.callWith_K (h₀ := X.base) I.ok.mod.kin M.kp (thn (ha.run pos pins s σ H _ I h) fun us s1 ⟨vs, H1, I1, r, q⟩ => ⟨I1.kIn, ?_⟩) he hpl
  exact run_makeS M F hr hb hd (hx σ) I1 r q
theorem pe_methS {pl : Sem Bool} (he : PE X o ta) (c : Cls X.K C) (hm : Meth X.K C m f) (F : FnOk X.prog X.w X.K X.mg X.base CX k f fd ps sp) (hr : Room k X.A) (hb : Binds X.K fd ps ds) (hd : Vals dvs ds) (hx : ∀ σ, PassesAt CX X σ (E σ)) (ha : PA X (e :: es) t)
    (hst : starEach (e :: es) X.env = (false, eval e X.env) :: starEach es X.env := by rfl) (hpl : (backTo pos (starEach es X.env)).any (·.1) = false := by rfl)
    (ht : eval (.Call (.Attribute o m apos) (e :: es) [] pos) X.env = (do
      let ov ← eval o X.env
      standAt apos.atName
      let (f, first) ← holding [ov] (getMethod ov m pl)
      callWith pos f first (backTo pos (starEach (e :: es) X.env)) (backToKw pos (keywordEach [] X.env))) := by rfl) :
    PE X (.Call (.Attribute o m apos) (e :: es) [] pos) (tMethS C m sp dvs E ta t) := by
  refine ⟨fun pins s σ H Q I h => ?_⟩
  refine PySem.W.methodCall_KW (pl := pl) (thn (he.run pins s σ H _ I h) fun u s1 ⟨x, H1, I1, rx, a, dx, fs, ex, ea, l, q⟩ => ?_) ht
  subst ex
  obtain rfl : u = Value.ref a := rx
  refine getmeth_ok I1 ea c hm l ?_
  refine PySem.W.callWith_K (first := [.ref a]) (h₀ := X.base) I.ok.mod.kin hm.kp (thn (ha.run pos pins s1 σ H1 _ I1 q) fun us s2 ⟨vs, H2, I2, r, q2⟩ => ⟨I2.kIn, ?_⟩) hst hpl
  exact run_fnSD (us := .ref a :: us) (vs := .ref a :: vs) F hr hb hd (hx σ) I2 (.cons rfl r) q2
end
/-! ### the walk of an iterator over a list, told by what is tracked -/
section
variable {prog : Program} {w : World} {A : Around} {E : Value → Shared → Prop} {s : Shared} {it l : Addr} {i : Nat} {items : Array Value}
theorem nx_item {x : Value} {Q : Option Value → Shared → Prop} (ho : s.heap.get? it = some (GNX.itObj l i)) (hl : s.heap.IsList l items) (hx : items[i]? = some x)
    (hQ : ∀ h', h'.get? it = some (GNX.itObj l (i + 1)) → Heap.SameBut it s.heap h' → Q (some x) { s with heap := h' }) : wpAny (model prog w) A (pyNext (.ref it)) Q E s := by
  have hT : s.TypeIs (.ref it) "list_iterator" := ⟨_, ho, rfl⟩
  unfold pyNext
  refine wpAny_bind (wpAny_attempt (wpAny_callSpecial?_slot (name := Str.ofString "__next__") hT slot_listiter_next
    (wpAny_call_entry slot_listiter_next hT entry_listiter_next ?_ (args_listiter_next _))))
  refine wpAny_mono (GNX.next_item ho hl hx (Q := fun v s' => v = x ∧ Q (some x) s') fun h' e sb => ⟨rfl, hQ h' e sb⟩) (fun fin s' h => ?_) fun _ _ z => z
  obtain ⟨v, rfl, rfl, q⟩ := h
  exact ⟨_, rfl, wpAny_pure q⟩
theorem nx_end {Q : Option Value → Shared → Prop} (hh : A.handled = none) (ho : s.heap.get? it = some (GNX.itObj l i)) (hl : s.heap.IsList l items) (hx : items[i]? = none)
    (hQ : ∀ h1 h', h1.get? it = some (GNX.itEnd i) → Heap.SameBut it s.heap h1 → (∀ b o, h1.get? b = some o → h'.get? b = some o) → Q none { s with heap := h' }) : wpAny (model prog w) A (pyNext (.ref it)) Q E s := by
  have hT : s.TypeIs (.ref it) "list_iterator" := ⟨_, ho, rfl⟩
  unfold pyNext
  refine wpAny_bind (wpAny_attempt (wpAny_callSpecial?_slot (name := Str.ofString "__next__") hT slot_listiter_next
    (wpAny_call_entry slot_listiter_next hT entry_listiter_next ?_ (args_listiter_next _))))
  refine wpAny_mono (GNX.next_end (A := A) (Q := fun _ _ => False) (E := fun e s' => wpAny (model prog w) A (do let b ← isInstance e (.type "StopIteration"); if b = true then pure none else throw e) Q E s') hh ho hl hx fun h1 h' e vs e1 sb k ne he hv => ?_) (fun fin s' h => ?_) fun _ _ z => z
  case refine_2 =>
    obtain ⟨v, _, h⟩ := h
    exact h.elim
  case refine_1 =>
    refine wpAny_bind (wpAny_isInstance (T := "StopIteration") (b := true) ⟨_, he, rfl⟩ isSubtype_stop ?_)
    exact wpAny_pure (hQ h1 h' e1 sb k)
end
section
variable {X : Cx} {pins : List (Addr × Obj)} {σ : L2.St} {H : Hp} {s : Shared} {it l q : Addr} {A1 : Around} {Rs : Result → Shared → Prop} {ys : List V}
/-- list.extend's loop over a list's iterator -/
theorem itl_loop (hh : A1.in1.handled = none) (hdone : ∀ H' s', Inv X pins σ H' s' → H' q = some (.lst ys) → (∀ b o, b ≠ q → b ≠ it → H b = some o → H' b = some o) → Rs (.ok (.ret .none)) s') (herr : ∀ e s, X.xe e s → Rs (.error e) s) (hz : ys.length ≤ sizeLine) (hlq : l ≠ q) (hiq : it ≠ q) (hil : l ≠ it) :
    ∀ (m i : Nat) (acc : List V) (H1 : Hp) (s1 : Shared), m = ys.length - i → i ≤ ys.length → acc = ys.take i → Inv X pins σ H1 s1 → H1 q = some (.lst acc) → H1 it = some (ItO l it i) → SqL X.K H1 l ys → (∀ b o, b ≠ q → b ≠ it → H b = some o → H1 b = some o) →
      codeAny (model X.prog X.w) A1 (.builtin "list.extend.loop" ⟨[.ref q, .ref it, .none], []⟩) Rs s1 := by
  intro m
  induction m with
  | zero =>
    intro i acc H1 s1 hm hi ha I hq hi1 hl hk
    have ei : i = ys.length := by omega
    subst ei
    rw [List.take_length] at ha
    subst ha
    obtain ⟨its, rv, pl, _⟩ := I.list hl
    refine codeAny_builtin PySem.F.entry_extend_loop ?_
    rw [Around.under_plainId PySem.F.plain_extend_loop _]
    show wpAny _ A1.in1 (pyNext (.ref it) >>= _) _ _ s1
    refine wpAny_bind (nx_end hh (itO_get I hi1) pl.isList (by rw [List.getElem?_toArray]; exact rv.none_of (List.getElem?_eq_none (Nat.le_refl _))) fun h1 h' e1 sb k => ?_)
    have mu : Mut (H1 it) := by rw [hi1]; exact True.intro
    have I3 : Inv X pins σ (upd H1 it (ItE it acc.length)) { s1 with heap := h' } := I.write (x := it) (e := it) (t' := s1.toks) mu (.inl rfl) (fun b o nb z => k _ _ ((sb.2 b nb).trans z)) ⟨_, k _ _ e1⟩ (itE_ok (k _ _ e1))
    exact wpAny_pure (hdone _ _ I3 (by rw [upd_ne hiq.symm]; exact hq) fun b o n1 n2 z => by rw [upd_ne n2]; exact hk b o n1 n2 z)
  | succ m ih =>
    intro i acc H1 s1 hm hi ha I hq hi1 hl hk
    have lt : i < ys.length := by omega
    obtain ⟨its, rv, pl, _⟩ := I.list hl
    obtain ⟨u, hu, ru⟩ := rv.get (List.getElem?_eq_getElem lt)
    refine codeAny_builtin PySem.F.entry_extend_loop ?_
    rw [Around.under_plainId PySem.F.plain_extend_loop _]
    show wpAny _ A1.in1 (pyNext (.ref it) >>= _) _ _ s1
    refine wpAny_bind (nx_item (itO_get I hi1) pl.isList (by rw [List.getElem?_toArray]; exact hu) fun h' e1 sb => ?_)
    have mu : Mut (H1 it) := by rw [hi1]; exact True.intro
    have I2 : Inv X pins σ (upd H1 it (ItO l it (i + 1))) { s1 with heap := h' } := I.write (x := it) (e := it) (t' := s1.toks) mu (.inl rfl) (fun b o nb z => (sb.2 b nb).trans z) ⟨_, e1⟩ (itO_ok e1)
    have hq2 : upd H1 it (ItO l it (i + 1)) q = some (.lst acc) := by rw [upd_ne hiq.symm]; exact hq
    show wpAny _ A1.in1 (updateSeq q (·.push u) >>= _) _ _ _
    obtain ⟨z, its2, k, r2, hl2, e⟩ := I2.lstM hq2
    have la : acc.length < sizeLine := by rw [ha, List.length_take]; omega
    refine wpAny_bind (wpAny_updateSeq e rfl (wpAny_pure ⟨plainId_quiet PySem.F.plain_extend_loop _, ?_⟩) (by rw [List.size_toArray]; omega) (by show (its2.toArray.push u).size ≤ sizeLine + 1; rw [Array.size_push, List.size_toArray]; omega))
    refine ih (i + 1) (acc ++ [ys[i]]) _ _ (by omega) lt (by rw [ha, List.take_succ, List.getElem?_eq_getElem lt] <;> rfl) (I2.lset (its' := its2 ++ [u]) (t' := s1.toks) hq2 e (by simp) (r2.append (.cons ru .nil)) (by rw [List.length_append, List.length_singleton]; omega)) upd_same (by rw [upd_ne hiq, upd_same]) ?_ ?_
    · have e2 : upd (upd H1 it (ItO l it (i + 1))) q (.lst (acc ++ [ys[i]])) l = H1 l := by rw [upd_ne hlq, upd_ne hil]
      unfold SqL Rd at hl ⊢
      simp only [e2]
      exact hl
    · intro b o n1 n2 z
      rw [upd_ne n1, upd_ne n2]
      exact hk b o n1 n2 z
end
/-! ### list(o): __iter__ gives a list's iterator, __len__ a length -/
section
variable {X : Cx} {pins : List (Addr × Obj)} {σ : L2.St} {H : Hp} {s : Shared} {CI CL : CXT} {C fi fl a q : Addr} {fdI fdL : FuncData} {psI psL : List Str} {spI spL : Sp} {EI EL : XK} {n : Nat} {A1 : Around}
theorem len_hint {M : Model} {E : Value → Shared → Prop} {Q : Bool → Shared → Prop} {ox : Obj} {od : Option Obj} {K : PySem.W.Frag} (hL : PySem.W.findIn K (.ref C) "__len__" = some (some (.ref fl))) (hK : K.In s.heap) (J : PySem.W.InstAt s.heap a ox C od)
    (h : wpAny M A1 (call (.builtin "len") [.ref a]) (fun v s' => ∃ k t, v = .int k t ∧ k ≤ 100000 ∧ ∀ b, Q b s') (fun _ _ => False) s) : wpAny M A1 (Builtin.List.listLengthHint (.ref a)) Q E s := by
  unfold Builtin.List.listLengthHint
  refine wpAny_bind (wpAny_bind (J.type.here ((PySem.W.looks_findIn hK hL).here ?_)))
  refine PySem.W.KFB.if_not rfl ?_
  refine PySem.W.KFB.if_so rfl ?_
  refine wpAny_bind (wpAny_rule ?_)
  refine wpAny_bind (wpAny_attempt (wpAny_mono h (fun v s' hv => ?_) fun e s' he => ?_))
  · obtain ⟨k, t, rfl, hk, hQ⟩ := hv
    refine wpAny_bind (wpAny_of_eq (a := some k) rfl ?_)
    refine PySem.W.KFB.if_not ?_ (wpAny_pure (hQ _))
    unfold Builtin.List.listTooLong
    have e := sizeLine_eq
    exact decide_eq_false (by omega)
  · exact he.elim
/-- a call of a def that lets nothing out, inside a built-in -/
theorem run_at0 {CX : CXT} {k : Nat} {f : Addr} {fd : FuncData} {ps : List Str} {sp : Sp} {E : XK} {E' : Value → Shared → Prop} {Q : VK} {us : List Value} {vs : List V} (F : FnOk X.prog X.w X.K X.mg X.base CX k f fd ps sp) (hr : Room k A1) (hf : A1.frames = X.A.frames) (hb : Binds X.K fd ps []) (hx : Passes CX X.nox E)
    (I : Inv X pins σ H s) (r : Vals vs us) (h : sp vs H Q E) : wpAny (model X.prog X.w) A1 (call (.ref f) us) (EP X pins σ Q) E' s := by
  have hl : us.length = ps.length := by rw [← r.length]; exact F.len _ _ _ _ h
  have b := hb s us I.kIn (by rw [List.append_nil]; exact hl)
  rw [List.append_nil] at b
  have e0 : Env0 X.prog X.w X.K X.mg X.base A1 X.stack s H := by
    have e := I.env0
    exact ⟨by rw [hf]; exact e.frames, e.mod, e.bs, e.bsz, e.funs, e.frf, e.hok, e.bare⟩
  refine wpAny_call (codeAny_mono (F.run A1 X.stack s H ⟨us, []⟩ us vs Q E hr e0 b r h) fun r s' hq => ?_)
  cases r with
  | error e => exact (hx pins σ H s e s' (I.wish _) hq).elim
  | ok fl =>
    cases fl with
    | ret u => exact I.after hq
    | next => exact False.elim hq
    | brk => exact False.elim hq
    | cont => exact False.elim hq
def rListIt (K : PySem.W.Frag) (C : Addr) (spI spL : Sp) (EI EL : XK) : List V → Hp → VK → Prop := fun xs H Q => ∃ a dx fs, xs = [.ref a] ∧ H a = some (.ins C dx fs) ∧ ∀ q, H q = none →
  spI [.ref a] (upd H q (.lst [])) (fun v H1 => ∃ it l ys, v = .ref it ∧ H1 it = some (ItO l it 0) ∧ SqL K H1 l ys ∧ H1 q = some (.lst []) ∧ l ≠ q ∧ it ≠ q ∧ l ≠ it ∧ ys.length ≤ sizeLine ∧ H1 a = some (.ins C dx fs) ∧
    spL [.ref a] H1 (fun n H2 => H2 = H1 ∧ ∃ k : Int, n = .int k ∧ 0 ≤ k ∧ k ≤ 100000) EL ∧ ∀ H', H' q = some (.lst ys) → (∀ b o, b ≠ q → b ≠ it → H1 b = some o → H' b = some o) → Q (.ref q) H') EI
theorem itl_extend {kI kL : Nat} {Q : VK} {dx : Addr} {fs : List (Str × V)} {Rs : Result → Shared → Prop} (hc : X.A.handled = none) (ea : A1.in1.handled = none) (sI : Sub X kI A1.in1) (sL : Sub X kL A1.in1.in1) (MI : Meth X.K C "__iter__" fi) (ML : Meth X.K C "__len__" fl)
    (FI : FnOk X.prog X.w X.K X.mg X.base CI kI fi fdI psI spI) (bI : Binds X.K fdI psI []) (xI : Passes CI X.nox EI) (FL : FnOk X.prog X.w X.K X.mg X.base CL kL fl fdL psL spL) (bL : Binds X.K fdL psL []) (xL : Passes CL X.nox EL)
    (hdone : ∀ H' s', Inv X pins σ H' s' → Q (.ref q) H' → Rs (.ok (.ret .none)) s') (herr : ∀ e s, X.xe e s → Rs (.error e) s) (I : Inv X pins σ H s) (ha : H a = some (.ins C dx fs)) (hq : H q = some (.lst []))
    (h : spI [.ref a] H (fun v H1 => ∃ it l ys, v = .ref it ∧ H1 it = some (ItO l it 0) ∧ SqL X.K H1 l ys ∧ H1 q = some (.lst []) ∧ l ≠ q ∧ it ≠ q ∧ l ≠ it ∧ ys.length ≤ sizeLine ∧ H1 a = some (.ins C dx fs) ∧
      spL [.ref a] H1 (fun n H2 => H2 = H1 ∧ ∃ k : Int, n = .int k ∧ 0 ≤ k ∧ k ≤ 100000) EL ∧ ∀ H', H' q = some (.lst ys) → (∀ b o, b ≠ q → b ≠ it → H1 b = some o → H' b = some o) → Q (.ref q) H') EI) :
    wpAny (model X.prog X.w) A1.in1 (Builtin.List.listExtendWith (.ref q) (.ref a) .none)
      (fun fin s' => match fin with | .done f => Rs (.ok f) s' | .again c' => c'.quiet = true ∧ codeAny (model X.prog X.w) A1 c' Rs s') (fun e s' => Rs (.error e) s') s := by
  have hne : q ≠ a := ne_of hq ha (fun z => nomatch z)
  obtain ⟨mA, J, _⟩ := ins_get I.hok ha
  obtain ⟨od, J, _⟩ := J.look
  obtain ⟨m0, hF⟩ := I.fr
  unfold Builtin.List.listExtendWith
  refine wpAny_bind (J.type.here ?_)
  have h1 : Builtin.List.listSameRef (.ref q) (.ref a) = false := by simp [Builtin.List.listSameRef, hne]
  have h2 : (Value.ref C == Value.type "list") = false := rfl
  have h3 : (Value.ref C == Value.type "tuple") = false := rfl
  simp only [h1, h2, h3, Bool.or_false, Bool.false_eq_true, if_false]
  refine wpAny_bind (PySem.W.owit_iter hF I.ok.mod.kin J MI.at_ MI.fn (wpAny_mono (run_at0 (vs := [.ref a]) (E' := fun e s' => Rs (.error e) s') FI sI.room sI.fr bI xI I (.cons rfl .nil) h) (fun u s' hu => ?_) fun _ _ z => z))
  obtain ⟨v, H1, I1, rv, it, l, ys, rfl, hit, hl, hq1, n1, n2, n3, hz, ha1, hL, hQ⟩ := hu
  cases rv
  have hiT : s'.TypeIs (.ref it) "list_iterator" := ⟨_, itO_get I1 hit, rfl⟩
  unfold PySem.W.OwitIt
  refine wpAny_specialOf (name := Str.ofString "__next__") hiT slot_listiter_next.lookup ?_
  dsimp only
  obtain ⟨mA', J', _⟩ := ins_get I1.hok ha1
  obtain ⟨od', J', _⟩ := J'.look
  obtain ⟨m1, hF1⟩ := I1.fr
  refine wpAny_bind (wpAny_holding (len_hint ML.at_ I1.kIn J' (PySem.W.len_K hF1 I1.ok.mod.kin J' ML.at_ ML.fn (wpAny_mono (run_at0 (vs := [.ref a]) FL sL.room sL.fr bL xL I1 (.cons rfl .nil) hL) (fun v s2 hv => ?_) fun _ _ z => z))))
  obtain ⟨w, H2, I2, rw_, rfl, k, rfl, k0, k1⟩ := hv
  obtain ⟨t, rfl⟩ := rw_
  refine ⟨⟨k0, by omega⟩, k, _, rfl, k1, fun b => ?_⟩
  have I2 := I2.tok (s2.toks + 1)
  have fin : ∀ s3, Inv X pins σ H2 s3 → codeAny (model X.prog X.w) A1 (.builtin "list.extend.loop" ⟨[.ref q, .ref it, .none], []⟩) Rs s3 := fun s3 I3 =>
    itl_loop (H := H2) ea (fun H' s' I' h1 h2 => hdone H' s' I' (hQ H' h1 h2)) herr hz n1 n2 n3 _ 0 [] H2 s3 rfl (Nat.zero_le _) rfl I3 hq1 hit hl (fun b o _ _ z => z)
  refine wpAny_ite_split (fun _ => ?_) (fun _ => wpAny_pure ⟨plainId_quiet PySem.F.plain_extend_loop _, fin _ I2⟩)
  obtain ⟨z, its, k', r3, hl3, e3⟩ := I2.lstM hq1
  cases r3
  refine wpAny_bind (wpAny_rule ?_)
  refine wpAny_bind ?_
  show wpAny _ _ (updateSeq q (·.push .none) >>= fun _ => updateSeq q (·.pop)) _ _ _
  refine wpAny_bind (wpAny_updateSeq e3 rfl ?_)
  have I3 := I2.lset (f := (·.push Value.none)) (its' := [Value.none]) (ys := [.non]) (t' := s2.toks + 1) hq1 e3 (by simp) (.cons rfl .nil) (by rw [List.length_singleton, sizeLine_eq]; decide)
  obtain ⟨z4, its4, k4, r4, hl4, e4⟩ := I3.lstM upd_same
  obtain ⟨u4, rfl, ru4⟩ := r4.one
  refine wpAny_updateSeq e4 rfl ?_ (by show 1 ≤ sizeLine; rw [sizeLine_eq]; decide) (by show 0 ≤ sizeLine + 1; exact Nat.zero_le _)
  refine wpAny_pure ⟨plainId_quiet PySem.F.plain_extend_loop _, fin _ ?_⟩
  have I4 := I3.lset (f := (·.pop)) (its := [u4]) (its' := []) (ys := []) (t' := s2.toks + 1) upd_same e4 (by rfl) .nil (Nat.zero_le _)
  rw [upd_upd] at I4
  have hH : upd H2 q (.lst []) = H2 := by
    funext b
    by_cases hb : b = q
    · rw [hb, upd_same, hq1]
    · rw [upd_ne hb]
  rw [hH] at I4
  exact I4
theorem call_listIt {kI kL : Nat} (hcm : X.calm = true) (hr : Room (max (kI + 2) (kL + 3)) X.A) (MI : Meth X.K C "__iter__" fi) (ML : Meth X.K C "__len__" fl)
    (FI : FnOk X.prog X.w X.K X.mg X.base CI kI fi fdI psI spI) (bI : Binds X.K fdI psI []) (xI : Passes CI X.nox EI) (FL : FnOk X.prog X.w X.K X.mg X.base CL kL fl fdL psL spL) (bL : Binds X.K fdL psL []) (xL : Passes CL X.nox EL) : CallR X (.type "list") (rListIt X.K C spI spL EI EL) := by
  intro pins s σ H xs us Q I rv h
  obtain ⟨a, dx, fs, rfl, ha, h⟩ := h
  obtain ⟨u, rfl, ru⟩ := rv.one
  cases ru
  have hc := I.ok.hd hcm
  have hrI : Room (kI + 2) X.A := hr.mono (by omega)
  have hrL : Room (kL + 3) X.A := hr.mono (by omega)
  have sI : Sub X kI X.A.in1.in1 := (Sub.in1 (Sub.in1 (⟨hrI, rfl⟩ : Sub X (kI + 2) X.A)))
  have sL : Sub X kL X.A.in1.in1.in1 := (Sub.in1 (Sub.in1 (Sub.in1 (⟨hrL, rfl⟩ : Sub X (kL + 3) X.A))))
  refine callType_codes (Q₁ := fun obj s₁ => obj = .ref s.heap.objs.size ∧ s₁ = { s with heap := s.heap.push { cls := .type "list", data := .seq #[] } }) PySem.F.called_list (PySem.F.typeCall_list_1 _) PySem.F.entry_list_init
    (code_list_new _ ⟨rfl, rfl⟩) fun obj s₁ h₁ => ?_
  obtain ⟨rfl, rfl⟩ := h₁
  have hS : (s.heap.push { cls := .type "list", data := .seq #[] }).get? s.heap.objs.size = some { cls := .type "list", data := .seq #[] } := Heap.get?_push_size _ rfl
  refine ⟨⟨_, hS, rfl⟩, PySem.F.args_list_init_2 _ _, ?_⟩
  have fr : H s.heap.objs.size = none := I.hok.fresh (Nat.le_refl _)
  have h := h _ fr
  have I1 : Inv X pins σ (upd H s.heap.objs.size (.lst [])) { s with heap := s.heap.push { cls := .type "list", data := .seq #[] } } := I.lnew (its := []) (t' := s.toks) .nil (Nat.zero_le _)
  show wpAny _ _ (do let old ← Builtin.List.listItems (.ref s.heap.objs.size); Builtin.List.listUpdate (.ref s.heap.objs.size) (fun _ => #[]); letGo old.toList.reverse; Builtin.List.listExtendWith (.ref s.heap.objs.size) (.ref a) .none) _ _ _
  refine wpAny_bind ?_
  unfold Builtin.List.listItems
  refine wpAny_bind (wpAny_seqItems hS rfl (wpAny_pure ?_))
  show wpAny _ _ (updateSeq s.heap.objs.size (fun _ => #[]) >>= fun _ => letGo (#[] : Array Value).toList.reverse >>= fun _ => Builtin.List.listExtendWith (.ref s.heap.objs.size) (.ref a) .none) _ _ _
  refine wpAny_bind (wpAny_updateSeq hS rfl ?_)
  have I2 := I1.lset (f := fun _ => #[]) (its := []) (its' := []) (ys := []) (t' := s.toks) upd_same hS rfl .nil (Nat.zero_le _)
  rw [upd_upd] at I2
  refine wpAny_bind (wpAny_letGo ?_)
  have ha2 : upd H s.heap.objs.size (.lst []) a = some (.ins C dx fs) := by rw [upd_ne (ne_of_none ha fr)]; exact ha
  exact itl_extend (A1 := X.A.in1) (Q := Q) (Rs := wants (fun r s₂ => r = .none ∧ EP X pins σ Q (.ref s.heap.objs.size) s₂) X.xe) hc hc sI sL MI ML FI bI xI FL bL xL
    (fun H' s' I' hR => ⟨rfl, .ref s.heap.objs.size, H', I', rfl, hR⟩) (fun e s' he => he) I2 ha2 upd_same h
end
end Mn

set_option Elab.async false
set_option linter.all false
set_option maxRecDepth 100000
set_option maxHeartbeats 4000000
namespace Kx
open PySem PySem.Spec PyProof.Rows L2 Lk
/-! ### the text by places -/
def top (i : Nat) : Stmt := PySem.Challenge.pw_leastshelf_k10_field_one_form.main.body.getD i (.Pass ⟨0, 0, 0, 0⟩)
abbrev s_shown : Stmt := top 2
abbrev s_is_whole : Stmt := top 13
abbrev s_in_one_form : Stmt := top 21
abbrev s_Field__neutral : Stmt := inClass (top 22) 1
abbrev s_Field__size : Stmt := inClass (top 22) 2
abbrev s_Field__pieces : Stmt := inClass (top 22) 3
abbrev s_Field____eq__ : Stmt := inClass (top 22) 7
abbrev s_Field____len__ : Stmt := inClass (top 22) 8
abbrev s_Field____iter__ : Stmt := inClass (top 22) 9
abbrev s__law_stream : Stmt := top 24
abbrev s__law_mixed : Stmt := top 25
abbrev s__law_plain : Stmt := top 31
abbrev s__law_normal : Stmt := top 32
abbrev s__law_field : Stmt := top 35
abbrev s__law_is_number : Stmt := top 36
abbrev s__law_thing_at : Stmt := top 43
abbrev s__law_look_keys : Stmt := top 44
abbrev s_is_key : Stmt := top 16
abbrev s_is_stretch : Stmt := top 17
abbrev s__law_draw : Stmt := top 26
abbrev s__law_is_word : Stmt := top 37
abbrev s__law_pick : Stmt := top 27
abbrev s__law_is_effect : Stmt := top 38
abbrev s_check_key : Stmt := top 18
abbrev s_check_pieces : Stmt := top 20
abbrev s__law_kind : Stmt := top 28
abbrev s__law_letters : Stmt := top 29
abbrev s__law_raw : Stmt := top 30
abbrev s__law_grid : Stmt := top 34
abbrev s__law_none : Stmt := top 39
abbrev s__law_loose_pieces : Stmt := top 42
abbrev s__law_good_thing : Stmt := top 45
abbrev s_Field____init__ : Stmt := inClass (top 22) 0
abbrev s_Field__at : Stmt := inClass (top 22) 4
abbrev s__law_effect : Stmt := top 33
abbrev s__law_told_pieces : Stmt := top 46
abbrev s_Field____contains__ : Stmt := inClass (top 22) 10
abbrev s__law_thing : Stmt := top 40
abbrev s__law_things : Stmt := top 41
abbrev s__law_field_told : Stmt := top 47
abbrev s__law_no_field : Stmt := top 48
abbrev s__law_no_key_of : Stmt := top 49
abbrev s_law : Stmt := top 50
abbrev si_KeyFault : Stmt := inClass (top 4) 0
abbrev si_PlaceFault : Stmt := inClass (top 5) 0
theorem sc_shown : FnScope ["value"] ["value"] (defScope s_shown) := ⟨rfl, rfl, rfl, by decide +kernel, rfl, by decide +kernel, by decide +kernel⟩
theorem sc_is_whole : FnScope ["thing"] ["thing"] (defScope s_is_whole) := ⟨rfl, rfl, rfl, by decide +kernel, rfl, by decide +kernel, by decide +kernel⟩
theorem sc_in_one_form : FnScope ["neutral", "pieces", "out", "a", "b", "thing"] ["neutral", "pieces"] (defScope s_in_one_form) := ⟨rfl, rfl, rfl, by decide +kernel, rfl, by decide +kernel, by decide +kernel⟩
theorem sc_Field__neutral : FnScope ["self"] ["self"] (defScope s_Field__neutral) := ⟨rfl, rfl, rfl, by decide +kernel, rfl, by decide +kernel, by decide +kernel⟩
theorem sc_Field__size : FnScope ["self", "a", "b", "_"] ["self"] (defScope s_Field__size) := ⟨rfl, rfl, rfl, by decide +kernel, rfl, by decide +kernel, by decide +kernel⟩
theorem sc_Field__pieces : FnScope ["self"] ["self"] (defScope s_Field__pieces) := ⟨rfl, rfl, rfl, by decide +kernel, rfl, by decide +kernel, by decide +kernel⟩
theorem sc_Field____eq__ : FnScope ["self", "other"] ["self", "other"] (defScope s_Field____eq__) := ⟨rfl, rfl, rfl, by decide +kernel, rfl, by decide +kernel, by decide +kernel⟩
theorem sc_Field____len__ : FnScope ["self"] ["self"] (defScope s_Field____len__) := ⟨rfl, rfl, rfl, by decide +kernel, rfl, by decide +kernel, by decide +kernel⟩
theorem sc_Field____iter__ : FnScope ["self"] ["self"] (defScope s_Field____iter__) := ⟨rfl, rfl, rfl, by decide +kernel, rfl, by decide +kernel, by decide +kernel⟩
theorem sc__law_stream : FnScope ["_law_script", "_law_cell"] ["_law_script"] (defScope s__law_stream) := ⟨rfl, rfl, rfl, by decide +kernel, rfl, by decide +kernel, by decide +kernel⟩
theorem sc__law_mixed : FnScope ["_law_cell", "_law_place", "_law_one"] ["_law_cell", "_law_place"] (defScope s__law_mixed) := ⟨rfl, rfl, rfl, by decide +kernel, rfl, by decide +kernel, by decide +kernel⟩
theorem sc__law_plain : FnScope ["_law_kind_here", "_law_word", "_law_row", "_law_k"] ["_law_kind_here", "_law_word"] (defScope s__law_plain) := ⟨rfl, rfl, rfl, by decide +kernel, rfl, by decide +kernel, by decide +kernel⟩
theorem sc__law_normal : FnScope ["_law_kind_here", "_law_effect_here"] ["_law_kind_here", "_law_effect_here"] (defScope s__law_normal) := ⟨rfl, rfl, rfl, by decide +kernel, rfl, by decide +kernel, by decide +kernel⟩
theorem sc__law_field : FnScope ["_law_grid_here", "_law_row", "_law_none_here", "_law_pieces", "_law_k", "_law_last"] ["_law_grid_here", "_law_row", "_law_none_here"] (defScope s__law_field) := ⟨rfl, rfl, rfl, by decide +kernel, rfl, by decide +kernel, by decide +kernel⟩
theorem sc__law_is_number : FnScope ["_law_thing_here"] ["_law_thing_here"] (defScope s__law_is_number) := ⟨rfl, rfl, rfl, by decide +kernel, rfl, by decide +kernel, by decide +kernel⟩
theorem sc__law_thing_at : FnScope ["_law_grid_here", "_law_row", "_law_none_here", "_law_key", "_law_k"] ["_law_grid_here", "_law_row", "_law_none_here", "_law_key"] (defScope s__law_thing_at) := ⟨rfl, rfl, rfl, by decide +kernel, rfl, by decide +kernel, by decide +kernel⟩
theorem sc__law_look_keys : FnScope ["_law_grid_here", "_law_keys", "_law_point", "_law_key"] ["_law_grid_here"] (defScope s__law_look_keys) := ⟨rfl, rfl, rfl, by decide +kernel, rfl, by decide +kernel, by decide +kernel⟩
theorem sc_is_key : FnScope ["thing"] ["thing"] (defScope s_is_key) := ⟨rfl, rfl, rfl, by decide +kernel, rfl, by decide +kernel, by decide +kernel⟩
theorem sc_is_stretch : FnScope ["thing", "a", "b"] ["thing"] (defScope s_is_stretch) := ⟨rfl, rfl, rfl, by decide +kernel, rfl, by decide +kernel, by decide +kernel⟩
theorem sc__law_draw : FnScope ["_law_stream_here", "_law_many", "_law_cell", "_law_value"] ["_law_stream_here", "_law_many"] (defScope s__law_draw) := ⟨rfl, rfl, rfl, by decide +kernel, rfl, by decide +kernel, by decide +kernel⟩
theorem sc__law_is_word : FnScope ["_law_thing_here", "_law_letter"] ["_law_thing_here"] (defScope s__law_is_word) := ⟨rfl, rfl, rfl, by decide +kernel, rfl, by decide +kernel, by decide +kernel⟩
theorem sc__law_pick : FnScope ["_law_stream_here", "_law_many"] ["_law_stream_here", "_law_many"] (defScope s__law_pick) := ⟨rfl, rfl, rfl, by decide +kernel, rfl, by decide +kernel, by decide +kernel⟩
theorem sc__law_is_effect : FnScope ["_law_thing_here"] ["_law_thing_here"] (defScope s__law_is_effect) := ⟨rfl, rfl, rfl, by decide +kernel, rfl, by decide +kernel, by decide +kernel⟩
theorem sc_check_key : FnScope ["key"] ["key"] (defScope s_check_key) := ⟨rfl, rfl, rfl, by decide +kernel, rfl, by decide +kernel, by decide +kernel⟩
theorem sc_check_pieces : FnScope ["pieces", "end", "place", "piece"] ["pieces"] (defScope s_check_pieces) := ⟨rfl, rfl, rfl, by decide +kernel, rfl, by decide +kernel, by decide +kernel⟩
theorem sc__law_kind : FnScope ["_law_stream_here"] ["_law_stream_here"] (defScope s__law_kind) := ⟨rfl, rfl, rfl, by decide +kernel, rfl, by decide +kernel, by decide +kernel⟩
theorem sc__law_letters : FnScope ["_law_stream_here", "_law_many", "_law_wide", "_law_letters_here", "_law_k", "_law_letter"] ["_law_stream_here"] (defScope s__law_letters) := ⟨rfl, rfl, rfl, by decide +kernel, rfl, by decide +kernel, by decide +kernel⟩
theorem sc__law_raw : FnScope ["_law_stream_here", "_law_letters_here", "_law_size", "_law_k"] ["_law_stream_here", "_law_letters_here"] (defScope s__law_raw) := ⟨rfl, rfl, rfl, by decide +kernel, rfl, by decide +kernel, by decide +kernel⟩
theorem sc__law_grid : FnScope ["_law_stream_here", "_law_upper", "_law_many", "_law_wide", "_law_point", "_law_grid_here", "_law_k"] ["_law_stream_here", "_law_upper"] (defScope s__law_grid) := ⟨rfl, rfl, rfl, by decide +kernel, rfl, by decide +kernel, by decide +kernel⟩
theorem sc__law_none : FnScope ["_law_stream_here", "_law_letters_here", "_law_sort"] ["_law_stream_here", "_law_letters_here", "_law_sort"] (defScope s__law_none) := ⟨rfl, rfl, rfl, by decide +kernel, rfl, by decide +kernel, by decide +kernel⟩
theorem sc__law_loose_pieces : FnScope ["_law_stream_here", "_law_grid_here", "_law_row", "_law_none_here", "_law_pieces", "_law_k", "_law_way", "_law_middle"] ["_law_stream_here", "_law_grid_here", "_law_row", "_law_none_here"] (defScope s__law_loose_pieces) := ⟨rfl, rfl, rfl, by decide +kernel, rfl, by decide +kernel, by decide +kernel⟩
theorem sc__law_good_thing : FnScope ["_law_thing_here", "_law_sort"] ["_law_thing_here", "_law_sort"] (defScope s__law_good_thing) := ⟨rfl, rfl, rfl, by decide +kernel, rfl, by decide +kernel, by decide +kernel⟩
theorem sc_Field____init__ : FnScope ["self", "neutral", "pieces"] ["self", "neutral", "pieces"] (defScope s_Field____init__) := ⟨rfl, rfl, rfl, by decide +kernel, rfl, by decide +kernel, by decide +kernel⟩
theorem sc_Field__at : FnScope ["self", "key", "low", "high", "middle"] ["self", "key"] (defScope s_Field__at) := ⟨rfl, rfl, rfl, by decide +kernel, rfl, by decide +kernel, by decide +kernel⟩
theorem sc__law_effect : FnScope ["_law_stream_here", "_law_kind_here", "_law_letters_here", "_law_flag"] ["_law_stream_here", "_law_kind_here", "_law_letters_here"] (defScope s__law_effect) := ⟨rfl, rfl, rfl, by decide +kernel, rfl, by decide +kernel, by decide +kernel⟩
theorem sc__law_told_pieces : FnScope ["_law_told", "_law_due", "_law_sort", "_law_piece"] ["_law_told", "_law_due", "_law_sort"] (defScope s__law_told_pieces) := ⟨rfl, rfl, rfl, by decide +kernel, rfl, by decide +kernel, by decide +kernel⟩
theorem sc_Field____contains__ : FnScope ["self", "key"] ["self", "key"] (defScope s_Field____contains__) := ⟨rfl, rfl, rfl, by decide +kernel, rfl, by decide +kernel, by decide +kernel⟩
theorem sc__law_thing : FnScope ["_law_stream_here", "_law_kind_here", "_law_letters_here", "_law_sort"] ["_law_stream_here", "_law_kind_here", "_law_letters_here", "_law_sort"] (defScope s__law_thing) := ⟨rfl, rfl, rfl, by decide +kernel, rfl, by decide +kernel, by decide +kernel⟩
theorem sc__law_things : FnScope ["_law_stream_here", "_law_kind_here", "_law_letters_here", "_law_sort", "_law_none_here", "_law_many", "_law_row", "_law_k", "_law_way", "_law_thing_here"] ["_law_stream_here", "_law_kind_here", "_law_letters_here", "_law_sort", "_law_none_here", "_law_many"] (defScope s__law_things) := ⟨rfl, rfl, rfl, by decide +kernel, rfl, by decide +kernel, by decide +kernel⟩
theorem sc__law_field_told : FnScope ["_law_field_here", "_law_due", "_law_sort", "_law_none_here", "_law_grid_here", "_law_row", "_law_size", "_law_piece", "_law_full", "_law_key", "_law_thing_here", "_law_told", "_law_flag"] ["_law_field_here", "_law_due", "_law_sort", "_law_none_here", "_law_grid_here", "_law_row"] (defScope s__law_field_told) := ⟨rfl, rfl, rfl, by decide +kernel, rfl, by decide +kernel, by decide +kernel⟩
theorem sc__law_no_field : FnScope ["_law_none_here", "_law_pieces", "_law_place", "_law_told", "e", "_law_others"] ["_law_none_here", "_law_pieces", "_law_place"] (defScope s__law_no_field) := ⟨rfl, rfl, rfl, by decide +kernel, rfl, by decide +kernel, by decide +kernel⟩
theorem sc__law_no_key_of : FnScope ["_law_field_here", "_law_key", "_law_way", "_law_told", "e"] ["_law_field_here", "_law_key", "_law_way"] (defScope s__law_no_key_of) := ⟨rfl, rfl, rfl, by decide +kernel, rfl, by decide +kernel, by decide +kernel⟩
theorem sc_law : FnScope ["_law_script", "_law_stream_here", "_law_kind_here", "_law_letters_here", "_law_grid_here", "_law_sort", "_law_none_here", "_law_row", "_law_pieces", "_law_more", "_law_odd", "_law_bad", "_law_place", "_law_key", "_law_handed", "_law_field_here", "_law_due", "_law_turn", "_law_spoilt", "_law_tail", "_law_told"] ["_law_script"] (defScope s_law) := ⟨rfl, rfl, rfl, by decide +kernel, rfl, by decide +kernel, by decide +kernel⟩
theorem sci_KeyFault : NdefX.NScope ["self", "key", "__class__"] ["self", "key"] ["__class__"] (defScope si_KeyFault) := NdefX.nscope_by (by decide +kernel)
theorem sci_PlaceFault : NdefX.NScope ["self", "place", "__class__"] ["self", "place"] ["__class__"] (defScope si_PlaceFault) := NdefX.nscope_by (by decide +kernel)
/-! ### the addresses and what the top has written -/
structure Ad where
  f_shown : Addr
  fd_shown : FuncData
  f_is_whole : Addr
  fd_is_whole : FuncData
  f_in_one_form : Addr
  fd_in_one_form : FuncData
  f_Field__neutral : Addr
  fd_Field__neutral : FuncData
  f_Field__size : Addr
  fd_Field__size : FuncData
  f_Field__pieces : Addr
  fd_Field__pieces : FuncData
  f_Field____eq__ : Addr
  fd_Field____eq__ : FuncData
  f_Field____len__ : Addr
  fd_Field____len__ : FuncData
  f_Field____iter__ : Addr
  fd_Field____iter__ : FuncData
  f__law_stream : Addr
  fd__law_stream : FuncData
  f__law_mixed : Addr
  fd__law_mixed : FuncData
  f__law_plain : Addr
  fd__law_plain : FuncData
  f__law_normal : Addr
  fd__law_normal : FuncData
  f__law_field : Addr
  fd__law_field : FuncData
  f__law_is_number : Addr
  fd__law_is_number : FuncData
  f__law_thing_at : Addr
  fd__law_thing_at : FuncData
  f__law_look_keys : Addr
  fd__law_look_keys : FuncData
  f_is_key : Addr
  fd_is_key : FuncData
  f_is_stretch : Addr
  fd_is_stretch : FuncData
  f__law_draw : Addr
  fd__law_draw : FuncData
  f__law_is_word : Addr
  fd__law_is_word : FuncData
  f__law_pick : Addr
  fd__law_pick : FuncData
  f__law_is_effect : Addr
  fd__law_is_effect : FuncData
  f_check_key : Addr
  fd_check_key : FuncData
  f_check_pieces : Addr
  fd_check_pieces : FuncData
  f__law_kind : Addr
  fd__law_kind : FuncData
  f__law_letters : Addr
  fd__law_letters : FuncData
  f__law_raw : Addr
  fd__law_raw : FuncData
  f__law_grid : Addr
  fd__law_grid : FuncData
  f__law_none : Addr
  fd__law_none : FuncData
  f__law_loose_pieces : Addr
  fd__law_loose_pieces : FuncData
  f__law_good_thing : Addr
  fd__law_good_thing : FuncData
  f_Field____init__ : Addr
  fd_Field____init__ : FuncData
  f_Field__at : Addr
  fd_Field__at : FuncData
  f__law_effect : Addr
  fd__law_effect : FuncData
  f__law_told_pieces : Addr
  fd__law_told_pieces : FuncData
  f_Field____contains__ : Addr
  fd_Field____contains__ : FuncData
  f__law_thing : Addr
  fd__law_thing : FuncData
  f__law_things : Addr
  fd__law_things : FuncData
  f__law_field_told : Addr
  fd__law_field_told : FuncData
  f__law_no_field : Addr
  fd__law_no_field : FuncData
  f__law_no_key_of : Addr
  fd__law_no_key_of : FuncData
  f_law : Addr
  fd_law : FuncData
  c_StoreError : Addr
  c_KeyFault : Addr
  c_PlaceFault : Addr
  c_BadKey : Addr
  c_BadWord : Addr
  c_BadEffect : Addr
  c_BadStretch : Addr
  c_BadField : Addr
  c_BadBatch : Addr
  c_Field : Addr
  i_KeyFault : Addr
  fdi_KeyFault : FuncData
  i_PlaceFault : Addr
  fdi_PlaceFault : FuncData
  e_Field____init___0 : Addr
  pa_Field__neutral : Addr
  pa_Field__size : Addr
structure Txt (P : Program) (K : PySem.W.Frag) (mg : Str → Option Value) (A' : Ad) : Prop where
  F_shown : Hk.Fn K "shown" s_shown [] A'.f_shown A'.fd_shown
  g_shown : mg "shown" = some (.ref A'.f_shown)
  b_shown : Binds K A'.fd_shown ["value"] []
  F_is_whole : Hk.Fn K "is_whole" s_is_whole [] A'.f_is_whole A'.fd_is_whole
  g_is_whole : mg "is_whole" = some (.ref A'.f_is_whole)
  b_is_whole : Binds K A'.fd_is_whole ["thing"] []
  F_in_one_form : Hk.Fn K "in_one_form" s_in_one_form [] A'.f_in_one_form A'.fd_in_one_form
  g_in_one_form : mg "in_one_form" = some (.ref A'.f_in_one_form)
  b_in_one_form : Binds K A'.fd_in_one_form ["neutral", "pieces"] []
  F_Field__neutral : Hk.FnM K "neutral" "Field.neutral" s_Field__neutral [] A'.f_Field__neutral A'.fd_Field__neutral
  pr_Field__neutral : PropOf K A'.c_Field "neutral" A'.pa_Field__neutral A'.f_Field__neutral
  b_Field__neutral : Binds K A'.fd_Field__neutral ["self"] []
  F_Field__size : Hk.FnM K "size" "Field.size" s_Field__size [] A'.f_Field__size A'.fd_Field__size
  pr_Field__size : PropOf K A'.c_Field "size" A'.pa_Field__size A'.f_Field__size
  b_Field__size : Binds K A'.fd_Field__size ["self"] []
  F_Field__pieces : Hk.FnM K "pieces" "Field.pieces" s_Field__pieces [] A'.f_Field__pieces A'.fd_Field__pieces
  me_Field__pieces : Meth K A'.c_Field "pieces" A'.f_Field__pieces
  b_Field__pieces : Binds K A'.fd_Field__pieces ["self"] []
  F_Field____eq__ : Hk.FnM K "__eq__" "Field.__eq__" s_Field____eq__ [] A'.f_Field____eq__ A'.fd_Field____eq__
  me_Field____eq__ : Meth K A'.c_Field "__eq__" A'.f_Field____eq__
  b_Field____eq__ : Binds K A'.fd_Field____eq__ ["self", "other"] []
  F_Field____len__ : Hk.FnM K "__len__" "Field.__len__" s_Field____len__ [] A'.f_Field____len__ A'.fd_Field____len__
  me_Field____len__ : Meth K A'.c_Field "__len__" A'.f_Field____len__
  b_Field____len__ : Binds K A'.fd_Field____len__ ["self"] []
  F_Field____iter__ : Hk.FnM K "__iter__" "Field.__iter__" s_Field____iter__ [] A'.f_Field____iter__ A'.fd_Field____iter__
  me_Field____iter__ : Meth K A'.c_Field "__iter__" A'.f_Field____iter__
  b_Field____iter__ : Binds K A'.fd_Field____iter__ ["self"] []
  F__law_stream : Hk.Fn K "_law_stream" s__law_stream [] A'.f__law_stream A'.fd__law_stream
  g__law_stream : mg "_law_stream" = some (.ref A'.f__law_stream)
  b__law_stream : Binds K A'.fd__law_stream ["_law_script"] []
  F__law_mixed : Hk.Fn K "_law_mixed" s__law_mixed [] A'.f__law_mixed A'.fd__law_mixed
  g__law_mixed : mg "_law_mixed" = some (.ref A'.f__law_mixed)
  b__law_mixed : Binds K A'.fd__law_mixed ["_law_cell", "_law_place"] []
  F__law_plain : Hk.Fn K "_law_plain" s__law_plain [] A'.f__law_plain A'.fd__law_plain
  g__law_plain : mg "_law_plain" = some (.ref A'.f__law_plain)
  b__law_plain : Binds K A'.fd__law_plain ["_law_kind_here", "_law_word"] []
  F__law_normal : Hk.Fn K "_law_normal" s__law_normal [] A'.f__law_normal A'.fd__law_normal
  g__law_normal : mg "_law_normal" = some (.ref A'.f__law_normal)
  b__law_normal : Binds K A'.fd__law_normal ["_law_kind_here", "_law_effect_here"] []
  F__law_field : Hk.Fn K "_law_field" s__law_field [] A'.f__law_field A'.fd__law_field
  g__law_field : mg "_law_field" = some (.ref A'.f__law_field)
  b__law_field : Binds K A'.fd__law_field ["_law_grid_here", "_law_row", "_law_none_here"] []
  F__law_is_number : Hk.Fn K "_law_is_number" s__law_is_number [] A'.f__law_is_number A'.fd__law_is_number
  g__law_is_number : mg "_law_is_number" = some (.ref A'.f__law_is_number)
  b__law_is_number : Binds K A'.fd__law_is_number ["_law_thing_here"] []
  F__law_thing_at : Hk.Fn K "_law_thing_at" s__law_thing_at [] A'.f__law_thing_at A'.fd__law_thing_at
  g__law_thing_at : mg "_law_thing_at" = some (.ref A'.f__law_thing_at)
  b__law_thing_at : Binds K A'.fd__law_thing_at ["_law_grid_here", "_law_row", "_law_none_here", "_law_key"] []
  F__law_look_keys : Hk.Fn K "_law_look_keys" s__law_look_keys [] A'.f__law_look_keys A'.fd__law_look_keys
  g__law_look_keys : mg "_law_look_keys" = some (.ref A'.f__law_look_keys)
  b__law_look_keys : Binds K A'.fd__law_look_keys ["_law_grid_here"] []
  F_is_key : Hk.Fn K "is_key" s_is_key [] A'.f_is_key A'.fd_is_key
  g_is_key : mg "is_key" = some (.ref A'.f_is_key)
  b_is_key : Binds K A'.fd_is_key ["thing"] []
  F_is_stretch : Hk.Fn K "is_stretch" s_is_stretch [] A'.f_is_stretch A'.fd_is_stretch
  g_is_stretch : mg "is_stretch" = some (.ref A'.f_is_stretch)
  b_is_stretch : Binds K A'.fd_is_stretch ["thing"] []
  F__law_draw : Hk.Fn K "_law_draw" s__law_draw [] A'.f__law_draw A'.fd__law_draw
  g__law_draw : mg "_law_draw" = some (.ref A'.f__law_draw)
  b__law_draw : Binds K A'.fd__law_draw ["_law_stream_here", "_law_many"] []
  F__law_is_word : Hk.Fn K "_law_is_word" s__law_is_word [] A'.f__law_is_word A'.fd__law_is_word
  g__law_is_word : mg "_law_is_word" = some (.ref A'.f__law_is_word)
  b__law_is_word : Binds K A'.fd__law_is_word ["_law_thing_here"] []
  F__law_pick : Hk.Fn K "_law_pick" s__law_pick [] A'.f__law_pick A'.fd__law_pick
  g__law_pick : mg "_law_pick" = some (.ref A'.f__law_pick)
  b__law_pick : Binds K A'.fd__law_pick ["_law_stream_here", "_law_many"] []
  F__law_is_effect : Hk.Fn K "_law_is_effect" s__law_is_effect [] A'.f__law_is_effect A'.fd__law_is_effect
  g__law_is_effect : mg "_law_is_effect" = some (.ref A'.f__law_is_effect)
  b__law_is_effect : Binds K A'.fd__law_is_effect ["_law_thing_here"] []
  F_check_key : Hk.Fn K "check_key" s_check_key [] A'.f_check_key A'.fd_check_key
  g_check_key : mg "check_key" = some (.ref A'.f_check_key)
  b_check_key : Binds K A'.fd_check_key ["key"] []
  F_check_pieces : Hk.Fn K "check_pieces" s_check_pieces [] A'.f_check_pieces A'.fd_check_pieces
  g_check_pieces : mg "check_pieces" = some (.ref A'.f_check_pieces)
  b_check_pieces : Binds K A'.fd_check_pieces ["pieces"] []
  F__law_kind : Hk.Fn K "_law_kind" s__law_kind [] A'.f__law_kind A'.fd__law_kind
  g__law_kind : mg "_law_kind" = some (.ref A'.f__law_kind)
  b__law_kind : Binds K A'.fd__law_kind ["_law_stream_here"] []
  F__law_letters : Hk.Fn K "_law_letters" s__law_letters [] A'.f__law_letters A'.fd__law_letters
  g__law_letters : mg "_law_letters" = some (.ref A'.f__law_letters)
  b__law_letters : Binds K A'.fd__law_letters ["_law_stream_here"] []
  F__law_raw : Hk.Fn K "_law_raw" s__law_raw [] A'.f__law_raw A'.fd__law_raw
  g__law_raw : mg "_law_raw" = some (.ref A'.f__law_raw)
  b__law_raw : Binds K A'.fd__law_raw ["_law_stream_here", "_law_letters_here"] []
  F__law_grid : Hk.Fn K "_law_grid" s__law_grid [] A'.f__law_grid A'.fd__law_grid
  g__law_grid : mg "_law_grid" = some (.ref A'.f__law_grid)
  b__law_grid : Binds K A'.fd__law_grid ["_law_stream_here", "_law_upper"] []
  F__law_none : Hk.Fn K "_law_none" s__law_none [] A'.f__law_none A'.fd__law_none
  g__law_none : mg "_law_none" = some (.ref A'.f__law_none)
  b__law_none : Binds K A'.fd__law_none ["_law_stream_here", "_law_letters_here", "_law_sort"] []
  F__law_loose_pieces : Hk.Fn K "_law_loose_pieces" s__law_loose_pieces [] A'.f__law_loose_pieces A'.fd__law_loose_pieces
  g__law_loose_pieces : mg "_law_loose_pieces" = some (.ref A'.f__law_loose_pieces)
  b__law_loose_pieces : Binds K A'.fd__law_loose_pieces ["_law_stream_here", "_law_grid_here", "_law_row", "_law_none_here"] []
  F__law_good_thing : Hk.Fn K "_law_good_thing" s__law_good_thing [] A'.f__law_good_thing A'.fd__law_good_thing
  g__law_good_thing : mg "_law_good_thing" = some (.ref A'.f__law_good_thing)
  b__law_good_thing : Binds K A'.fd__law_good_thing ["_law_thing_here", "_law_sort"] []
  F_Field____init__ : Hk.FnM K "__init__" "Field.__init__" s_Field____init__ [.ref A'.e_Field____init___0] A'.f_Field____init__ A'.fd_Field____init__
  me_Field____init__ : Meth K A'.c_Field "__init__" A'.f_Field____init__
  b_Field____init__ : Binds K A'.fd_Field____init__ ["self", "neutral", "pieces"] []
  F_Field__at : Hk.FnM K "at" "Field.at" s_Field__at [] A'.f_Field__at A'.fd_Field__at
  me_Field__at : Meth K A'.c_Field "at" A'.f_Field__at
  b_Field__at : Binds K A'.fd_Field__at ["self", "key"] []
  F__law_effect : Hk.Fn K "_law_effect" s__law_effect [] A'.f__law_effect A'.fd__law_effect
  g__law_effect : mg "_law_effect" = some (.ref A'.f__law_effect)
  b__law_effect : Binds K A'.fd__law_effect ["_law_stream_here", "_law_kind_here", "_law_letters_here"] []
  F__law_told_pieces : Hk.Fn K "_law_told_pieces" s__law_told_pieces [] A'.f__law_told_pieces A'.fd__law_told_pieces
  g__law_told_pieces : mg "_law_told_pieces" = some (.ref A'.f__law_told_pieces)
  b__law_told_pieces : Binds K A'.fd__law_told_pieces ["_law_told", "_law_due", "_law_sort"] []
  F_Field____contains__ : Hk.FnM K "__contains__" "Field.__contains__" s_Field____contains__ [] A'.f_Field____contains__ A'.fd_Field____contains__
  me_Field____contains__ : Meth K A'.c_Field "__contains__" A'.f_Field____contains__
  b_Field____contains__ : Binds K A'.fd_Field____contains__ ["self", "key"] []
  F__law_thing : Hk.Fn K "_law_thing" s__law_thing [] A'.f__law_thing A'.fd__law_thing
  g__law_thing : mg "_law_thing" = some (.ref A'.f__law_thing)
  b__law_thing : Binds K A'.fd__law_thing ["_law_stream_here", "_law_kind_here", "_law_letters_here", "_law_sort"] []
  F__law_things : Hk.Fn K "_law_things" s__law_things [] A'.f__law_things A'.fd__law_things
  g__law_things : mg "_law_things" = some (.ref A'.f__law_things)
  b__law_things : Binds K A'.fd__law_things ["_law_stream_here", "_law_kind_here", "_law_letters_here", "_law_sort", "_law_none_here", "_law_many"] []
  F__law_field_told : Hk.Fn K "_law_field_told" s__law_field_told [] A'.f__law_field_told A'.fd__law_field_told
  g__law_field_told : mg "_law_field_told" = some (.ref A'.f__law_field_told)
  b__law_field_told : Binds K A'.fd__law_field_told ["_law_field_here", "_law_due", "_law_sort", "_law_none_here", "_law_grid_here", "_law_row"] []
  F__law_no_field : Hk.Fn K "_law_no_field" s__law_no_field [] A'.f__law_no_field A'.fd__law_no_field
  g__law_no_field : mg "_law_no_field" = some (.ref A'.f__law_no_field)
  b__law_no_field : Binds K A'.fd__law_no_field ["_law_none_here", "_law_pieces", "_law_place"] []
  F__law_no_key_of : Hk.Fn K "_law_no_key_of" s__law_no_key_of [] A'.f__law_no_key_of A'.fd__law_no_key_of
  g__law_no_key_of : mg "_law_no_key_of" = some (.ref A'.f__law_no_key_of)
  b__law_no_key_of : Binds K A'.fd__law_no_key_of ["_law_field_here", "_law_key", "_law_way"] []
  F_law : Hk.Fn K "law" s_law [] A'.f_law A'.fd_law
  g_law : mg "law" = some (.ref A'.f_law)
  b_law : Binds K A'.fd_law ["_law_script"] []
  dd1_Field____init__ : ∃ ds : List Value, Binds K A'.fd_Field____init__ ["self", "neutral", "pieces"] ds ∧ Vals [.ref A'.e_Field____init___0] ds
  z_abs : mg "abs" = none
  z_all : mg "all" = none
  z_bool : mg "bool" = none
  z_enumerate : mg "enumerate" = none
  z_int : mg "int" = none
  z_isinstance : mg "isinstance" = none
  z_iter : mg "iter" = none
  z_len : mg "len" = none
  z_list : mg "list" = none
  z_range : mg "range" = none
  z_repr : mg "repr" = none
  z_set : mg "set" = none
  z_sorted : mg "sorted" = none
  z_str : mg "str" = none
  z_sum : mg "sum" = none
  z_super : mg "super" = none
  z_tuple : mg "tuple" = none
  c_TOP : ∃ t, mg "TOP" = some (.int 1000000 t)
  m_StoreError : mg "StoreError" = some (.ref A'.c_StoreError)
  m_KeyFault : mg "KeyFault" = some (.ref A'.c_KeyFault)
  m_PlaceFault : mg "PlaceFault" = some (.ref A'.c_PlaceFault)
  m_BadKey : mg "BadKey" = some (.ref A'.c_BadKey)
  m_BadWord : mg "BadWord" = some (.ref A'.c_BadWord)
  m_BadEffect : mg "BadEffect" = some (.ref A'.c_BadEffect)
  m_BadStretch : mg "BadStretch" = some (.ref A'.c_BadStretch)
  m_BadField : mg "BadField" = some (.ref A'.c_BadField)
  m_BadBatch : mg "BadBatch" = some (.ref A'.c_BadBatch)
  m_Field : mg "Field" = some (.ref A'.c_Field)
  cl_Field : Cls K A'.c_Field
  mi_Field : Mk K A'.c_Field A'.f_Field____init__
  ow_Field : Hm.OwnT K A'.c_Field
  nb_Field : PySem.W.findIn K (.ref A'.c_Field) "__bool__" = some none
  na_Field__neutral : NoAttr K A'.c_Field "_neutral"
  na_Field__pieces : NoAttr K A'.c_Field "_pieces"
  em_Field____init___0 : ∀ H : Hp, SqT K H A'.e_Field____init___0 []
  it_Field : Hm.InsT K A'.c_Field
  ki_Field_Field : PySem.W.kitOne K (.ref A'.c_Field) (.ref A'.c_Field) = some true
  S_KeyFault : Sup.SupF P K A'.c_KeyFault A'.i_KeyFault "KeyFault.__init__" (defArgs si_KeyFault) (defBody si_KeyFault) (defScope si_KeyFault) A'.fdi_KeyFault
  S_PlaceFault : Sup.SupF P K A'.c_PlaceFault A'.i_PlaceFault "PlaceFault.__init__" (defArgs si_PlaceFault) (defBody si_PlaceFault) (defScope si_PlaceFault) A'.fdi_PlaceFault
  bi_KeyFault : Binds K A'.fdi_KeyFault ["self", "key"] []
  bi_PlaceFault : Binds K A'.fdi_PlaceFault ["self", "place"] []
  s_BadField : Sup.SupC K A'.c_BadField A'.c_PlaceFault "place"
  i_BadField : PySem.W.findIn K (.ref A'.c_BadField) "__init__" = some (some (.ref A'.i_PlaceFault))
  x_BadField : Lk.ExD K A'.c_BadField
  y_BadField : XfC K A'.c_BadField
  e_BadField : PySem.W.exmOne K (.ref A'.c_BadField) (.ref A'.c_BadField) = some true
  s_BadKey : Sup.SupC K A'.c_BadKey A'.c_KeyFault "key"
  i_BadKey : PySem.W.findIn K (.ref A'.c_BadKey) "__init__" = some (some (.ref A'.i_KeyFault))
  x_BadKey : Lk.ExD K A'.c_BadKey
  y_BadKey : XfC K A'.c_BadKey
  e_BadKey : PySem.W.exmOne K (.ref A'.c_BadKey) (.ref A'.c_BadKey) = some true
  k_BadField_StoreError : PySem.W.kitOne K (.ref A'.c_BadField) (.ref A'.c_StoreError) = some true
  k_BadField_KeyFault : PySem.W.kitOne K (.ref A'.c_BadField) (.ref A'.c_KeyFault) = some false
  k_BadField_PlaceFault : PySem.W.kitOne K (.ref A'.c_BadField) (.ref A'.c_PlaceFault) = some true
  k_BadField_BadKey : PySem.W.kitOne K (.ref A'.c_BadField) (.ref A'.c_BadKey) = some false
  k_BadField_BadWord : PySem.W.kitOne K (.ref A'.c_BadField) (.ref A'.c_BadWord) = some false
  k_BadField_BadEffect : PySem.W.kitOne K (.ref A'.c_BadField) (.ref A'.c_BadEffect) = some false
  k_BadField_BadStretch : PySem.W.kitOne K (.ref A'.c_BadField) (.ref A'.c_BadStretch) = some false
  k_BadField_BadBatch : PySem.W.kitOne K (.ref A'.c_BadField) (.ref A'.c_BadBatch) = some false
  k_BadKey_StoreError : PySem.W.kitOne K (.ref A'.c_BadKey) (.ref A'.c_StoreError) = some true
  k_BadKey_KeyFault : PySem.W.kitOne K (.ref A'.c_BadKey) (.ref A'.c_KeyFault) = some true
  k_BadKey_PlaceFault : PySem.W.kitOne K (.ref A'.c_BadKey) (.ref A'.c_PlaceFault) = some false
  k_BadKey_BadWord : PySem.W.kitOne K (.ref A'.c_BadKey) (.ref A'.c_BadWord) = some false
  k_BadKey_BadEffect : PySem.W.kitOne K (.ref A'.c_BadKey) (.ref A'.c_BadEffect) = some false
  k_BadKey_BadStretch : PySem.W.kitOne K (.ref A'.c_BadKey) (.ref A'.c_BadStretch) = some false
  k_BadKey_BadField : PySem.W.kitOne K (.ref A'.c_BadKey) (.ref A'.c_BadField) = some false
  k_BadKey_BadBatch : PySem.W.kitOne K (.ref A'.c_BadKey) (.ref A'.c_BadBatch) = some false
section
variable {P : Program} {w : World} {K : PySem.W.Frag} {mg : Str → Option Value} {base : Heap} {A' : Ad}
/-! ### shown -/
def shOk (d : PyData) : Prop := (∀ x, d = .str x → x.length < 60 → (reprText x).length ≤ 100000) ∧ ∀ x, d = .str x → x.length ≤ sizeLine
def sp_shown (K : PySem.W.Frag) : Sp := fun vs H Q _ => ∃ (v : V) (d : PyData), vs = [v] ∧ Dp K H v d ∧ shOk d ∧ ∀ y : Str, y.length ≤ 100000 → Q (.str y) H
theorem ok_shown (T : Txt P K mg A') : FnOk P w K mg base CX0 1 A'.f_shown A'.fd_shown ["value"] (sp_shown K) := by
  refine Hk.okN T.F_shown sc_shown (fun vs H Q E h => ?_) (fun cdv A outer s H vs Q E hr h => ?_)
  · obtain ⟨v, d, rfl, _⟩ := h
    rfl
  · obtain ⟨v, d, rfl, hd, ⟨hs, hl⟩, k⟩ := h
    refine ⟨_, (pss_cons (ps_if (PW.pt (pw_or (pt_cmpR op_isN (pv 0) pe_non (nomark _)) (pw_or1 (pt_val (pe_callB call_isD (by rfl) T.z_isinstance (by decide +kernel) (pa_cons (pv 0) (pa_cons (pe_bltn (v := .ty "bool") (by rfl) T.z_bool (by decide +kernel) rfl) pa_nil))))))) (pss_one (ps_ret (pe_callTy (Lk.CallR.or Lk.call_str_none (Lk.CallR.or Lk.call_str_bool call_str_int)) (by rfl) T.z_str (by decide +kernel) (pa_cons (pv 0) pa_nil)))) pss_nil)
    (pss_cons (ps_if (PW.pt (pw_and (pt_val (pe_callB call_isD (by rfl) T.z_isinstance (by decide +kernel) (pa_cons (pv 0) (pa_cons (pe_bltn (v := .ty "int") (by rfl) T.z_int (by decide +kernel) rfl) pa_nil)))) (pw_and1 (pt_cmpR op_lt (pe_callB call_abs (by rfl) T.z_abs (by decide +kernel) (pa_cons (pv 0) pa_nil)) (pe_op op_pow pe_int pe_int) (nomark _))))) (pss_one (ps_ret (pe_callTy (Lk.CallR.or Lk.call_str_none (Lk.CallR.or Lk.call_str_bool call_str_int)) (by rfl) T.z_str (by decide +kernel) (pa_cons (pv 0) pa_nil)))) pss_nil)
    (pss_cons (ps_if (PW.pt (pw_and (pt_val (pe_callB call_isD (by rfl) T.z_isinstance (by decide +kernel) (pa_cons (pv 0) (pa_cons (pe_bltn (v := .ty "str") (by rfl) T.z_str (by decide +kernel) rfl) pa_nil)))) (pw_and1 (pt_cmpR op_lt (pe_callB call_len_str (by rfl) T.z_len (by decide +kernel) (pa_cons (pv 0) pa_nil)) pe_int (nomark _))))) (pss_one (ps_ret (pe_callB call_repr_str (by rfl) T.z_repr (by decide +kernel) (pa_cons (pv 0) pa_nil)))) pss_nil)
    (pss_one (ps_ret pe_str))))), ?_⟩
    have hd' := hd
    have klast : ∀ H', H' = H → Q (.str "of another form") H' := fun H' e => by rw [e]; exact k _ (by decide)
    cases hd with
    | non =>
      refine ⟨_, rfl, rfl, _, rfl, ?_⟩
      refine ifT rfl ?_
      refine ifT rfl ?_
      exact ⟨_, rfl, .inl ⟨rfl, k _ (by decide)⟩⟩
    | bl b =>
      refine ⟨_, rfl, rfl, _, rfl, ?_⟩
      refine ifF rfl ?_
      refine ⟨_, rfl, _, _, _, rfl, okT_bool, hd', _, rfl, ?_⟩
      refine ifT (isI_bool_bool b) ?_
      exact ⟨_, rfl, .inr (.inl ⟨_, rfl, k _ (by cases b <;> decide)⟩)⟩
    | int i =>
      refine ⟨_, rfl, rfl, _, rfl, ?_⟩
      refine ifF rfl ?_
      refine ⟨_, rfl, _, _, _, rfl, okT_bool, hd', _, rfl, ?_⟩
      refine ifF (isI_bool_int i) ?_
      refine ⟨_, rfl, _, _, _, rfl, okT_int, hd', _, rfl, ?_⟩
      refine ifT (isI_int_int i) ?_
      refine ⟨_, rfl, _, rfl, _, _, rfl, rfl, ⟨by decide, by decide, by decide⟩, _, _, rfl, rfl, _, rfl, ?_⟩
      refine if2 (fun c => ?_) (fun c => ?_)
      · have c' : (if i < 0 then -i else i) < 1000000000000 := of_decide_eq_true c
        have hb : i.natAbs < 10 ^ 12 := by omega
        refine ⟨_, rfl, .inr (.inr ⟨_, rfl, log_int (Nat.lt_trans hb (by decide)), k _ ?_⟩)⟩
        have := len_int (k := 12) (by decide) hb
        omega
      · refine ⟨_, rfl, _, _, _, rfl, okT_str, hd', _, rfl, ?_⟩
        refine ifF (isI_str_int i) ?_
        exact klast _ rfl
    | str x =>
      refine ⟨_, rfl, rfl, _, rfl, ?_⟩
      refine ifF rfl ?_
      refine ⟨_, rfl, _, _, _, rfl, okT_bool, hd', _, rfl, ?_⟩
      refine ifF (isI_bool_str x) ?_
      refine ⟨_, rfl, _, _, _, rfl, okT_int, hd', _, rfl, ?_⟩
      refine ifF (isI_int_str x) ?_
      refine ⟨_, rfl, _, _, _, rfl, okT_str, hd', _, rfl, ?_⟩
      refine ifT (isI_str_str x) ?_
      refine ⟨_, rfl, _, rfl, hl x rfl, _, _, rfl, rfl, _, rfl, ?_⟩
      refine if2 (fun c => ?_) (fun c => ?_)
      · have c' : ((x.length : Nat) : Int) < 60 := of_decide_eq_true c
        have hb := hs x rfl (by omega)
        exact ⟨_, rfl, _, rfl, Nat.le_trans hb (by decide), k _ hb⟩
      · exact klast _ rfl
    | lst h1 h2 =>
      refine ⟨_, rfl, rfl, _, rfl, ?_⟩
      refine ifF rfl ?_
      refine ⟨_, rfl, _, _, _, rfl, okT_bool, hd', _, rfl, ?_⟩
      refine ifF (isI_bool_list _) ?_
      refine ⟨_, rfl, _, _, _, rfl, okT_int, hd', _, rfl, ?_⟩
      refine ifF (isI_int_list _) ?_
      refine ⟨_, rfl, _, _, _, rfl, okT_str, hd', _, rfl, ?_⟩
      refine ifF (isI_str_list _) ?_
      exact klast _ rfl
    | tup h1 h2 =>
      refine ⟨_, rfl, rfl, _, rfl, ?_⟩
      refine ifF rfl ?_
      refine ⟨_, rfl, _, _, _, rfl, okT_bool, hd', _, rfl, ?_⟩
      refine ifF (isI_bool_tuple _) ?_
      refine ⟨_, rfl, _, _, _, rfl, okT_int, hd', _, rfl, ?_⟩
      refine ifF (isI_int_tuple _) ?_
      refine ⟨_, rfl, _, _, _, rfl, okT_str, hd', _, rfl, ?_⟩
      refine ifF (isI_str_tuple _) ?_
      exact klast _ rfl
theorem ok_init_KeyFault (T : Txt P K mg A') : FnOk P w K mg base CX0 2 A'.i_KeyFault A'.fdi_KeyFault ["self", "key"] (Sup.spSup K A'.c_KeyFault "key" (fun v H => ∃ d, Dp K H v d ∧ shOk d)) := by
  refine Sup.fn_sup (te := fun σ H Q => tJs [tC (.str "key "), tFmt (tCall (sp_shown K) [] E0 (tCons (tVar 1) tNil))] Str.empty σ H fun out H1 => Q (.str out) H1) T.S_KeyFault sci_KeyFault (by decide +kernel) T.z_super rfl rfl (by decide +kernel) (by decide +kernel) (fun _ => rfl) (fun _ => rfl) (fun _ => rfl) (fun _ => rfl) (fun X e1 e2 e3 e4 e5 hN hsc hc hr => ?_) (fun a v H Q hp hq => ?_)
  case refine_1 =>
    subst e1 e2 e3 e4 e5
    have hv : Vis X.env.scope "key" := by rw [hsc]; exact Or.inl (by decide +kernel)
    have hg : Gl X "shown" := by
      show X.env.scope.names.lookup ("shown" : Str) = some .globalImplicit
      rw [hsc]; decide +kernel
    exact pe_joined (PJ.cons pe_str (PJ.cons (pe_fmt (pe_call (ok_shown T) hr hg T.g_shown T.F_shown.kp T.b_shown .nil pass0 (pa_cons (pe_var (i := 1) (by rw [hN] <;> rfl) hv (by decide +kernel) (by decide +kernel)) pa_nil))) PJ.nil))
  case refine_2 =>
    obtain ⟨d, hd, hs⟩ := hp
    refine ⟨_, rfl, by decide, _, rfl, v, d, rfl, hd, hs, fun y hy => ?_⟩
    have hz : (Str.empty ++ Str.ofString "key " ++ y).length ≤ sizeLine := by
      rw [strLen_append]
      have e : (Str.empty ++ Str.ofString "key ").length ≤ 100 := by decide +kernel
      have e2 : sizeLine = 16777216 := sizeLine_eq
      omega
    exact .inl ⟨y, rfl, Nat.le_trans hy (by decide), y, rfl, hz, hq _ hz⟩

theorem ok_init_PlaceFault (T : Txt P K mg A') : FnOk P w K mg base CX0 2 A'.i_PlaceFault A'.fdi_PlaceFault ["self", "place"] (Sup.spSup K A'.c_PlaceFault "place" (fun v H => ∃ d, Dp K H v d ∧ shOk d)) := by
  refine Sup.fn_sup (te := fun σ H Q => tJs [tC (.str "place "), tFmt (tCall (sp_shown K) [] E0 (tCons (tVar 1) tNil))] Str.empty σ H fun out H1 => Q (.str out) H1) T.S_PlaceFault sci_PlaceFault (by decide +kernel) T.z_super rfl rfl (by decide +kernel) (by decide +kernel) (fun _ => rfl) (fun _ => rfl) (fun _ => rfl) (fun _ => rfl) (fun X e1 e2 e3 e4 e5 hN hsc hc hr => ?_) (fun a v H Q hp hq => ?_)
  case refine_1 =>
    subst e1 e2 e3 e4 e5
    have hv : Vis X.env.scope "place" := by rw [hsc]; exact Or.inl (by decide +kernel)
    have hg : Gl X "shown" := by
      show X.env.scope.names.lookup ("shown" : Str) = some .globalImplicit
      rw [hsc]; decide +kernel
    exact pe_joined (PJ.cons pe_str (PJ.cons (pe_fmt (pe_call (ok_shown T) hr hg T.g_shown T.F_shown.kp T.b_shown .nil pass0 (pa_cons (pe_var (i := 1) (by rw [hN] <;> rfl) hv (by decide +kernel) (by decide +kernel)) pa_nil))) PJ.nil))
  case refine_2 =>
    obtain ⟨d, hd, hs⟩ := hp
    refine ⟨_, rfl, by decide, _, rfl, v, d, rfl, hd, hs, fun y hy => ?_⟩
    have hz : (Str.empty ++ Str.ofString "place " ++ y).length ≤ sizeLine := by
      rw [strLen_append]
      have e : (Str.empty ++ Str.ofString "place ").length ≤ 100 := by decide +kernel
      have e2 : sizeLine = 16777216 := sizeLine_eq
      omega
    exact .inl ⟨y, rfl, Nat.le_trans hy (by decide), y, rfl, hz, hq _ hz⟩

/-! ### is_whole -/
def sp_is_whole (K : PySem.W.Frag) : Sp := fun vs H Q _ => ∃ (v : V) (d : PyData), vs = [v] ∧ Dp K H v d ∧ Q (.bl (isW d)) H
theorem ok_is_whole (T : Txt P K mg A') : FnOk P w K mg base CX0 1 A'.f_is_whole A'.fd_is_whole ["thing"] (sp_is_whole K) := by
  refine Hk.okN T.F_is_whole sc_is_whole (fun vs H Q E h => ?_) (fun cdv A outer s H vs Q E hr h => ?_)
  · obtain ⟨v, d, rfl, _⟩ := h
    rfl
  · obtain ⟨v, d, rfl, hd, k⟩ := h
    refine ⟨_, (pss_one (ps_ret (pe_and (pe_callB call_isD (by rfl) T.z_isinstance (by decide +kernel) (pa_cons (pv 0) (pa_cons (pe_bltn (v := .ty "int") (by rfl) T.z_int (by decide +kernel) rfl) pa_nil))) (pe_one (pe_not (pe_callB call_isD (by rfl) T.z_isinstance (by decide +kernel) (pa_cons (pv 0) (pa_cons (pe_bltn (v := .ty "bool") (by rfl) T.z_bool (by decide +kernel) rfl) pa_nil)))))))), ?_⟩
    refine ⟨_, rfl, _, _, _, rfl, okT_int, hd, _, rfl, ?_⟩
    refine if2 (fun c => ?_) (fun c => ?_)
    · refine ⟨_, rfl, _, _, _, rfl, okT_bool, hd, _, rfl, ?_⟩
      unfold isW at k
      rw [c, Bool.true_and] at k
      exact k
    · unfold isW at k
      rw [c, Bool.false_and] at k
      exact k
/-! ### in_one_form -/
def sp_in_one_form (K : PySem.W.Frag) : Sp := fun vs H Q _ => ∃ (nv : V) (P : Addr) (xs : List V) (n : Tg) (ps : List Pt), vs = [nv, .ref P] ∧ Dp K H nv n.d ∧ Sq K H P xs ∧ DpAll K H xs (ps.map pcD) ∧ Srt n.s ps ∧ ps.length ≤ 900 ∧
  ∀ L ws H', H L = none → Same H H' → H' L = some (.lst ws) → DpAll K H' ws ((Fm.form n ps).map pcD) → Q (.ref L) H'
theorem ok_in_one_form (T : Txt P K mg A') : FnOk P w K mg base CX0 1 A'.f_in_one_form A'.fd_in_one_form ["neutral", "pieces"] (sp_in_one_form K) := by
  refine Hk.okN T.F_in_one_form sc_in_one_form (fun vs H Q E h => ?_) (fun cdv A outer s H vs Q E hr h => ?_)
  · obtain ⟨nv, P, xs, n, ps, rfl, _⟩ := h
    rfl
  · obtain ⟨nv, P, xs, n, ps, rfl, hn, hq, hds, hs, hl, k⟩ := h
    refine ⟨_, (pss_cons (ps_set (i := 2) sc_in_one_form.nd rfl (Or.inl rfl) (pe_lst pa_nil))
    (pss_cons (ps_for PassesOwn.never rfl (Kd.pi_or (pi_list (pv 1)) (pi_tup (pv 1))) (pg_tup (by rfl) (pgs_cons (pg_name (i := 3) sc_in_one_form.nd rfl (Or.inl rfl)) (pgs_cons (pg_name (i := 4) sc_in_one_form.nd rfl (Or.inl rfl)) (pgs_cons (pg_name (i := 5) sc_in_one_form.nd rfl (Or.inl rfl)) pgs_nil)))) (pss_cons (ps_if (pt_cmpR (op_eqD hr.units) (pv 5) (pv 0) (nomark _)) (pss_one ps_continue) pss_nil)
    (pss_one (ps_if (PW.pt (pw_and (pt_truth (pv 2) (by intro _; rfl)) (pw_and (pt_cmpR op_eq (pe_ix ix_tup (pe_ix ix_list (pv 2) (pe_un un_neg pe_int) (fun _ _ => rfl)) pe_int (fun _ _ => rfl)) (pv 3) (nomark _)) (pw_and1 (pt_cmpR (op_eqD hr.units) (pe_ix ix_tup (pe_ix ix_list (pv 2) (pe_un un_neg pe_int) (fun _ _ => rfl)) pe_int (fun _ _ => rfl)) (pv 5) (nomark _)))))) (pss_one (ps_asg (pe_tup (pa_cons (pe_ix ix_tup (pe_ix ix_list (pv 2) (pe_un un_neg pe_int) (fun _ _ => rfl)) pe_int (fun _ _ => rfl)) (pa_cons (pv 4) (pa_cons (pv 5) pa_nil)))) (pg_sub (pv 2) (pe_un un_neg pe_int) set_list))) (pss_one (ps_expr (pe_bm PySem.F.plainAttrs_list PySem.F.slot_list_append PySem.F.type_list_append mt_append (pv 2) (pa_cons (pe_tup (pa_cons (pv 3) (pa_cons (pv 4) (pa_cons (pv 5) pa_nil)))) pa_nil))))))))
    (pss_one (ps_ret (pv 2))))), ?_⟩
    refine ⟨Nat.zero_le _, fun L nL => ?_⟩
    have hle := dpa_lenM hds
    refine Mt.forB (xs := xs) (by rfl) hq (same_new nL) (fun i σ' H' => ∃ (o3 o4 o5 : Option V) (ws : List V), σ' = [some nv, some (.ref P), some (.ref L), o3, o4, o5] ∧ Same H H' ∧ H' L = some (.lst ws) ∧ DpAll K H' ws ((Fm.form n (ps.take i)).map pcD)) ⟨_, _, _, [], rfl, same_new nL, upd_same, .nil⟩ (fun i σ' H' ⟨_, _, _, _, _, s, _⟩ => s) ?_ ?_
    · rintro i x σ' H' hi ⟨o3, o4, o5, ws, rfl, s, hL, hd⟩
      obtain ⟨p, hp, hx⟩ := dpa_mapV (dpa_same s hds) hi
      obtain ⟨q, u, rfl, hq1, hu⟩ := pc_inv hx
      have hps := hs p (List.mem_of_getElem? hp)
      have et := take_map hp
      refine ⟨q, _, rfl, hq1, rfl, _, _, rfl, _, _, rfl, _, [], rfl, rfl, ?_⟩
      refine ⟨_, rfl, _, rfl, _, _, hu, dp_same s hn, tg_sh _, tg_sh _, _, rfl, ?_⟩
      rw [tg_eqv hps]
      refine if2 (fun c => ?_) (fun c => ?_)
      · have c' := of_decide_eq_true c
        exact ⟨_, _, _, ws, rfl, s, hL, by rw [et, Fm.form_app, Fm.push_neutral c']; exact hd⟩
      · have c' : p.2.2 ≠ n := of_decide_eq_false c
        have lw : ws.length ≤ 900 := by
          have h1 := dpa_lenM hd
          have h2 := Fm.form_len n (ps.take i)
          rw [List.length_take] at h2
          omega
        refine ⟨_, rfl, !ws.isEmpty, .inl ⟨ws, SqL.of hL, rfl⟩, ?_⟩
        rcases Fm.snoc_cases (Fm.form n (ps.take i)) with e | ⟨F, f, e⟩
        · rw [e] at hd
          cases hd
          refine ifF rfl ?_
          refine ifF rfl ?_
          refine ⟨_, rfl, .inl ⟨rfl, _, SqL.of hL⟩, _, rfl, _, rfl, _, rfl, (by show 3 ≤ sizeLine; decide), fun t nt => ?_⟩
          have nLt : L ≠ t := ne_of_none hL nt
          have sn := same_new (o := .tup [.int p.1, .int p.2.1, u]) nt
          refine ⟨L, _, _, rfl, rfl, (by rw [upd_ne nLt]; exact hL), by decide, ?_⟩
          refine ⟨_, _, _, _, rfl, same_mut (s.trans sn) nL, upd_same, ?_⟩
          rw [et, Fm.form_app, e, Fm.push_nil c']
          exact .cons (pc_mk (sqt_mut (by rw [upd_ne nLt]; exact hL) (.inl (.inl upd_same))) (tg_mut (by rw [upd_ne nLt]; exact hL) (dp_same sn hu))) .nil
        · rw [e, List.map_append] at hd
          obtain ⟨ws, w, rfl, hd1, hd2⟩ := dpa_snoc_inv hd
          obtain ⟨fq, fu, rfl, hf1, hfu⟩ := pc_inv hd2
          have hsf : f.2.2.s = p.2.2.s := by
            rw [hps]
            exact form_srt (fun p hp => hs p (List.mem_of_mem_take hp)) f (by rw [e]; simp)
          refine ifT (by simp) ?_
          refine ⟨_, rfl, 1, rfl, L, _, _, _, rfl, rfl, SqL.of hL, atI_last _ _, fq, _, _, _, rfl, rfl, hf1, rfl, _, rfl, rfl, _, rfl, ?_⟩
          have es := Fm.push_snoc (Q := F) (q := f) c'
          have hz : (ws ++ [V.ref fq]).length < sizeLine := small1000 (by omega)
          have key : ¬ (f.2.1 = p.1 ∧ f.2.2 = p.2.2) → ∀ t, H' t = none → DpAll K (upd (upd H' t (.tup [.int p.1, .int p.2.1, u])) L (.lst (ws ++ [.ref fq] ++ [.ref t]))) (ws ++ [.ref fq] ++ [.ref t]) ((Fm.form n (ps.take (i + 1))).map pcD) := fun hno t nt => by
            have nLt : L ≠ t := ne_of_none hL nt
            have sn := same_new (o := .tup [.int p.1, .int p.2.1, u]) nt
            have hL2 : upd H' t (.tup [.int p.1, .int p.2.1, u]) L = some (.lst (ws ++ [.ref fq])) := by rw [upd_ne nLt]; exact hL
            rw [et, Fm.form_app, e, es, if_neg hno, List.map_append (l₁ := F ++ [f]), List.map_append]
            exact dpa_snoc (by rw [← List.map_append]; exact pcs_mut hL2 (by rw [List.map_append]; exact dpa_same sn hd)) (pc_mk (sqt_mut hL2 (.inl (.inl upd_same))) (tg_mut hL2 (dp_same sn hu)))
          refine if2 (fun c1 => ?_) (fun c1 => ?_)
          · refine ⟨_, rfl, 1, rfl, L, _, _, _, rfl, rfl, SqL.of hL, atI_last _ _, fq, _, _, _, rfl, rfl, hf1, rfl, _, rfl, _, _, hfu, hu, tg_sh _, tg_sh _, _, rfl, ?_⟩
            rw [tg_eqv hsf]
            have c1' : f.2.1 = p.1 := V.int.inj (of_decide_eq_true c1)
            refine if2 (fun c2 => ?_) (fun c2 => ?_)
            · have c2' := of_decide_eq_true c2
              refine ⟨_, rfl, 1, rfl, L, _, _, _, rfl, rfl, SqL.of hL, atI_last _ _, fq, _, _, _, rfl, rfl, hf1, rfl, _, rfl, _, rfl, (by show 3 ≤ sizeLine; decide), fun t nt => ⟨_, rfl, 1, rfl, ?_⟩⟩
              have nLt : L ≠ t := ne_of_none hL nt
              have sn := same_new (o := .tup [.int f.1, .int p.2.1, u]) nt
              have hL2 : upd H' t (.tup [.int f.1, .int p.2.1, u]) L = some (.lst (ws ++ [.ref fq])) := by rw [upd_ne nLt]; exact hL
              refine ⟨L, _, _, ws.length, rfl, rfl, hL2, ixN_last _ _, _, _, _, _, rfl, same_mut (s.trans sn) nL, upd_same, ?_⟩
              rw [et, Fm.form_app, e, es, if_pos ⟨c1', c2'⟩, List.map_append, set_last]
              exact dpa_snoc (pcs_mut hL2 (dpa_same sn hd1)) (pc_mk (sqt_mut hL2 (.inl (.inl upd_same))) (tg_mut hL2 (dp_same sn hu)))
            · have hno : ¬ (f.2.1 = p.1 ∧ f.2.2 = p.2.2) := fun z => of_decide_eq_false c2 z.2
              refine ⟨_, rfl, .inl ⟨rfl, _, SqL.of hL⟩, _, rfl, _, rfl, _, rfl, (by show 3 ≤ sizeLine; decide), fun t nt => ?_⟩
              have nLt : L ≠ t := ne_of_none hL nt
              exact ⟨L, _, _, rfl, rfl, (by rw [upd_ne nLt]; exact hL), hz, _, _, _, _, rfl, same_mut (s.trans (same_new nt)) nL, upd_same, key hno t nt⟩
          · have hno : ¬ (f.2.1 = p.1 ∧ f.2.2 = p.2.2) := fun z => of_decide_eq_false c1 (by rw [z.1])
            refine ifF rfl ?_
            refine ⟨_, rfl, .inl ⟨rfl, _, SqL.of hL⟩, _, rfl, _, rfl, _, rfl, (by show 3 ≤ sizeLine; decide), fun t nt => ?_⟩
            have nLt : L ≠ t := ne_of_none hL nt
            exact ⟨L, _, _, rfl, rfl, (by rw [upd_ne nLt]; exact hL), hz, _, _, _, _, rfl, same_mut (s.trans (same_new nt)) nL, upd_same, key hno t nt⟩
    · rintro σ' H' ⟨o3, o4, o5, ws, rfl, s, hL, hd⟩
      rw [hle, List.take_length] at hd
      exact ⟨_, rfl, k L ws H' nL s hL hd⟩
/-! ### Field__neutral -/
def sp_Field__neutral (K : PySem.W.Frag) (A' : Ad) : Sp := fun vs H Q _ => ∃ (F : Addr) (n : Tg) (ps : List Pt), vs = [.ref F] ∧ Fd K A'.c_Field H F n ps ∧ ∀ u, Dp K H u n.d → Q u H
theorem ok_Field__neutral (T : Txt P K mg A') : FnOk P w K mg base CX0 1 A'.f_Field__neutral A'.fd_Field__neutral ["self"] (sp_Field__neutral K A') := by
  refine Hk.okM T.F_Field__neutral sc_Field__neutral (fun vs H Q E h => ?_) (fun cdv A outer s H vs Q E hr h => ?_)
  · obtain ⟨F, n, ps, rfl, _⟩ := h
    rfl
  · obtain ⟨F, n, ps, rfl, ⟨dx, nv, L, vs, h⟩, k⟩ := h
    refine ⟨_, (pss_one (ps_ret (pe_fld (pv 0) rfl))), ?_⟩
    exact ⟨_, rfl, F, _, dx, _, _, rfl, h.at_, T.cl_Field, T.na_Field__neutral, lk_neu (x := nv) (y := .ref L), k nv h.neu⟩
/-! ### Field__size -/
def wid (ps : List Pt) : List Int := ps.map fun p => p.2.1 - p.1
def sp_Field__size (K : PySem.W.Frag) (A' : Ad) : Sp := fun vs H Q _ => ∃ (F : Addr) (n : Tg) (ps : List Pt), vs = [.ref F] ∧ Fd K A'.c_Field H F n ps ∧ ps.length ≤ 900 ∧ ∀ H', Same H H' → Q (.int (wid ps).sum) H'
theorem ok_Field__size (T : Txt P K mg A') : FnOk P w K mg base CX0 1 A'.f_Field__size A'.fd_Field__size ["self"] (sp_Field__size K A') := by
  refine Hk.okM T.F_Field__size sc_Field__size (fun vs H Q E h => ?_) (fun cdv A outer s H vs Q E hr h => ?_)
  · obtain ⟨F, n, ps, rfl, _⟩ := h
    rfl
  · obtain ⟨F, n, ps, rfl, ⟨dx, nv, L, vs, h⟩, hz, k⟩ := h
    refine ⟨_, (pss_one (ps_ret (pe_callB (cr_sum rfl) (by rfl) T.z_sum (by decide +kernel) (pa_cons (pe_lc (own := [("a", 1), ("b", 2), ("_", 3)]) (g := gTup K 3 (gCons (gName 1) (gCons (gName 2) (gCons (gName 3) (gNil))))) (tt := tYes) (by rfl) sc_Field__size.nd (pi_list (pe_fld (pv 0) rfl)) (blkOk_by (own := [("a", 1), ("b", 2), ("_", 3)]) (N := ["self", "a", "b", "_"]) (sc := defScope s_Field__size) (by decide +kernel)) (fun _ _ _ _ _ => (pg_tup (by rfl) (pgs_cons (pg_name (i := 1) sc_Field__size.nd rfl (Or.inl rfl)) (pgs_cons (pg_name (i := 2) sc_Field__size.nd rfl (Or.inl rfl)) (pgs_cons (pg_name (i := 3) sc_Field__size.nd rfl (Or.inl rfl)) pgs_nil))))) (fun _ _ _ _ _ => pts_nil) (fun _ _ _ _ _ => (pe_op op_sub (pv 2) (pv 1)))) pa_nil)))), ?_⟩
    have hl := dpa_lenM h.dat
    refine ⟨_, rfl, F, _, dx, _, _, rfl, h.at_, T.cl_Field, T.na_Field__pieces, lk_pcs (x := nv) (y := .ref L), L, rfl, ⟨_, SqL.of h.lst⟩, fun D nD => ?_⟩
    refine lc_list (K := K) (a := L) (xs := vs) (fun i H' => Same H H' ∧ H' D = some (.lst ((wid (ps.take i)).map V.int))) ⟨same_new nD, upd_same⟩ (fun i H' _ hp => SqL.of (hp.1 _ _ h.lst)) ?_ ?_
    · rintro i x H' hi ⟨s, hD⟩
      obtain ⟨p, hp, hx⟩ := dpa_mapV (dpa_same s h.dat) hi
      obtain ⟨q, u, rfl, hq, hu⟩ := pc_inv hx
      refine ⟨q, _, rfl, hq, rfl, _, _, rfl, _, _, rfl, _, [], rfl, rfl, rfl, ?_⟩
      refine ⟨_, rfl, _, rfl, _, _, rfl, rfl, _, hD, ?_, same_mut s nD, ?_⟩
      · unfold wid
        rw [List.length_map, List.length_map, List.length_take]
        exact small1000 (by omega)
      · rw [upd_same, take_map hp]
        unfold wid
        rw [List.map_append, List.map_append]
        rfl
    · rintro H' ⟨s, hD⟩
      rw [hl, List.take_length] at hD
      exact ⟨D, _, rfl, SqL.of hD, k H' s⟩
/-! ### Field__pieces -/
def sp_Field__pieces (K : PySem.W.Frag) (A' : Ad) : Sp := fun vs H Q _ => ∃ (F : Addr) (n : Tg) (ps : List Pt), vs = [.ref F] ∧ Fd K A'.c_Field H F n ps ∧ ∀ q ws H', H q = none → Same H H' → H' q = some (.lst ws) → DpAll K H' ws (ps.map pcD) → Q (.ref q) H'
theorem ok_Field__pieces (T : Txt P K mg A') : FnOk P w K mg base CX0 1 A'.f_Field__pieces A'.fd_Field__pieces ["self"] (sp_Field__pieces K A') := by
  refine Hk.okM T.F_Field__pieces sc_Field__pieces (fun vs H Q E h => ?_) (fun cdv A outer s H vs Q E hr h => ?_)
  · obtain ⟨F, n, ps, rfl, _⟩ := h
    rfl
  · obtain ⟨F, n, ps, rfl, ⟨dx, nv, L, vs, h⟩, k⟩ := h
    refine ⟨_, (pss_one (ps_ret (pe_callTy call_list_of (by rfl) T.z_list (by decide +kernel) (pa_cons (pe_fld (pv 0) rfl) pa_nil)))), ?_⟩
    refine ⟨_, rfl, F, _, dx, _, _, rfl, h.at_, T.cl_Field, T.na_Field__pieces, lk_pcs (x := nv) (y := .ref L), L, vs, rfl, .inl (SqL.of h.lst), fun q nq => ?_⟩
    exact k q vs _ nq (same_new nq) upd_same (dpa_same (same_new nq) h.dat)
/-! ### Field____eq__ -/
def sp_Field____eq__ (K : PySem.W.Frag) (A' : Ad) : Sp := fun vs H Q _ => ∃ (F : Addr) (y : V) (n : Tg) (ps : List Pt), vs = [.ref F, y] ∧ Fd K A'.c_Field H F n ps ∧
  ∃ b, EqB K A'.c_Field H n ps y b ∧ Q (.bl b) H
theorem ok_Field____eq__ (T : Txt P K mg A') : FnOk P w K mg base CX0 1 A'.f_Field____eq__ A'.fd_Field____eq__ ["self", "other"] (sp_Field____eq__ K A') := by
  refine Hk.okM T.F_Field____eq__ sc_Field____eq__ (fun vs H Q E h => ?_) (fun cdv A outer s H vs Q E hr h => ?_)
  · obtain ⟨F, y, n, ps, rfl, _⟩ := h
    rfl
  · obtain ⟨F, y, n, ps, rfl, ⟨dx, nv, L, vs, h⟩, b, hb, k⟩ := h
    refine ⟨_, (pss_one (ps_ret (pe_and (pe_callB call_isi (by rfl) T.z_isinstance (by decide +kernel) (pa_cons (pv 1) (pa_cons (pe_glob (v := .ref A'.c_Field) rfl T.m_Field rfl) pa_nil))) (pe_and (pe_cmpR (op_eqD hr.units) (pe_fld (pv 0) rfl) (pe_fld (pv 1) rfl) (nomark _)) (pe_one (pe_cmpR (op_eqD hr.units) (pe_fld (pv 0) rfl) (pe_fld (pv 1) rfl) (nomark _))))))), ?_⟩
    rcases hb with ⟨G, m, qs, rfl, ⟨dy, mv, M, us, g⟩, rfl⟩ | ⟨d, hd, hn, rfl⟩
    · refine ⟨_, rfl, .ref G, .ref A'.c_Field, _, _, true, rfl, .own _, T.ow_Field.ins.ty g.at_, T.ow_Field.self, _, rfl, iteT ?_⟩
      refine ⟨_, rfl, F, _, dx, _, _, rfl, h.at_, T.cl_Field, T.na_Field__neutral, lk_neu (x := nv) (y := .ref L), _, rfl, G, _, dy, _, _, rfl, g.at_, T.cl_Field, T.na_Field__neutral, lk_neu (x := mv) (y := .ref M), _, _, h.neu, g.neu, tg_sh _, tg_sh _, _, rfl, ?_⟩
      refine if2 (fun c => ?_) (fun c => ?_)
      · rw [c, Bool.true_and] at k
        exact ⟨_, rfl, F, _, dx, _, _, rfl, h.at_, T.cl_Field, T.na_Field__pieces, lk_pcs (x := nv) (y := .ref L), _, rfl, G, _, dy, _, _, rfl, g.at_, T.cl_Field, T.na_Field__pieces, lk_pcs (x := mv) (y := .ref M), _, _, .lst (SqL.of h.lst) h.dat, .lst (SqL.of g.lst) g.dat, pcs_sh _, pcs_sh _, k⟩
      · rw [c, Bool.false_and] at k
        exact k
    · refine ⟨_, rfl, y, .ref A'.c_Field, _, _, false, rfl, .own _, ty_of hd, T.ow_Field.kit _ (Hm.tname_mem hn), _, rfl, iteF k⟩
/-! ### Field____len__ -/
def sp_Field____len__ (K : PySem.W.Frag) (A' : Ad) : Sp := fun vs H Q _ => ∃ (F : Addr) (n : Tg) (ps : List Pt), vs = [.ref F] ∧ Fd K A'.c_Field H F n ps ∧ Q (.int (ps.length : Int)) H
theorem ok_Field____len__ (T : Txt P K mg A') : FnOk P w K mg base CX0 1 A'.f_Field____len__ A'.fd_Field____len__ ["self"] (sp_Field____len__ K A') := by
  refine Hk.okM T.F_Field____len__ sc_Field____len__ (fun vs H Q E h => ?_) (fun cdv A outer s H vs Q E hr h => ?_)
  · obtain ⟨F, n, ps, rfl, _⟩ := h
    rfl
  · obtain ⟨F, n, ps, rfl, ⟨dx, nv, L, vs, h⟩, k⟩ := h
    refine ⟨_, (pss_one (ps_ret (pe_callB call_len_seq (by rfl) T.z_len (by decide +kernel) (pa_cons (pe_fld (pv 0) rfl) pa_nil)))), ?_⟩
    have hl := dpa_lenM h.dat
    refine ⟨_, rfl, F, _, dx, _, _, rfl, h.at_, T.cl_Field, T.na_Field__pieces, lk_pcs (x := nv) (y := .ref L), L, vs, rfl, .inl (SqL.of h.lst), ?_⟩
    rw [hl]
    exact k
/-! ### Field____iter__ -/
def sp_Field____iter__ (K : PySem.W.Frag) (A' : Ad) : Sp := fun vs H Q _ => ∃ (F : Addr) (n : Tg) (ps : List Pt) (dx : Addr) (nv : V) (L : Addr) (us : List V), vs = [.ref F] ∧ FdW K A'.c_Field H F n ps dx nv L us ∧ ∀ it, H it = none → Q (.ref it) (upd H it (ItO L it 0))
theorem ok_Field____iter__ (T : Txt P K mg A') : FnOk P w K mg base CX0 1 A'.f_Field____iter__ A'.fd_Field____iter__ ["self"] (sp_Field____iter__ K A') := by
  refine Hk.okM T.F_Field____iter__ sc_Field____iter__ (fun vs H Q E h => ?_) (fun cdv A outer s H vs Q E hr h => ?_)
  · obtain ⟨F, n, ps, dx, nv, L, us, rfl, _⟩ := h
    rfl
  · obtain ⟨F, n, ps, dx, nv, L, us, rfl, h, k⟩ := h
    refine ⟨_, (pss_one (ps_ret (pe_callB call_iterL (by rfl) T.z_iter (by decide +kernel) (pa_cons (pe_fld (pv 0) rfl) pa_nil)))), ?_⟩
    exact ⟨_, rfl, F, _, dx, _, _, rfl, h.at_, T.cl_Field, T.na_Field__pieces, lk_pcs (x := nv) (y := .ref L), L, us, rfl, SqL.of h.lst, k⟩
/-! ### _law_stream -/
def sp__law_stream (K : PySem.W.Frag) : Sp := fun vs H Q _ => ∃ (a : Addr) (ns : List Int), vs = [.ref a] ∧ SqL K H a (ns.map V.int) ∧ ns.length ≤ 63 ∧ ∀ S c H', H S = none → Same H H' → Stm S c H' → Q (.ref S) H'
theorem ok__law_stream (T : Txt P K mg A') : FnOk P w K mg base CX0 1 A'.f__law_stream A'.fd__law_stream ["_law_script"] (sp__law_stream K) := by
  refine Hk.okN T.F__law_stream sc__law_stream (fun vs H Q E h => ?_) (fun cdv A outer s H vs Q E hr h => ?_)
  · obtain ⟨a, ns, rfl, _⟩ := h
    rfl
  · obtain ⟨a, ns, rfl, ha, hl, k⟩ := h
    refine ⟨_, (pss_one (ps_ret (pe_lst (pa_cons (pe_lc (own := [("_law_cell", 1)]) (g := gName 1) (tt := tYes) (by rfl) sc__law_stream.nd (pi_list (pe_slice sl_list (pv 0) po_none (po_some pe_int))) (blkOk_by (own := [("_law_cell", 1)]) (N := ["_law_script", "_law_cell"]) (sc := defScope s__law_stream) (by decide +kernel)) (fun _ _ _ _ _ => (pg_name (i := 1) sc__law_stream.nd rfl (Or.inl rfl))) (fun _ _ _ _ _ => pts_nil) (fun _ _ _ _ _ => (pe_callTy call_int1 (by rfl) T.z_int (by decide +kernel) (pa_cons (pv 1) pa_nil)))) (pa_cons pe_int (pa_cons pe_int pa_nil)))))), ?_⟩
    have hcut : cutV (ns.map V.int) none (some 63) = ns.map V.int := by
      unfold cutV
      have e : HT.sIx (ns.map V.int).length (ns.map V.int).length (some 63) = (ns.map V.int).length := by
        show (if (63 : Int) < 0 then ((63 : Int) + ((ns.map V.int).length : Int)).toNat else min (63 : Int).toNat (ns.map V.int).length) = _
        rw [if_neg (by decide), List.length_map]
        have e2 : (63 : Int).toNat = 63 := rfl
        rw [e2]
        omega
      rw [e, HT.sIx_none, List.drop_zero, Nat.sub_zero, List.take_length]
    refine ⟨_, rfl, _, rfl, a, _, rfl, ha, fun p np => ?_⟩
    rw [hcut]
    refine ⟨p, rfl, ⟨_, SqL.of upd_same⟩, fun D nD => ?_⟩
    have npD : p ≠ D := ne_of_none upd_same nD
    have nD0 : H D = none := by rw [upd_ne npD.symm] at nD; exact nD
    refine lc_list (K := K) (a := p) (xs := ns.map V.int) (fun i H' => Same H H' ∧ H' p = some (.lst (ns.map V.int)) ∧ H' D = some (.lst ((ns.take i).map V.int))) ⟨same_mut (same_new np) nD0, by rw [upd_ne npD]; exact upd_same, upd_same⟩ (fun i H' _ h => SqL.of h.2.1) ?_ ?_
    · rintro i x H' hi ⟨s1, h1, h2⟩
      obtain ⟨n, hn, rfl⟩ := map_some hi
      refine ⟨rfl, _, rfl, .inl ⟨_, rfl, _, h2, ?_, ?_⟩⟩
      · rw [List.length_map]
        exact small1000 (by rw [List.length_take]; omega)
      · refine ⟨same_mut s1 nD0, by rw [upd_ne npD]; exact h1, ?_⟩
        rw [upd_same, take_map hn, List.map_append]
        rfl
    · rintro H' ⟨s1, h1, h2⟩
      rw [List.length_map, List.take_length] at h2
      refine ⟨(by show 3 ≤ sizeLine; decide), fun S nS => ?_⟩
      have nDS : D ≠ S := ne_of_none h2 nS
      exact k S D _ (s1.free nS) (same_mut s1 (s1.free nS)) ⟨ns, 0, 0, upd_same, by rw [upd_ne nDS]; exact h2, hl, Nat.zero_le _, Int.le_refl _⟩
/-! ### _law_mixed -/
def sp__law_mixed (K : PySem.W.Frag) : Sp := fun vs H Q _ => ∃ (c : Int) (p : Nat), vs = [.int c, .int (p : Int)] ∧ c.natAbs < 10 ^ 18 ∧ p ≤ 100 ∧ ∀ r : Int, 0 ≤ r → Q (.int r) H
theorem ok__law_mixed (T : Txt P K mg A') : FnOk P w K mg base CX0 1 A'.f__law_mixed A'.fd__law_mixed ["_law_cell", "_law_place"] (sp__law_mixed K) := by
  refine Hk.okN T.F__law_mixed sc__law_mixed (fun vs H Q E h => ?_) (fun cdv A outer s H vs Q E hr h => ?_)
  · obtain ⟨c, p, rfl, _⟩ := h
    rfl
  · obtain ⟨c, p, rfl, hc, hp, k⟩ := h
    have hc2 : -(2 ^ 64) < c ∧ c < 2 ^ 64 := by omega
    refine ⟨_, (pss_cons (ps_set (i := 2) sc__law_mixed.nd rfl (Or.inl rfl) (pe_op op_mod (pe_callTy call_int1 (by rfl) T.z_int (by decide +kernel) (pa_cons (pe_op op_mul (pv 0) (pe_op op_add pe_int (pe_op op_mul pe_int (pv 1)))) pa_nil)) pe_int))
    (pss_one (ps_ret (pe_op op_mod (pe_callTy call_int1 (by rfl) T.z_int (by decide +kernel) (pa_cons (pe_op op_mul (pv 2) (pe_op op_add (pv 2) (pe_op op_mul pe_int (pv 1)))) pa_nil)) pe_int)))), ?_⟩
    refine ⟨_, rfl, _, rfl, _, _, rfl, rfl, .inl (by omega), _, _, rfl, rfl, _, _, rfl, rfl, .inl hc2, .inl ⟨_, rfl, _, _, rfl, rfl, (show (0 : Int) < 1000000000000000003 by decide), ?_⟩⟩
    generalize h1 : (c * (314159265358979323 + 271828182845 * (p : Int))) % 1000000000000000003 = x
    have x0 : 0 ≤ x ∧ x < 1000000000000000003 := by
      rw [← h1]
      exact ⟨Int.emod_nonneg _ (by decide), Int.emod_lt_of_pos _ (by decide)⟩
    refine ⟨_, rfl, _, rfl, _, rfl, _, _, rfl, rfl, .inl (by omega), _, _, rfl, rfl, _, _, rfl, rfl, .inl (by omega), .inl ⟨_, rfl, _, _, rfl, rfl, (show (0 : Int) < 1000000000000000009 by decide), ?_⟩⟩
    exact k _ (Int.emod_nonneg _ (by decide))
/-! ### _law_plain -/
def sp__law_plain (K : PySem.W.Frag) : Sp := fun vs H Q _ => ∃ (k8 : Km.Kd8) (p : Addr) (ns : List Int), vs = [.str (nm k8), .ref p] ∧ SqT K H p (ns.map V.int) ∧ ns.length ≤ 900 ∧ ∀ v H', Same H H' → Dp K H' v (wD (Km.pl k8 ns)) → Q v H'
theorem ok__law_plain (T : Txt P K mg A') : FnOk P w K mg base CX0 1 A'.f__law_plain A'.fd__law_plain ["_law_kind_here", "_law_word"] (sp__law_plain K) := by
  refine Hk.okN T.F__law_plain sc__law_plain (fun vs H Q E h => ?_) (fun cdv A outer s H vs Q E hr h => ?_)
  · obtain ⟨k8, p, ns, rfl, _⟩ := h
    rfl
  · obtain ⟨k8, p, ns, rfl, hp, hz, k⟩ := h
    refine ⟨_, (pss_cons (ps_set (i := 2) sc__law_plain.nd rfl (Or.inr rfl) (pe_callTy call_list_of (by rfl) T.z_list (by decide +kernel) (pa_cons (pv 1) pa_nil)))
    (pss_cons (ps_if (pt_cmpR op_eq (pv 0) pe_str (nomark _)) (pss_one (ps_set (i := 2) sc__law_plain.nd rfl (Or.inr rfl) (pe_callB cr_sortedI (by rfl) T.z_sorted (by decide +kernel) (pa_cons (pv 2) pa_nil)))) pss_nil)
    (pss_cons (ps_if (pt_cmpR op_eq (pv 0) pe_str (nomark _)) (pss_one (ps_set (i := 2) sc__law_plain.nd rfl (Or.inr rfl) (pe_callB (Kd.cr_sortedS rfl) (by rfl) T.z_sorted (by decide +kernel) (pa_cons (pe_callTy (Kd.cr_setOf rfl) (by rfl) T.z_set (by decide +kernel) (pa_cons (pv 2) pa_nil)) pa_nil)))) pss_nil)
    (pss_cons (ps_if (pt_cmpR op_eq (pv 0) pe_str (nomark _)) (pss_one (ps_set (i := 2) sc__law_plain.nd rfl (Or.inr rfl) (pe_slice sl_list (pv 2) po_none (po_some pe_int)))) pss_nil)
    (pss_cons (ps_if (PW.pt (pw_and (pt_cmpR op_eq (pv 0) pe_str (nomark _)) (pw_and1 (pt_cmpR op_gt (pe_callB call_len_seq (by rfl) T.z_len (by decide +kernel) (pa_cons (pv 2) pa_nil)) pe_int (nomark _))))) (pss_one (ps_set (i := 2) sc__law_plain.nd rfl (Or.inr rfl) (pe_lst (pa_cons (pe_ix ix_list (pv 2) (pe_op op_sub (pe_callB call_len_seq (by rfl) T.z_len (by decide +kernel) (pa_cons (pv 2) pa_nil)) pe_int) (fun _ _ => rfl)) pa_nil)))) pss_nil)
    (pss_cons (ps_if (PW.pt (pw_and (pt_cmpR op_eq (pv 0) pe_str (nomark _)) (pw_and1 (pt_cmpR op_gt (pe_callB call_len_seq (by rfl) T.z_len (by decide +kernel) (pa_cons (pv 2) pa_nil)) pe_int (nomark _))))) (pss_one (ps_set (i := 2) sc__law_plain.nd rfl (Or.inr rfl) (pe_lst (pa_cons (pe_ix ix_list (pv 2) pe_int (fun _ _ => rfl)) (pa_cons (pe_ix ix_list (pv 2) (pe_op op_sub (pe_callB call_len_seq (by rfl) T.z_len (by decide +kernel) (pa_cons (pv 2) pa_nil)) pe_int) (fun _ _ => rfl)) pa_nil))))) pss_nil)
    (pss_cons (ps_if (pt_cmpR op_eq (pv 0) pe_str (nomark _)) (pss_one (ps_set (i := 2) sc__law_plain.nd rfl (Or.inr rfl) (pe_lc (own := [("_law_k", 3)]) (g := gName 3) (by rfl) sc__law_plain.nd (pi_range1 (by rfl) T.z_range (pa_cons (pe_callB call_len_seq (by rfl) T.z_len (by decide +kernel) (pa_cons (pv 2) pa_nil)) pa_nil)) (blkOk_by (own := [("_law_k", 3)]) (N := ["_law_kind_here", "_law_word", "_law_row", "_law_k"]) (sc := defScope s__law_plain) (by decide +kernel)) (fun _ _ _ _ _ => (pg_name (i := 3) sc__law_plain.nd rfl (Or.inl rfl))) (fun _ _ _ _ _ => (pts_one (pt_cmpR (notInK (K := K) rfl) (pe_ix (ixLK (K := K) rfl) (pv 2) (pv 3) (fun _ _ => rfl)) (pe_slice (slLK (K := K) rfl) (pv 2) po_none (po_some (pv 3))) (by rfl)))) (fun _ _ _ _ _ => (pe_ix (ixLK (K := K) rfl) (pv 2) (pv 3) (fun _ _ => rfl)))))) pss_nil)
    (pss_cons (ps_if (pt_cmpR op_eq (pv 0) pe_str (nomark _)) (pss_one (ps_set (i := 2) sc__law_plain.nd rfl (Or.inr rfl) (pe_lc (own := [("_law_k", 3)]) (g := gName 3) (by rfl) sc__law_plain.nd (pi_range1 (by rfl) T.z_range (pa_cons (pe_callB call_len_seq (by rfl) T.z_len (by decide +kernel) (pa_cons (pv 2) pa_nil)) pa_nil)) (blkOk_by (own := [("_law_k", 3)]) (N := ["_law_kind_here", "_law_word", "_law_row", "_law_k"]) (sc := defScope s__law_plain) (by decide +kernel)) (fun _ _ _ _ _ => (pg_name (i := 3) sc__law_plain.nd rfl (Or.inl rfl))) (fun _ _ _ _ _ => (pts_one (pt_cmpR (notInK (K := K) rfl) (pe_ix (ixLK (K := K) rfl) (pv 2) (pv 3) (fun _ _ => rfl)) (pe_slice (slLK (K := K) rfl) (pv 2) (po_some (pe_op op_add (pv 3) pe_int)) po_none) (by rfl)))) (fun _ _ _ _ _ => (pe_ix (ixLK (K := K) rfl) (pv 2) (pv 3) (fun _ _ => rfl)))))) pss_nil)
    (pss_one (ps_ret (pe_callTy call_tuple_of (by rfl) T.z_tuple (by decide +kernel) (pa_cons (pv 2) pa_nil)))))))))))), ?_⟩
    refine ⟨_, rfl, p, _, rfl, .inr hp, fun q nq => ?_⟩
    have sq1 := same_new (o := .lst (ns.map V.int)) nq
    have hq1 : upd H q (.lst (ns.map V.int)) q = some (.lst (ns.map V.int)) := upd_same
    generalize upd H q (.lst (ns.map V.int)) = H1 at *
    have fin : ∀ (r : Addr) (H2 : Hp), Same H H2 → H2 r = some (.lst ((Km.pl k8 ns).map V.int)) → ∃ q ys, [V.ref r] = [V.ref q] ∧ ((SqL K H2 q ys ∧ ∀ l, H2 l = none → Q (.ref l) (upd H2 l (.tup ys))) ∨ (SqT K H2 q ys ∧ Q (.ref q) H2)) := fun r H2 s2 h2 => tupof (.inl (SqL.of h2)) fun v H3 s3 hv => k v H3 (s2.trans s3) hv
    cases k8 with
    | list =>
      refine ⟨_, rfl, rfl, _, rfl, ?_⟩
      refine ifF (by decide +kernel) ?_
      refine ⟨_, rfl, rfl, _, rfl, ?_⟩
      refine ifF (by decide +kernel) ?_
      refine ⟨_, rfl, rfl, _, rfl, ?_⟩
      refine ifF (by decide +kernel) ?_
      refine ⟨_, rfl, rfl, _, rfl, ?_⟩
      refine ifF (by decide +kernel) ?_
      refine ⟨_, rfl, rfl, _, rfl, ?_⟩
      refine ifF (by decide +kernel) ?_
      refine ⟨_, rfl, rfl, _, rfl, ?_⟩
      refine ifF (by decide +kernel) ?_
      refine ⟨_, rfl, rfl, _, rfl, ?_⟩
      refine ifF (by decide +kernel) ?_
      exact ⟨_, rfl, fin q H1 sq1 hq1⟩
    | bag =>
      refine ⟨_, rfl, rfl, _, rfl, ?_⟩
      refine ifT (by decide +kernel) ?_
      refine ⟨_, rfl, q, ns, rfl, SqL.of hq1, fun ns' r h1 h2 nr => ?_⟩
      obtain rfl := Km.srt_of h1 h2
      refine ⟨_, rfl, rfl, _, rfl, ?_⟩
      refine ifF (by decide +kernel) ?_
      refine ⟨_, rfl, rfl, _, rfl, ?_⟩
      refine ifF (by decide +kernel) ?_
      refine ⟨_, rfl, rfl, _, rfl, ?_⟩
      refine ifF (by decide +kernel) ?_
      refine ⟨_, rfl, rfl, _, rfl, ?_⟩
      refine ifF (by decide +kernel) ?_
      refine ⟨_, rfl, rfl, _, rfl, ?_⟩
      refine ifF (by decide +kernel) ?_
      refine ⟨_, rfl, rfl, _, rfl, ?_⟩
      refine ifF (by decide +kernel) ?_
      exact ⟨_, rfl, fin r _ (sq1.trans (same_new nr)) upd_same⟩
    | set =>
      refine ⟨_, rfl, rfl, _, rfl, ?_⟩
      refine ifF (by decide +kernel) ?_
      refine ⟨_, rfl, rfl, _, rfl, ?_⟩
      refine ifT (by decide +kernel) ?_
      refine ⟨_, rfl, q, ns, rfl, .inl (SqL.of hq1), by omega, fun a c na hc => ⟨a, _, c, rfl, upd_same, by omega, fun ns' r h1 h2 nr => ?_⟩⟩
      obtain rfl := Km.sst_of (l := ns) (fun k => (h2 k).trans (by simp)) h1
      refine ⟨_, rfl, rfl, _, rfl, ?_⟩
      refine ifF (by decide +kernel) ?_
      refine ⟨_, rfl, rfl, _, rfl, ?_⟩
      refine ifF (by decide +kernel) ?_
      refine ⟨_, rfl, rfl, _, rfl, ?_⟩
      refine ifF (by decide +kernel) ?_
      refine ⟨_, rfl, rfl, _, rfl, ?_⟩
      refine ifF (by decide +kernel) ?_
      refine ⟨_, rfl, rfl, _, rfl, ?_⟩
      refine ifF (by decide +kernel) ?_
      exact ⟨_, rfl, fin r _ ((sq1.trans (same_new na)).trans (same_new nr)) upd_same⟩
    | first =>
      refine ⟨_, rfl, rfl, _, rfl, ?_⟩
      refine ifF (by decide +kernel) ?_
      refine ⟨_, rfl, rfl, _, rfl, ?_⟩
      refine ifF (by decide +kernel) ?_
      refine ⟨_, rfl, rfl, _, rfl, ?_⟩
      refine ifT (by decide +kernel) ?_
      refine ⟨_, rfl, 1, rfl, q, _, rfl, SqL.of hq1, fun r nr => ?_⟩
      rw [cut_map, cut_first]
      refine ⟨_, rfl, rfl, _, rfl, ?_⟩
      refine ifF (by decide +kernel) ?_
      refine ⟨_, rfl, rfl, _, rfl, ?_⟩
      refine ifF (by decide +kernel) ?_
      refine ⟨_, rfl, rfl, _, rfl, ?_⟩
      refine ifF (by decide +kernel) ?_
      refine ⟨_, rfl, rfl, _, rfl, ?_⟩
      refine ifF (by decide +kernel) ?_
      exact ⟨_, rfl, fin r _ (sq1.trans (same_new nr)) upd_same⟩
    | last =>
      refine ⟨_, rfl, rfl, _, rfl, ?_⟩
      refine ifF (by decide +kernel) ?_
      refine ⟨_, rfl, rfl, _, rfl, ?_⟩
      refine ifF (by decide +kernel) ?_
      refine ⟨_, rfl, rfl, _, rfl, ?_⟩
      refine ifF (by decide +kernel) ?_
      refine ⟨_, rfl, rfl, _, rfl, ?_⟩
      refine ifT (by decide +kernel) ?_
      refine ⟨_, rfl, q, _, rfl, .inl (SqL.of hq1), _, _, rfl, rfl, _, rfl, ?_⟩
      refine if2 (fun c => ?_) (fun c => ?_)
      · have hl : 0 < ns.length := by
          have z := of_decide_eq_true c
          rw [List.length_map] at z
          omega
        refine ⟨_, rfl, _, rfl, q, _, rfl, .inl (SqL.of hq1), _, _, rfl, rfl, q, _, _, .int (ns[ns.length - 1]'(by omega)), rfl, rfl, SqL.of hq1, at_of (j := ns.length - 1) (by rw [List.length_map]; omega) (map_get (by omega)), (by show 1 ≤ sizeLine; decide), fun r nr => ?_⟩
        refine ⟨_, rfl, rfl, _, rfl, ?_⟩
        refine ifF (by decide +kernel) ?_
        refine ⟨_, rfl, rfl, _, rfl, ?_⟩
        refine ifF (by decide +kernel) ?_
        refine ⟨_, rfl, rfl, _, rfl, ?_⟩
        refine ifF (by decide +kernel) ?_
        exact ⟨_, rfl, fin r _ (sq1.trans (same_new nr)) (by rw [upd_same]; show _ = some (HO.lst ((Km.lst1 ns).map V.int)); rw [lst1_get hl]; rfl)⟩
      · have hl : ns = [] := by
          have z := of_decide_eq_false c
          rw [List.length_map] at z
          cases ns with
          | nil => rfl
          | cons a r => simp at z
        subst hl
        refine ⟨_, rfl, rfl, _, rfl, ?_⟩
        refine ifF (by decide +kernel) ?_
        refine ⟨_, rfl, rfl, _, rfl, ?_⟩
        refine ifF (by decide +kernel) ?_
        refine ⟨_, rfl, rfl, _, rfl, ?_⟩
        refine ifF (by decide +kernel) ?_
        exact ⟨_, rfl, fin q _ sq1 hq1⟩
    | ends =>
      refine ⟨_, rfl, rfl, _, rfl, ?_⟩
      refine ifF (by decide +kernel) ?_
      refine ⟨_, rfl, rfl, _, rfl, ?_⟩
      refine ifF (by decide +kernel) ?_
      refine ⟨_, rfl, rfl, _, rfl, ?_⟩
      refine ifF (by decide +kernel) ?_
      refine ⟨_, rfl, rfl, _, rfl, ?_⟩
      refine ifF (by decide +kernel) ?_
      refine ⟨_, rfl, rfl, _, rfl, ?_⟩
      refine ifT (by decide +kernel) ?_
      refine ⟨_, rfl, q, _, rfl, .inl (SqL.of hq1), _, _, rfl, rfl, _, rfl, ?_⟩
      refine if2 (fun c => ?_) (fun c => ?_)
      · have hl : 0 < ns.length := by
          have z := of_decide_eq_true c
          rw [List.length_map] at z
          omega
        refine ⟨_, rfl, q, _, _, .int ns[0], rfl, rfl, SqL.of hq1, at_of (j := 0) rfl (map_get hl), _, rfl, _, rfl, q, _, rfl, .inl (SqL.of hq1), _, _, rfl, rfl, q, _, _, .int (ns[ns.length - 1]'(by omega)), rfl, rfl, SqL.of hq1, at_of (j := ns.length - 1) (by rw [List.length_map]; omega) (map_get (by omega)), (by show 2 ≤ sizeLine; decide), fun r nr => ?_⟩
        refine ⟨_, rfl, rfl, _, rfl, ?_⟩
        refine ifF (by decide +kernel) ?_
        refine ⟨_, rfl, rfl, _, rfl, ?_⟩
        refine ifF (by decide +kernel) ?_
        exact ⟨_, rfl, fin r _ (sq1.trans (same_new nr)) (by rw [upd_same]; show _ = some (HO.lst ((ns.take 1 ++ Km.lst1 ns).map V.int)); rw [lst1_get hl]; cases ns with
          | nil => simp at hl
          | cons a r => rfl)⟩
      · have hl : ns = [] := by
          have z := of_decide_eq_false c
          rw [List.length_map] at z
          cases ns with
          | nil => rfl
          | cons a r => simp at z
        subst hl
        refine ⟨_, rfl, rfl, _, rfl, ?_⟩
        refine ifF (by decide +kernel) ?_
        refine ⟨_, rfl, rfl, _, rfl, ?_⟩
        refine ifF (by decide +kernel) ?_
        exact ⟨_, rfl, fin q _ sq1 hq1⟩
    | heads =>
      refine ⟨_, rfl, rfl, _, rfl, ?_⟩
      refine ifF (by decide +kernel) ?_
      refine ⟨_, rfl, rfl, _, rfl, ?_⟩
      refine ifF (by decide +kernel) ?_
      refine ⟨_, rfl, rfl, _, rfl, ?_⟩
      refine ifF (by decide +kernel) ?_
      refine ⟨_, rfl, rfl, _, rfl, ?_⟩
      refine ifF (by decide +kernel) ?_
      refine ⟨_, rfl, rfl, _, rfl, ?_⟩
      refine ifF (by decide +kernel) ?_
      refine ⟨_, rfl, rfl, _, rfl, ?_⟩
      refine ifT (by decide +kernel) ?_
      refine ⟨_, rfl, q, _, rfl, .inl (SqL.of hq1), _, rfl, (by rw [List.length_map]; omega), (by rw [List.length_map]; omega), fun D nD => ?_⟩
      have nqD : q ≠ D := ne_of_none hq1 nD
      have nD0 : H D = none := sq1.free nD
      refine lc_range (lo := 0) (fun i H' => Same H H' ∧ H' q = some (.lst (ns.map V.int)) ∧ H' D = some (.lst ((Km.fo [] (ns.take i)).map V.int))) ⟨same_mut sq1 nD0, by rw [upd_ne nqD]; exact hq1, upd_same⟩ ?_ ?_
      · rintro i H' hi ⟨s1, h1, h2⟩
        have hi' : i < ns.length := by simpa using hi
        have hx : ns[i]? = some ns[i] := List.getElem?_eq_getElem hi'
        have hf := Km.fo_take hx
        have hat : atI (ns.map V.int) (0 + (i : Int)) = some (.int ns[i]) := at_of (j := i) (by omega) (map_get hi')
        have hfl := Km.fo_len (ns.take i) []
        rw [List.length_take] at hfl
        simp only [List.length_nil] at hfl
        generalize ns[i] = x at *
        refine ⟨rfl, ?_⟩
        refine ⟨_, rfl, _, rfl, q, _, _, _, rfl, rfl, SqL.of h1, hat, _, rfl, _, rfl, _, rfl, q, _, rfl, SqL.of h1, fun r nr => ?_⟩
        rw [cut_map, cut_take (by omega)]
        have nqr : q ≠ r := ne_of_none h1 nr
        have nDr : D ≠ r := ne_of_none h2 nr
        refine ⟨r, _, rfl, .inl (SqL.of upd_same), rfl, flat_ints _, ?_⟩
        rw [not_in]
        refine ⟨_, rfl, ?_⟩
        have hm := Km.mem_fo (ns.take i) [] x
        refine if2 (fun c => ?_) (fun c => ?_)
        · have hno : ¬ x ∈ Km.fo [] (ns.take i) := fun z => by
            rcases hm.mp z with z | z
            · cases z
            · simp [z] at c
          refine ⟨_, rfl, _, rfl, q, _, _, _, rfl, rfl, SqL.of (by rw [upd_ne nqr]; exact h1), hat, _, by rw [upd_ne nDr]; exact h2, ?_, same_mut (s1.trans (same_new nr)) nD0, by rw [upd_ne nqD, upd_ne nqr]; exact h1, ?_⟩
          · rw [List.length_map]
            exact small1000 (by omega)
          · rw [upd_same, hf, if_neg hno, List.map_append]
            rfl
        · have hyes : x ∈ Km.fo [] (ns.take i) := hm.mpr (.inr (by simpa using c))
          exact ⟨s1.trans (same_new nr), by rw [upd_ne nqr]; exact h1, by rw [upd_ne nDr, hf, if_pos hyes]; exact h2⟩
      · rintro H' ⟨s1, h1, h2⟩
        have en : ns.take (((ns.map V.int).length : Int)).toNat = ns := List.take_of_length_le (by simp)
        rw [en] at h2
        refine ⟨_, rfl, rfl, _, rfl, ?_⟩
        refine ifF (by decide +kernel) ?_
        exact ⟨_, rfl, fin D _ s1 h2⟩
    | tails =>
      refine ⟨_, rfl, rfl, _, rfl, ?_⟩
      refine ifF (by decide +kernel) ?_
      refine ⟨_, rfl, rfl, _, rfl, ?_⟩
      refine ifF (by decide +kernel) ?_
      refine ⟨_, rfl, rfl, _, rfl, ?_⟩
      refine ifF (by decide +kernel) ?_
      refine ⟨_, rfl, rfl, _, rfl, ?_⟩
      refine ifF (by decide +kernel) ?_
      refine ⟨_, rfl, rfl, _, rfl, ?_⟩
      refine ifF (by decide +kernel) ?_
      refine ⟨_, rfl, rfl, _, rfl, ?_⟩
      refine ifF (by decide +kernel) ?_
      refine ⟨_, rfl, rfl, _, rfl, ?_⟩
      refine ifT (by decide +kernel) ?_
      refine ⟨_, rfl, q, _, rfl, .inl (SqL.of hq1), _, rfl, (by rw [List.length_map]; omega), (by rw [List.length_map]; omega), fun D nD => ?_⟩
      have nqD : q ≠ D := ne_of_none hq1 nD
      have nD0 : H D = none := sq1.free nD
      refine lc_range (lo := 0) (fun i H' => Same H H' ∧ H' q = some (.lst (ns.map V.int)) ∧ ∃ acc : List Int, H' D = some (.lst (acc.map V.int)) ∧ acc.length ≤ i ∧ acc ++ Km.lasts (ns.drop i) = Km.lasts ns) ⟨same_mut sq1 nD0, by rw [upd_ne nqD]; exact hq1, [], upd_same, Nat.le_refl _, rfl⟩ ?_ ?_
      · rintro i H' hi ⟨s1, h1, acc, h2, hal, hac⟩
        have hi' : i < ns.length := by simpa using hi
        have hx : ns[i]? = some ns[i] := List.getElem?_eq_getElem hi'
        have hf := Km.lasts_drop hx
        have hat : atI (ns.map V.int) (0 + (i : Int)) = some (.int ns[i]) := at_of (j := i) (by omega) (map_get hi')
        generalize ns[i] = x at *
        refine ⟨rfl, ?_⟩
        refine ⟨_, rfl, _, rfl, q, _, _, _, rfl, rfl, SqL.of h1, hat, _, rfl, _, rfl, _, _, rfl, rfl, _, rfl, q, _, rfl, SqL.of h1, fun r nr => ?_⟩
        rw [cut_map, cut_drop (i := i + 1) (by omega) (by omega)]
        have nqr : q ≠ r := ne_of_none h1 nr
        have nDr : D ≠ r := ne_of_none h2 nr
        refine ⟨r, _, rfl, .inl (SqL.of upd_same), rfl, flat_ints _, ?_⟩
        rw [not_in]
        refine ⟨_, rfl, ?_⟩
        refine if2 (fun c => ?_) (fun c => ?_)
        · have hno : ¬ x ∈ ns.drop (i + 1) := fun z => by simp [z] at c
          rw [if_neg hno] at hf
          refine ⟨_, rfl, _, rfl, q, _, _, _, rfl, rfl, SqL.of (by rw [upd_ne nqr]; exact h1), hat, _, by rw [upd_ne nDr]; exact h2, ?_, same_mut (s1.trans (same_new nr)) nD0, by rw [upd_ne nqD, upd_ne nqr]; exact h1, acc ++ [x], ?_, ?_, ?_⟩
          · rw [List.length_map]
            exact small1000 (by omega)
          · rw [upd_same, List.map_append]
            rfl
          · rw [List.length_append, List.length_singleton]
            omega
          · rw [← hac, hf, List.append_assoc]
            rfl
        · have hyes : x ∈ ns.drop (i + 1) := by simpa using c
          rw [if_pos hyes] at hf
          exact ⟨s1.trans (same_new nr), by rw [upd_ne nqr]; exact h1, acc, by rw [upd_ne nDr]; exact h2, by omega, by rw [← hf]; exact hac⟩
      · rintro H' ⟨s1, h1, acc, h2, hal, hac⟩
        have en : ns.drop (((ns.map V.int).length : Int)).toNat = [] := List.drop_eq_nil_of_le (by simp)
        rw [en] at hac
        have ea : acc = Km.pl .tails ns := by
          show acc = (Km.fo [] ns.reverse).reverse
          rw [← Km.lasts_eq, ← hac]
          exact (List.append_nil acc).symm
        rw [ea] at h2
        exact ⟨_, rfl, fin D _ s1 h2⟩
/-! ### _law_normal -/
def sp__law_normal (K : PySem.W.Frag) : Sp := fun vs H Q _ => ∃ (k8 : Km.Kd8) (e : V) (f : Bool) (ns : List Int), vs = [.str (nm k8), e] ∧ Dp K H e (eD f ns) ∧ ∀ v H', Same H H' → Dp K H' v (nE k8 f ns) → Q v H'
theorem ok__law_normal (T : Txt P K mg A') : FnOk P w K mg base CX0 1 A'.f__law_normal A'.fd__law_normal ["_law_kind_here", "_law_effect_here"] (sp__law_normal K) := by
  refine Hk.okN T.F__law_normal sc__law_normal (fun vs H Q E h => ?_) (fun cdv A outer s H vs Q E hr h => ?_)
  · obtain ⟨k8, e, f, ns, rfl, _⟩ := h
    rfl
  · obtain ⟨k8, e, f, ns, rfl, he, k⟩ := h
    obtain ⟨a, t, rfl, h1, h2⟩ := e_inv he
    refine ⟨_, (pss_cons (ps_if (PW.pt (pw_and (pt_cmpR op_eq (pv 0) pe_str (nomark _)) (pw_and1 (pt_cmpR (op_neD hr.units) (pe_ix ix_tup (pv 1) pe_int (fun _ _ => rfl)) (pe_tup pa_nil) (nomark _))))) (pss_one (ps_ret (pe_tup (pa_cons pe_bl (pa_cons (pe_ix ix_tup (pv 1) pe_int (fun _ _ => rfl)) pa_nil))))) pss_nil)
    (pss_one (ps_ret (pe_tup (pa_cons (pe_ix ix_tup (pv 1) pe_int (fun _ _ => rfl)) (pa_cons (pe_ix ix_tup (pv 1) pe_int (fun _ _ => rfl)) pa_nil)))))), ?_⟩
    have hw := w_mk h2
    have mk : ∀ (b : Bool) (H' : Hp), Same H H' → b = nF k8 f ns → ∀ q, H' q = none → Q (.ref q) (upd H' q (.tup [.bl b, .ref t])) := fun b H' s eb q nq => k _ _ (s.trans (same_new nq)) (by
      subst eb
      exact e_mk (.inl (.inl upd_same)) (dp_same (s.trans (same_new nq)) hw))
    refine ⟨_, rfl, rfl, _, rfl, ?_⟩
    have ek := eq_nm k8 .last
    refine if2 (fun c => ?_) (fun c => ?_)
    · refine ⟨_, rfl, a, _, _, _, rfl, rfl, h1, rfl, Nat.zero_le _, fun q nq => ⟨_, _, dp_same (same_new nq) hw, w_mk (ns := []) (.inl (.inl upd_same)), shaped_w _, shaped_w _, _, rfl, ?_⟩⟩
      rw [eqv_w]
      have h1' := seqT_same (same_new (o := .tup []) nq) h1
      refine if2 (fun c2 => ?_) (fun c2 => ?_)
      · refine ⟨_, rfl, a, _, _, _, rfl, rfl, h1', rfl, (by show 2 ≤ sizeLine; decide), fun r nr => mk true _ (same_new nq) ?_ r nr⟩
        unfold nF
        rw [ek.symm.trans c]
        cases ns with
        | nil => simp at c2
        | cons _ _ => rfl
      · refine ⟨_, rfl, a, _, _, _, rfl, rfl, h1', rfl, _, rfl, a, _, _, _, rfl, rfl, h1', rfl, (by show 2 ≤ sizeLine; decide), fun r nr => mk f _ (same_new nq) ?_ r nr⟩
        unfold nF
        cases ns with
        | nil => simp
        | cons _ _ => simp at c2
    · refine ⟨_, rfl, a, _, _, _, rfl, rfl, h1, rfl, _, rfl, a, _, _, _, rfl, rfl, h1, rfl, (by show 2 ≤ sizeLine; decide), fun r nr => mk f _ (.refl _) ?_ r nr⟩
      unfold nF
      rw [ek.symm.trans c, Bool.false_and] <;> rfl
/-! ### _law_field -/
def sp__law_field (K : PySem.W.Frag) : Sp := fun vs H Q _ => ∃ (G R : Addr) (ds : List Int) (r : List Tg) (us : List V) (nv : V) (n : Tg) (s : Nat), vs = [.ref G, .ref R, nv] ∧ SqL K H G (ds.map V.int) ∧ SqL K H R us ∧ DpAll K H us (r.map Tg.d) ∧ Dp K H nv n.d ∧ ds.length = r.length + 1 ∧ r.length ≤ 100 ∧ (∀ t ∈ r, t.s = s) ∧ n.s = s ∧
  ∀ L ws H', H L = none → Same H H' → H' L = some (.lst ws) → DpAll K H' ws ((Fm.form n (Fm.full ds r)).map pcD) → Q (.ref L) H'
theorem ok__law_field (T : Txt P K mg A') : FnOk P w K mg base CX0 1 A'.f__law_field A'.fd__law_field ["_law_grid_here", "_law_row", "_law_none_here"] (sp__law_field K) := by
  refine Hk.okN T.F__law_field sc__law_field (fun vs H Q E h => ?_) (fun cdv A outer s H vs Q E hr h => ?_)
  · obtain ⟨G, R, ds, r, us, nv, n, s, rfl, _⟩ := h
    rfl
  · obtain ⟨G, R, ds, r, us, nv, n, s, rfl, hG, hR, hrd, hn, hl, hm, hs, ns, k⟩ := h
    refine ⟨_, (pss_cons (ps_set (i := 3) sc__law_field.nd rfl (Or.inl rfl) (pe_lst pa_nil))
    (pss_cons (ps_for PassesOwn.never rfl (pi_range1 (by rfl) T.z_range (pa_cons (pe_callB call_len_seq (by rfl) T.z_len (by decide +kernel) (pa_cons (pv 1) pa_nil)) pa_nil)) (pg_name (i := 4) sc__law_field.nd rfl (Or.inl rfl)) (pss_cons (ps_set (i := 5) sc__law_field.nd rfl (Or.inl rfl) (pe_op op_sub (pe_callB call_len_seq (by rfl) T.z_len (by decide +kernel) (pa_cons (pv 3) pa_nil)) pe_int))
    (pss_one (ps_if (pt_cmpR (op_neD hr.units) (pe_ix ix_list (pv 1) (pv 4) (fun _ _ => rfl)) (pv 2) (nomark _)) (pss_one (ps_if (PW.pt (pw_and (pt_cmpR op_ge (pv 5) pe_int (nomark _)) (pw_and (pt_cmpR op_eq (pe_ix ix_tup (pe_ix ix_list (pv 3) (pv 5) (fun _ _ => rfl)) pe_int (fun _ _ => rfl)) (pe_ix ix_list (pv 0) (pv 4) (fun _ _ => rfl)) (nomark _)) (pw_and1 (pt_cmpR (op_eqD hr.units) (pe_ix ix_tup (pe_ix ix_list (pv 3) (pv 5) (fun _ _ => rfl)) pe_int (fun _ _ => rfl)) (pe_ix ix_list (pv 1) (pv 4) (fun _ _ => rfl)) (nomark _)))))) (pss_one (ps_asg (pe_tup (pa_cons (pe_ix ix_tup (pe_ix ix_list (pv 3) (pv 5) (fun _ _ => rfl)) pe_int (fun _ _ => rfl)) (pa_cons (pe_ix ix_list (pv 0) (pe_op op_add (pv 4) pe_int) (fun _ _ => rfl)) (pa_cons (pe_ix ix_list (pv 1) (pv 4) (fun _ _ => rfl)) pa_nil)))) (pg_sub (pv 3) (pv 5) set_list))) (pss_one (ps_expr (pe_bm PySem.F.plainAttrs_list PySem.F.slot_list_append PySem.F.type_list_append mt_append (pv 3) (pa_cons (pe_tup (pa_cons (pe_ix ix_list (pv 0) (pv 4) (fun _ _ => rfl)) (pa_cons (pe_ix ix_list (pv 0) (pe_op op_add (pv 4) pe_int) (fun _ _ => rfl)) (pa_cons (pe_ix ix_list (pv 1) (pv 4) (fun _ _ => rfl)) pa_nil)))) pa_nil)))))) pss_nil))))
    (pss_one (ps_ret (pv 3))))), ?_⟩
    have lr := dpa_lenM hrd
    refine ⟨Nat.zero_le _, fun L nL => ?_⟩
    have s0 := same_new (o := .lst []) nL
    refine ⟨_, rfl, R, us, rfl, .inl (s0.seq hR), _, rfl, by omega, by omega, ?_⟩
    rw [lr]
    have fl := Fm.full_len hl
    have fs : Srt s (Fm.full ds r) := Fm.full_all (R := fun t : Tg => t.s = s) hs
    refine for_range (lo := 0) (n := r.length) (fun i σ' H' => ∃ (o1 o2 : Option V) (ws : List V), σ' = [some (.ref G), some (.ref R), some nv, some (.ref L), o1, o2] ∧ Same H H' ∧ H' L = some (.lst ws) ∧ DpAll K H' ws ((Fm.form n ((Fm.full ds r).take i)).map pcD)) ⟨_, _, [], rfl, s0, upd_same, .nil⟩ ?_ ?_
    · rintro i σ' H' hi ⟨o1, o2, ws, rfl, e, hL, hd⟩
      have hj : r[i]? = some r[i] := List.getElem?_eq_getElem hi
      obtain ⟨u, hu, hud⟩ := dpa_map (dpa_same e hrd) hj
      have ga : ds[i]? = some (ds[i]'(by omega)) := List.getElem?_eq_getElem (by omega)
      have gb : ds[i + 1]? = some (ds[i + 1]'(by omega)) := List.getElem?_eq_getElem (by omega)
      have hp := Fm.full_get ga gb hj
      have et := take_map hp
      have ts := hs _ (List.getElem_mem hi)
      have va : atI (ds.map V.int) (0 + (i : Int)) = some (.int (ds[i]'(by omega))) := at_of (j := i) (by omega) (map_get (by omega))
      have vb : atI (ds.map V.int) (0 + (i : Int) + 1) = some (.int (ds[i + 1]'(by omega))) := at_of (j := i + 1) (by omega) (map_get (by omega))
      have vr : atI us (0 + (i : Int)) = some u := at_of (j := i) (by omega) hu
      generalize r[i] = t at *
      generalize ds[i]'(by omega) = a at *
      generalize ds[i + 1]'(by omega) = b at *
      have hG := e.seq hG
      have hR := e.seq hR
      have lw : ws.length ≤ 100 := by
        have h1 := dpa_lenM hd
        have h2 := Fm.form_len n ((Fm.full ds r).take i)
        rw [List.length_take] at h2
        omega
      refine ⟨_, rfl, L, ws, rfl, .inl (SqL.of hL), _, _, rfl, rfl, ?_⟩
      refine ⟨_, rfl, _, rfl, R, _, _, u, rfl, rfl, hR, vr, _, rfl, _, _, hud, dp_same e hn, tg_sh _, tg_sh _, _, rfl, ?_⟩
      rw [tg_eqv (ts.trans ns.symm)]
      refine if2 (fun c => ?_) (fun c => ?_)
      · have c' : t ≠ n := by simpa using c
        refine ⟨_, rfl, _, _, rfl, rfl, _, rfl, ?_⟩
        rcases Fm.snoc_cases (Fm.form n ((Fm.full ds r).take i)) with ef | ⟨F, f, ef⟩
        · rw [ef] at hd
          cases hd
          refine ifF rfl ?_
          refine ifF rfl ?_
          refine ⟨_, rfl, .inl ⟨rfl, _, SqL.of hL⟩, _, rfl, _, rfl, G, _, _, _, rfl, rfl, hG, va, _, rfl, _, rfl, _, _, rfl, rfl, G, _, _, _, rfl, rfl, hG, vb, _, rfl, _, rfl, R, _, _, u, rfl, rfl, hR, vr, (by show 3 ≤ sizeLine; decide), fun q nq => ?_⟩
          have nLq : L ≠ q := ne_of_none hL nq
          have sn := same_new (o := .tup [.int a, .int b, u]) nq
          have hL2 : upd H' q (.tup [.int a, .int b, u]) L = some (.lst []) := by rw [upd_ne nLq]; exact hL
          refine ⟨L, _, _, rfl, rfl, hL2, by decide, _, _, _, rfl, same_mut (e.trans sn) nL, upd_same, ?_⟩
          rw [et, Fm.form_app, ef, Fm.push_nil c']
          exact .cons (pc_mk (sqt_mut hL2 (.inl (.inl upd_same))) (tg_mut hL2 (dp_same sn hud))) .nil
        · rw [ef, List.map_append] at hd
          obtain ⟨ws, w, rfl, hd1, hd2⟩ := dpa_snoc_inv hd
          obtain ⟨fq, fu, rfl, hf1, hfu⟩ := pc_inv hd2
          have hsf : f.2.2.s = t.s := by
            rw [ts]
            exact form_srt (fun p hp => fs p (List.mem_of_mem_take hp)) f (by rw [ef]; simp)
          have hz : (ws ++ [V.ref fq]).length < sizeLine := small1000 (by omega)
          have es := Fm.push_snoc (Q := F) (q := f) (p := (a, b, t)) c'
          have vl : atI (ws ++ [V.ref fq]) (((ws ++ [V.ref fq]).length : Int) - 1) = some (.ref fq) := at_of (j := ws.length) (by simp) (by simp)
          have key : ¬ (f.2.1 = a ∧ f.2.2 = t) → ∀ q, H' q = none → DpAll K (upd (upd H' q (.tup [.int a, .int b, u])) L (.lst (ws ++ [.ref fq] ++ [.ref q]))) (ws ++ [.ref fq] ++ [.ref q]) ((Fm.form n ((Fm.full ds r).take (i + 1))).map pcD) := fun hno q nq => by
            have nLq : L ≠ q := ne_of_none hL nq
            have sn := same_new (o := .tup [.int a, .int b, u]) nq
            have hL2 : upd H' q (.tup [.int a, .int b, u]) L = some (.lst (ws ++ [.ref fq])) := by rw [upd_ne nLq]; exact hL
            rw [et, Fm.form_app, ef, es, if_neg hno, List.map_append (l₁ := F ++ [f]), List.map_append]
            exact dpa_snoc (by rw [← List.map_append]; exact pcs_mut hL2 (by rw [List.map_append]; exact dpa_same sn hd)) (pc_mk (sqt_mut hL2 (.inl (.inl upd_same))) (tg_mut hL2 (dp_same sn hud)))
          refine ifT (by simp) ?_
          refine ⟨_, rfl, _, rfl, L, _, _, _, rfl, rfl, SqL.of hL, vl, fq, _, _, _, rfl, rfl, hf1, rfl, _, rfl, _, rfl, G, _, _, _, rfl, rfl, hG, va, rfl, _, rfl, ?_⟩
          refine if2 (fun c1 => ?_) (fun c1 => ?_)
          · have c1' : f.2.1 = a := V.int.inj (of_decide_eq_true c1)
            refine ⟨_, rfl, _, rfl, L, _, _, _, rfl, rfl, SqL.of hL, vl, fq, _, _, _, rfl, rfl, hf1, rfl, _, rfl, _, rfl, R, _, _, u, rfl, rfl, hR, vr, _, _, hfu, hud, tg_sh _, tg_sh _, _, rfl, ?_⟩
            rw [tg_eqv hsf]
            refine if2 (fun c2 => ?_) (fun c2 => ?_)
            · have c2' := of_decide_eq_true c2
              refine ⟨_, rfl, _, rfl, L, _, _, _, rfl, rfl, SqL.of hL, vl, fq, _, _, _, rfl, rfl, hf1, rfl, _, rfl, _, rfl, _, _, rfl, rfl, G, _, _, _, rfl, rfl, hG, vb, _, rfl, _, rfl, R, _, _, u, rfl, rfl, hR, vr, (by show 3 ≤ sizeLine; decide), fun q nq => ?_⟩
              have nLq : L ≠ q := ne_of_none hL nq
              have sn := same_new (o := .tup [.int f.1, .int b, u]) nq
              have hL2 : upd H' q (.tup [.int f.1, .int b, u]) L = some (.lst (ws ++ [.ref fq])) := by rw [upd_ne nLq]; exact hL
              refine ⟨_, rfl, _, rfl, L, _, _, ws.length, rfl, rfl, hL2, ?_, _, _, _, rfl, same_mut (e.trans sn) nL, upd_same, ?_⟩
              · have := ixN_nat (n := (ws ++ [V.ref fq]).length) (j := ws.length) (by simp)
                rw [show (((ws ++ [V.ref fq]).length : Int) - 1) = (ws.length : Int) by simp]
                exact this
              · rw [et, Fm.form_app, ef, es, if_pos ⟨c1', c2'⟩, List.map_append, set_last]
                exact dpa_snoc (pcs_mut hL2 (dpa_same sn hd1)) (pc_mk (t := t) (sqt_mut hL2 (.inl (.inl upd_same))) (tg_mut hL2 (dp_same sn hud)))
            · have hno : ¬ (f.2.1 = a ∧ f.2.2 = t) := fun z => of_decide_eq_false c2 z.2
              refine ⟨_, rfl, .inl ⟨rfl, _, SqL.of hL⟩, _, rfl, _, rfl, G, _, _, _, rfl, rfl, hG, va, _, rfl, _, rfl, _, _, rfl, rfl, G, _, _, _, rfl, rfl, hG, vb, _, rfl, _, rfl, R, _, _, u, rfl, rfl, hR, vr, (by show 3 ≤ sizeLine; decide), fun q nq => ?_⟩
              have nLq : L ≠ q := ne_of_none hL nq
              exact ⟨L, _, _, rfl, rfl, (by rw [upd_ne nLq]; exact hL), hz, _, _, _, rfl, same_mut (e.trans (same_new nq)) nL, upd_same, key hno q nq⟩
          · have hno : ¬ (f.2.1 = a ∧ f.2.2 = t) := fun z => of_decide_eq_false c1 (by rw [z.1])
            refine ifF rfl ?_
            refine ⟨_, rfl, .inl ⟨rfl, _, SqL.of hL⟩, _, rfl, _, rfl, G, _, _, _, rfl, rfl, hG, va, _, rfl, _, rfl, _, _, rfl, rfl, G, _, _, _, rfl, rfl, hG, vb, _, rfl, _, rfl, R, _, _, u, rfl, rfl, hR, vr, (by show 3 ≤ sizeLine; decide), fun q nq => ?_⟩
            have nLq : L ≠ q := ne_of_none hL nq
            exact ⟨L, _, _, rfl, rfl, (by rw [upd_ne nLq]; exact hL), hz, _, _, _, rfl, same_mut (e.trans (same_new nq)) nL, upd_same, key hno q nq⟩
      · have c' : t = n := by simpa using c
        exact ⟨_, _, ws, rfl, e, hL, by rw [et, Fm.form_app, Fm.push_neutral c']; exact hd⟩
    · rintro σ' H' ⟨o1, o2, ws, rfl, e, hL, hd⟩
      rw [← fl, List.take_length] at hd
      exact ⟨_, rfl, k L ws H' nL e hL hd⟩
/-! ### _law_is_number -/
def sp__law_is_number (K : PySem.W.Frag) : Sp := fun vs H Q _ => ∃ (v : V) (d : PyData), vs = [v] ∧ Dp K H v d ∧ Q (.bl (isW d)) H
theorem ok__law_is_number (T : Txt P K mg A') : FnOk P w K mg base CX0 1 A'.f__law_is_number A'.fd__law_is_number ["_law_thing_here"] (sp__law_is_number K) := by
  refine Hk.okN T.F__law_is_number sc__law_is_number (fun vs H Q E h => ?_) (fun cdv A outer s H vs Q E hr h => ?_)
  · obtain ⟨v, d, rfl, _⟩ := h
    rfl
  · obtain ⟨v, d, rfl, hd, k⟩ := h
    refine ⟨_, (pss_one (ps_ret (pe_and (pe_callB call_isD (by rfl) T.z_isinstance (by decide +kernel) (pa_cons (pv 0) (pa_cons (pe_bltn (v := .ty "int") (by rfl) T.z_int (by decide +kernel) rfl) pa_nil))) (pe_one (pe_not (pe_callB call_isD (by rfl) T.z_isinstance (by decide +kernel) (pa_cons (pv 0) (pa_cons (pe_bltn (v := .ty "bool") (by rfl) T.z_bool (by decide +kernel) rfl) pa_nil)))))))), ?_⟩
    refine ⟨_, rfl, _, _, _, rfl, okT_int, hd, _, rfl, ?_⟩
    refine if2 (fun c => ?_) (fun c => ?_)
    · refine ⟨_, rfl, _, _, _, rfl, okT_bool, hd, _, rfl, ?_⟩
      unfold isW at k
      rw [c, Bool.true_and] at k
      exact k
    · unfold isW at k
      rw [c, Bool.false_and] at k
      exact k
/-! ### _law_thing_at -/
def sp__law_thing_at (K : PySem.W.Frag) : Sp := fun vs H Q _ => ∃ (G R : Addr) (ds : List Int) (r : List Tg) (us : List V) (nv : V) (n : Tg) (x : Int), vs = [.ref G, .ref R, nv, .int x] ∧ SqL K H G (ds.map V.int) ∧ SqL K H R us ∧ DpAll K H us (r.map Tg.d) ∧ Dp K H nv n.d ∧ ds.length = r.length + 1 ∧ r.length ≤ 100 ∧ ds.Pairwise (· < ·) ∧
  ∀ u, Dp K H u (Fm.rw_ n ds r x).d → Q u H
theorem ok__law_thing_at (T : Txt P K mg A') : FnOk P w K mg base CX0 1 A'.f__law_thing_at A'.fd__law_thing_at ["_law_grid_here", "_law_row", "_law_none_here", "_law_key"] (sp__law_thing_at K) := by
  refine Hk.okN T.F__law_thing_at sc__law_thing_at (fun vs H Q E h => ?_) (fun cdv A outer s H vs Q E hr h => ?_)
  · obtain ⟨G, R, ds, r, us, nv, n, x, rfl, _⟩ := h
    rfl
  · obtain ⟨G, R, ds, r, us, nv, n, x, rfl, hG, hR, hrd, hn, hl, hm, hp, k⟩ := h
    refine ⟨_, (pss_cons (ps_for PassesOwn.never rfl (pi_range1 (by rfl) T.z_range (pa_cons (pe_callB call_len_seq (by rfl) T.z_len (by decide +kernel) (pa_cons (pv 1) pa_nil)) pa_nil)) (pg_name (i := 4) sc__law_thing_at.nd rfl (Or.inl rfl)) (pss_one (ps_if (pt_chain op_le op_lt (pe_ix ix_list (pv 0) (pv 4) (fun _ _ => rfl)) (pv 3) (pe_ix ix_list (pv 0) (pe_op op_add (pv 4) pe_int) (fun _ _ => rfl))) (pss_one (ps_ret (pe_ix ix_list (pv 1) (pv 4) (fun _ _ => rfl)))) pss_nil)))
    (pss_one (ps_ret (pv 2)))), ?_⟩
    have lr := dpa_lenM hrd
    refine ⟨_, rfl, R, us, rfl, .inl hR, _, rfl, by omega, by omega, ?_⟩
    rw [lr]
    refine for_range (lo := 0) (n := r.length) (fun i σ' H' => H' = H ∧ ∃ (o : Option V), σ' = [some (.ref G), some (.ref R), some nv, some (.int x), o] ∧ Fm.rw_ n ds r x = Fm.rw_ n (ds.drop i) (r.drop i) x) ⟨rfl, _, rfl, rfl⟩ ?_ ?_
    · rintro i σ' H' hi ⟨rfl, o, rfl, er⟩
      have hj : r[i]? = some r[i] := List.getElem?_eq_getElem hi
      obtain ⟨u, hu, hud⟩ := dpa_map hrd hj
      have ga : ds[i]? = some (ds[i]'(by omega)) := List.getElem?_eq_getElem (by omega)
      have gb : ds[i + 1]? = some (ds[i + 1]'(by omega)) := List.getElem?_eq_getElem (by omega)
      have va : atI (ds.map V.int) (0 + (i : Int)) = some (.int (ds[i]'(by omega))) := at_of (j := i) (by omega) (map_get (by omega))
      have vb : atI (ds.map V.int) (0 + (i : Int) + 1) = some (.int (ds[i + 1]'(by omega))) := at_of (j := i + 1) (by omega) (map_get (by omega))
      have ra := fun h1 h2 => Fm.rw_at (n := n) (x := x) hp hj ga gb h1 h2
      have rs := fun h => Fm.rw_skip (n := n) (r := r) (x := x) ga gb hi h
      generalize r[i] = t at *
      generalize ds[i]'(by omega) = a at *
      generalize ds[i + 1]'(by omega) = b at *
      refine ⟨_, rfl, _, rfl, G, _, _, _, rfl, rfl, hG, va, _, rfl, _, _, rfl, rfl, _, rfl, ?_⟩
      refine if2 (fun c1 => ?_) (fun c1 => ?_)
      · have c1' := of_decide_eq_true c1
        refine ⟨_, rfl, _, rfl, _, _, rfl, rfl, G, _, _, _, rfl, rfl, hG, vb, _, _, rfl, rfl, _, rfl, ?_⟩
        refine if2 (fun c2 => ?_) (fun c2 => ?_)
        · have c2' := of_decide_eq_true c2
          refine ⟨_, rfl, _, rfl, R, _, _, u, rfl, rfl, hR, at_of (j := i) (by omega) hu, k u ?_⟩
          rw [ra c1' c2']
          exact hud
        · exact ⟨rfl, _, rfl, er.trans (rs fun z => of_decide_eq_false c2 z.2)⟩
      · exact ⟨_, rfl, ifF rfl ⟨rfl, _, rfl, er.trans (rs fun z => of_decide_eq_false c1 z.1)⟩⟩
    · rintro σ' H' ⟨rfl, o, rfl, er⟩
      refine ⟨_, rfl, k nv ?_⟩
      have e1 : r.drop r.length = [] := List.drop_length
      rw [er, e1]
      have e2 : Fm.rw_ n (ds.drop r.length) [] x = n := by
        unfold Fm.rw_
        split
        · rename_i h; cases h
        · rfl
      rw [e2]
      exact hn
/-! ### _law_look_keys -/
def sp__law_look_keys (K : PySem.W.Frag) : Sp := fun vs H Q _ => ∃ (G : Addr) (gs : List Int), vs = [.ref G] ∧ SqL K H G (gs.map V.int) ∧ gs.length ≤ 100 ∧
  ∀ (p : Addr) (ks : List Int) H', H p = none → Same H H' → H' p = some (.lst (ks.map V.int)) → (∀ x ∈ ks, 0 ≤ x ∧ x < 1000000) → ks.length ≤ 1000 → Q (.ref p) H'
theorem all_flat : ∀ (ns : List Int), (ns.map V.int).all flatV = true
  | [] => rfl
  | n :: r => by
    show (flatV (.int n) && (r.map V.int).all flatV) = true
    rw [all_flat r] <;> rfl
theorem ok__law_look_keys (T : Txt P K mg A') : FnOk P w K mg base CX0 1 A'.f__law_look_keys A'.fd__law_look_keys ["_law_grid_here"] (sp__law_look_keys K) := by
  refine Hk.okN T.F__law_look_keys sc__law_look_keys (fun vs H Q E h => ?_) (fun cdv A outer s H vs Q E hr h => ?_)
  · obtain ⟨G, gs, rfl, _⟩ := h
    rfl
  · obtain ⟨G, gs, rfl, hG, hl, k⟩ := h
    refine ⟨_, (pss_cons (ps_set (i := 1) sc__law_look_keys.nd rfl (Or.inl rfl) (pe_lst (pa_cons pe_int (pa_cons pe_int pa_nil))))
    (pss_cons (ps_for PassesOwn.never rfl (pi_list (pv 0)) (pg_name (i := 2) sc__law_look_keys.nd rfl (Or.inl rfl)) (pss_one (ps_for PassesOwn.never rfl (pi_tup (pe_tup (pa_cons (pe_op op_sub (pv 2) pe_int) (pa_cons (pv 2) pa_nil)))) (pg_name (i := 3) sc__law_look_keys.nd rfl (Or.inl rfl)) (pss_one (ps_if (PW.pt (pw_and (pt_chain op_le op_lt pe_int (pv 3) pe_int) (pw_and1 (pt_cmpR op_notIn_seq (pv 3) (pv 1) (by rfl))))) (pss_one (ps_expr (pe_bm PySem.F.plainAttrs_list PySem.F.slot_list_append PySem.F.type_list_append mt_append (pv 1) (pa_cons (pv 3) pa_nil)))) pss_nil)))))
    (pss_one (ps_ret (pv 1))))), ?_⟩
    refine ⟨(by show 2 ≤ sizeLine; decide), fun p np => ?_⟩
    have hgp : ∀ {H' : Hp}, Same H H' → SqL K H' G (gs.map V.int) := fun e => e.seq hG
    refine ⟨_, rfl, G, rfl, ⟨_, hgp (same_new np)⟩, for_list (K := K) (a := G) (xs := gs.map V.int) (fun i σ' H' => ∃ (ks : List Int) (y z : Option V), σ' = [some (.ref G), some (.ref p), y, z] ∧ Same H H' ∧ H' p = some (.lst (ks.map V.int)) ∧ (∀ x ∈ ks, 0 ≤ x ∧ x < 1000000) ∧ ks.length ≤ 2 + 2 * i)
      ⟨[0, 999999], none, none, rfl, same_new np, upd_same, fun x hx => by have e := List.mem_cons.mp hx; have e2 : x = 0 ∨ x = 999999 := e.imp id List.mem_singleton.mp; omega, Nat.le_refl _⟩ (fun i σ' H' _ ⟨_, _, _, _, e, _⟩ => hgp e) ?_ ?_⟩
    · rintro i x σ' H' hi ⟨ks, y, z, rfl, e1, hk, hr, hz⟩
      obtain ⟨n, hn, rfl⟩ := map_some hi
      have hi2 : i < gs.length := by
        have q := (List.getElem?_eq_some_iff.mp hn).1
        exact q
      refine ⟨_, rfl, _, _, rfl, rfl, _, rfl, (by show 2 ≤ sizeLine; decide), fun t nt => ?_⟩
      have ntp : p ≠ t := ne_of_none hk nt
      have nt0 := e1.free nt
      refine ⟨t, rfl, ⟨_, .inl (.inl upd_same)⟩, for_tup (K := K) (a := t) (xs := [.int (n - 1), .int n]) (fun j σ' H2 => ∃ (ks : List Int) (z : Option V), σ' = [some (.ref G), some (.ref p), some (.int n), z] ∧ Same H H2 ∧ H2 t = some (.tup [.int (n - 1), .int n]) ∧ H2 p = some (.lst (ks.map V.int)) ∧ (∀ x ∈ ks, 0 ≤ x ∧ x < 1000000) ∧ ks.length ≤ 2 + 2 * i + j)
        ⟨ks, z, rfl, same_mut e1 nt0, upd_same, by rw [upd_ne ntp]; exact hk, hr, hz⟩ (fun j σ' H2 _ ⟨_, _, _, _, h, _⟩ => .inl (.inl h)) ?_ ?_⟩
      · rintro j x σ' H2 hj ⟨ks, z, rfl, e2, ht, hk, hr, hz⟩
        obtain ⟨q, rfl⟩ : ∃ q, x = V.int q := by
          match j, hj with
          | 0, h => exact ⟨_, (Option.some.inj h).symm⟩
          | 1, h => exact ⟨_, (Option.some.inj h).symm⟩
        have hj2 : j < 2 := (List.getElem?_eq_some_iff.mp hj).1
        refine ⟨_, rfl, _, _, rfl, rfl, _, rfl, ?_⟩
        refine if2 (fun c1 => ?_) (fun c1 => ?_)
        · refine ⟨_, _, rfl, rfl, _, rfl, ?_⟩
          refine if2 (fun c2 => ?_) (fun c2 => ⟨ks, _, rfl, e2, ht, hk, hr, by omega⟩)
          have c1' := of_decide_eq_true c1
          have c2' := of_decide_eq_true c2
          refine ⟨_, rfl, _, rfl, p, _, rfl, .inl (SqL.of hk), rfl, all_flat ks, _, rfl, ?_⟩
          refine if2 (fun c3 => ?_) (fun c3 => ⟨ks, _, rfl, e2, ht, hk, hr, by omega⟩)
          refine ⟨_, rfl, .inl ⟨rfl, _, SqL.of hk⟩, _, rfl, p, _, _, rfl, rfl, hk, ?_, ?_⟩
          · rw [List.length_map]; exact small1000 (by omega)
          · refine ⟨ks ++ [q], _, rfl, same_mut e2 np, ?_, by rw [upd_same, List.map_append]; rfl, fun x hx => ?_, ?_⟩
            · rw [upd_ne ntp.symm]; exact ht
            · rcases List.mem_append.mp hx with hx | hx
              · exact hr x hx
              · have := List.mem_singleton.mp hx; omega
            · rw [List.length_append, List.length_singleton]; omega
        · refine ⟨_, rfl, ?_⟩
          exact ⟨ks, _, rfl, e2, ht, hk, hr, by omega⟩
      · rintro σ' H2 ⟨ks, z, rfl, e2, ht, hk, hr, hz⟩
        exact ⟨ks, _, _, rfl, e2, hk, hr, by simp at hz; omega⟩
    · rintro σ' H' ⟨ks, y, z, rfl, e1, hk, hr, hz⟩
      rw [List.length_map] at hz
      exact ⟨_, rfl, k p ks H' np e1 hk hr (by omega)⟩
/-! ### is_key -/
def isKey : PyData → Bool
  | .int i => decide (0 ≤ i) && decide (i < 1000000)
  | _ => false
def sp_is_key (K : PySem.W.Frag) : Sp := fun vs H Q _ => ∃ (v : V) (d : PyData), vs = [v] ∧ Dp K H v d ∧ Q (.bl (isKey d)) H
theorem ok_is_key (T : Txt P K mg A') : FnOk P w K mg base CX0 2 A'.f_is_key A'.fd_is_key ["thing"] (sp_is_key K) := by
  refine Hk.okN T.F_is_key sc_is_key (fun vs H Q E h => ?_) (fun cdv A outer s H vs Q E hr h => ?_)
  · obtain ⟨v, d, rfl, _⟩ := h
    rfl
  · obtain ⟨tk_TOP, c_TOP⟩ := T.c_TOP
    obtain ⟨v, d, rfl, hd, k⟩ := h
    refine ⟨_, (pss_one (ps_ret (pe_and (pe_call (ok_is_whole T) (hr.mono (by decide)) rfl T.g_is_whole T.F_is_whole.kp T.b_is_whole .nil pass0 (pa_cons (pv 0) pa_nil)) (pe_one (pe_chain op_le op_lt pe_int (pv 0) (pe_glob (v := .int 1000000) rfl c_TOP ⟨_, rfl⟩)))))), ?_⟩
    refine ⟨_, rfl, _, _, rfl, hd, _, rfl, ?_⟩
    refine if2 (fun c => ?_) (fun c => ?_)
    · obtain ⟨i, rfl⟩ := isW_not c
      cases hd
      refine ⟨_, rfl, _, _, rfl, rfl, _, rfl, ?_⟩
      have k' : Q (.bl (decide (0 ≤ i) && decide (i < 1000000))) H := k
      refine if2 (fun c => ?_) (fun c => ?_)
      · rw [c, Bool.true_and] at k'
        exact ⟨_, _, rfl, rfl, k'⟩
      · rw [c, Bool.false_and] at k'
        exact k'
    · have e : isKey d = false := by
        cases d with
        | int i => rw [isW_int] at c; cases c
        | _ => rfl
      rw [e] at k
      exact k
/-! ### is_stretch -/
def isStr : PyData → Bool
  | .tuple [.int a, .int b] => decide (0 ≤ a) && (decide (a < b) && decide (b ≤ 1000000))
  | _ => false
def sp_is_stretch (K : PySem.W.Frag) : Sp := fun vs H Q _ => ∃ (v : V) (d : PyData), vs = [v] ∧ Dp K H v d ∧ Q (.bl (isStr d)) H
theorem ok_is_stretch (T : Txt P K mg A') : FnOk P w K mg base CX0 2 A'.f_is_stretch A'.fd_is_stretch ["thing"] (sp_is_stretch K) := by
  refine Hk.okN T.F_is_stretch sc_is_stretch (fun vs H Q E h => ?_) (fun cdv A outer s H vs Q E hr h => ?_)
  · obtain ⟨v, d, rfl, _⟩ := h
    rfl
  · obtain ⟨tk_TOP, c_TOP⟩ := T.c_TOP
    obtain ⟨v, d, rfl, hd, k⟩ := h
    have hno : isStr d = false → ∀ H', H' = H → Q (.bl false) H' := fun e H' e' => by rw [e']; rw [e] at k; exact k
    refine ⟨_, (pss_cons (ps_if (PW.pt (pw_or (pt_not (pt_val (pe_callB call_isD (by rfl) T.z_isinstance (by decide +kernel) (pa_cons (pv 0) (pa_cons (pe_bltn (v := .ty "tuple") (by rfl) T.z_tuple (by decide +kernel) rfl) pa_nil))))) (pw_or1 (pt_cmpR op_ne (pe_callB call_len_seq (by rfl) T.z_len (by decide +kernel) (pa_cons (pv 0) pa_nil)) pe_int (nomark _))))) (pss_one (ps_ret pe_bl)) pss_nil)
    (pss_cons (ps_asg (pv 0) (pg_tup (by rfl) (pgs_cons (pg_name (i := 1) sc_is_stretch.nd rfl (Or.inl rfl)) (pgs_cons (pg_name (i := 2) sc_is_stretch.nd rfl (Or.inl rfl)) pgs_nil))))
    (pss_one (ps_ret (pe_and (pe_call (ok_is_whole T) (hr.mono (by decide)) rfl T.g_is_whole T.F_is_whole.kp T.b_is_whole .nil pass0 (pa_cons (pv 1) pa_nil)) (pe_and (pe_call (ok_is_whole T) (hr.mono (by decide)) rfl T.g_is_whole T.F_is_whole.kp T.b_is_whole .nil pass0 (pa_cons (pv 2) pa_nil)) (pe_one (pe_chain3 op_le op_lt op_le pe_int (pv 1) (pv 2) (pe_glob (v := .int 1000000) rfl c_TOP ⟨_, rfl⟩))))))))), ?_⟩
    refine ⟨_, rfl, _, _, _, rfl, okT_tuple, hd, _, rfl, ?_⟩
    refine if2 (fun c => ?_) (fun c => ?_)
    · have c' : isI "tuple" d = false := by cases e : isI "tuple" d <;> simp_all
      refine hno ?_ _ rfl
      cases d with
      | tuple ds => rw [isI_tuple_tuple] at c'; cases c'
      | _ => rfl
    · have c' : isI "tuple" d = true := by cases e : isI "tuple" d <;> simp_all
      obtain ⟨ds, rfl⟩ := tup_of c'
      cases hd with
      | @tup a xs ds h1 h2 =>
        have hl := dpa_len h2
        refine ⟨_, rfl, a, xs, rfl, .inr h1, rfl, _, rfl, ?_⟩
        refine if2 (fun cl => ?_) (fun cl => ?_)
        · refine hno ?_ _ rfl
          have cl' : xs.length ≠ 2 := fun e => by rw [e] at cl; exact absurd cl (by decide)
          unfold isStr
          split
          · rename_i a b e
            cases e
            exact absurd hl cl'
          · rfl
        · have cl' : xs.length = 2 := by
            have z : decide (V.int ((xs.length : Nat) : Int) = V.int 2) = true := by
              cases e : decide (V.int ((xs.length : Nat) : Int) = V.int 2) <;> simp_all
            have z2 := V.int.inj (of_decide_eq_true z)
            omega
          obtain ⟨x, y, rfl⟩ : ∃ x y, xs = [x, y] := by
            match xs, cl' with
            | [x, y], _ => exact ⟨x, y, rfl⟩
          obtain ⟨d1, d2, rfl, hd1, hd2⟩ : ∃ d1 d2, ds = [d1, d2] ∧ Dp K H x d1 ∧ Dp K H y d2 := by
            cases h2 with
            | cons p q =>
              cases q with
              | cons p' q' =>
                cases q'
                exact ⟨_, _, rfl, p, p'⟩
          refine ⟨_, rfl, a, [x, y], rfl, h1, rfl, x, [y], rfl, y, [], rfl, rfl, ?_⟩
          refine ⟨_, rfl, x, d1, rfl, hd1, _, rfl, ?_⟩
          have hw1 : isW d1 = false → isStr (.tuple [d1, d2]) = false := fun e => by
            unfold isStr
            split
            · rename_i e'
              cases e'
              rw [isW_int] at e; cases e
            · rfl
          have hw2 : isW d2 = false → isStr (.tuple [d1, d2]) = false := fun e => by
            unfold isStr
            split
            · rename_i e'
              cases e'
              rw [isW_int] at e; cases e
            · rfl
          refine if2 (fun c1 => ?_) (fun c1 => hno (hw1 c1) _ rfl)
          refine ⟨_, rfl, y, d2, rfl, hd2, _, rfl, ?_⟩
          refine if2 (fun c2 => ?_) (fun c2 => hno (hw2 c2) _ rfl)
          obtain ⟨i, rfl⟩ := isW_not c1
          obtain ⟨j, rfl⟩ := isW_not c2
          cases hd1
          cases hd2
          have k' : Q (.bl (decide (0 ≤ i) && (decide (i < j) && decide (j ≤ 1000000)))) H := k
          refine ⟨_, rfl, _, _, rfl, rfl, _, rfl, ?_⟩
          refine if2 (fun c3 => ?_) (fun c3 => ?_)
          · rw [c3, Bool.true_and] at k'
            refine ⟨_, rfl, _, _, rfl, rfl, _, rfl, ?_⟩
            refine if2 (fun c4 => ?_) (fun c4 => ?_)
            · rw [c4, Bool.true_and] at k'
              exact ⟨_, _, rfl, rfl, k'⟩
            · rw [c4, Bool.false_and] at k'
              exact k'
          · rw [c3, Bool.false_and] at k'
            exact k'
/-! ### _law_draw -/
def sp__law_draw (K : PySem.W.Frag) : Sp := fun vs H Q _ => ∃ (S c : Addr) (m : Int), vs = [.ref S, .int m] ∧ Stm S c H ∧ 1 ≤ m ∧ m < 1073741824 ∧ ∀ (r : Int) H', 0 ≤ r → r < m → Stm S c H' → Ext S H H' → Q (.int r) H'
theorem ok__law_draw (T : Txt P K mg A') : FnOk P w K mg base CX0 2 A'.f__law_draw A'.fd__law_draw ["_law_stream_here", "_law_many"] (sp__law_draw K) := by
  refine Hk.okN T.F__law_draw sc__law_draw (fun vs H Q E h => ?_) (fun cdv A outer s H vs Q E hr h => ?_)
  · obtain ⟨S, c, m, rfl, _⟩ := h
    rfl
  · obtain ⟨S, c, m, rfl, hSt, hm1, hm2, k⟩ := h
    have ncS := hSt.ne
    obtain ⟨ns, p, v, hS, hC, h63, hp, hv⟩ := hSt
    refine ⟨_, (Evl.pss_cut (ps_if (PW.pt (pw_and (pt_cmpR op_eq (pe_ix ix_list (pv 0) pe_int (fun _ _ => rfl)) pe_int (nomark _)) (pw_and1 (pt_cmpR op_lt (pe_ix ix_list (pv 0) pe_int (fun _ _ => rfl)) (pe_callB call_len_seq (by rfl) T.z_len (by decide +kernel) (pa_cons (pe_ix ix_list (pv 0) pe_int (fun _ _ => rfl)) pa_nil)) (nomark _))))) (pss_cons (ps_set (i := 2) sc__law_draw.nd rfl (Or.inl rfl) (pe_ix ix_list (pe_ix ix_list (pv 0) pe_int (fun _ _ => rfl)) (pe_ix ix_list (pv 0) pe_int (fun _ _ => rfl)) (fun _ _ => rfl)))
    (pss_cons (ps_asg (pe_op op_add (pe_ix ix_list (pv 0) pe_int (fun _ _ => rfl)) pe_int) (pg_sub (pv 0) pe_int set_list))
    (pss_cons (ps_asg (pe_callB call_abs (by rfl) T.z_abs (by decide +kernel) (pa_cons (pv 2) pa_nil)) (pg_sub (pv 0) pe_int set_list))
    (pss_one (ps_if (pt_cmpR op_lt (pe_ix ix_list (pv 0) pe_int (fun _ _ => rfl)) (pe_op op_pow pe_int pe_int) (nomark _)) (pss_one (ps_asg (pe_call (ok__law_mixed T) (hr.mono (by decide)) rfl T.g__law_mixed T.F__law_mixed.kp T.b__law_mixed .nil pass0 (pa_cons (pv 2) (pa_cons (pe_ix ix_list (pv 0) pe_int (fun _ _ => rfl)) pa_nil))) (pg_sub (pv 0) pe_int set_list))) pss_nil))))) pss_nil)
    (pss_cons (ps_set (i := 3) sc__law_draw.nd rfl (Or.inl rfl) (pe_op op_mod (pe_callTy call_int1 (by rfl) T.z_int (by decide +kernel) (pa_cons (pe_ix ix_list (pv 0) pe_int (fun _ _ => rfl)) pa_nil)) (pv 1)))
    (pss_cons (ps_asg (pe_op op_fdiv (pe_callTy call_int1 (by rfl) T.z_int (by decide +kernel) (pa_cons (pe_ix ix_list (pv 0) pe_int (fun _ _ => rfl)) pa_nil)) (pv 1)) (pg_sub (pv 0) pe_int set_list))
    (pss_one (ps_ret (pv 3)))))), ?_⟩
    refine ⟨fun σ' H1 => ∃ (p' : Nat) (v' : Int) (z : Option V), σ' = [some (.ref S), some (.int m), z, none] ∧ H1 S = some (.lst [.ref c, .int (p' : Int), .int v']) ∧ H1 c = some (.lst (ns.map V.int)) ∧ p' ≤ ns.length ∧ 0 ≤ v' ∧ Ext S H H1, ?_, ?_⟩
    · refine ⟨_, rfl, S, _, _, _, rfl, rfl, SqL.of hS, rfl, rfl, _, rfl, ?_⟩
      refine if2 (fun c1 => ?_) (fun c1 => ⟨p, v, none, rfl, hS, hC, hp, hv, .refl _ _⟩)
      refine ⟨_, rfl, S, _, _, _, rfl, rfl, SqL.of hS, rfl, _, rfl, S, _, _, _, rfl, rfl, SqL.of hS, rfl, c, _, rfl, .inl (SqL.of hC), _, _, rfl, rfl, _, rfl, ?_⟩
      refine if2 (fun c2 => ?_) (fun c2 => ⟨p, v, none, rfl, hS, hC, hp, hv, .refl _ _⟩)
      have c2' := of_decide_eq_true c2
      rw [List.length_map] at c2'
      have hlt : p < ns.length := by omega
      have hget : (ns.map V.int)[p]? = some (V.int ns[p]) := by rw [List.getElem?_map, List.getElem?_eq_getElem hlt] <;> rfl
      generalize ns[p] = n at hget
      refine ⟨_, rfl, S, _, _, _, rfl, rfl, SqL.of hS, rfl, _, rfl, S, _, _, _, rfl, rfl, SqL.of hS, rfl, c, _, _, _, rfl, rfl, SqL.of hC, atI_nat hget, ?_⟩
      refine ⟨_, rfl, S, _, _, _, rfl, rfl, SqL.of hS, rfl, _, _, rfl, rfl, _, rfl, S, _, _, _, rfl, rfl, hS, rfl, ?_⟩
      refine ⟨_, rfl, _, rfl, _, rfl, S, _, _, _, rfl, rfl, upd_same, rfl, ?_⟩
      have e3 : ∀ {A B : HO}, Ext S H (upd (upd H S A) S B) := fun {A B} => (Ext.at (o := A)).trans .at
      refine ⟨_, rfl, S, _, _, _, rfl, rfl, SqL.of upd_same, rfl, _, _, rfl, rfl, ⟨by decide, by decide, by decide⟩, _, _, rfl, rfl, _, rfl, ?_⟩
      refine if2 (fun c3 => ?_) (fun c3 => ?_)
      · have c3' : (if n < 0 then -n else n) < 1000000000000000000 := of_decide_eq_true c3
        refine ⟨_, rfl, _, rfl, S, _, _, _, rfl, rfl, SqL.of upd_same, rfl, n, p + 1, rfl, by omega, by omega, fun r hr0 => ?_⟩
        refine ⟨_, rfl, S, _, _, _, rfl, rfl, upd_same, rfl, ?_⟩
        exact ⟨p + 1, r, _, rfl, upd_same, by rw [upd_ne ncS, upd_ne ncS, upd_ne ncS]; exact hC, by omega, hr0, e3.trans .at⟩
      · exact ⟨p + 1, _, _, rfl, upd_same, by rw [upd_ne ncS, upd_ne ncS]; exact hC, by omega, by omega, e3⟩
    · rintro σ' H1 ⟨p', v', z, rfl, h1, h2, hp', hv', e1⟩
      refine ⟨_, rfl, S, _, _, _, rfl, rfl, SqL.of h1, rfl, .inl ⟨_, rfl, _, rfl, _, _, rfl, rfl, (show (0 : Int) < m by omega), ?_⟩⟩
      refine ⟨_, rfl, S, _, _, _, rfl, rfl, SqL.of h1, rfl, .inl ⟨_, rfl, _, rfl, _, _, rfl, rfl, ⟨by omega, by omega⟩, _, rfl, S, _, _, _, rfl, rfl, h1, rfl, ?_⟩⟩
      exact ⟨_, rfl, k _ _ (Int.emod_nonneg _ (by omega)) (Int.emod_lt_of_pos _ (by omega)) ⟨ns, p', v' / m, upd_same, by rw [upd_ne ncS]; exact h2, h63, hp', Int.ediv_nonneg hv' (by omega)⟩ (e1.trans .at)⟩
/-! ### _law_is_word -/
def sp__law_is_word (K : PySem.W.Frag) : Sp := fun vs H Q _ => ∃ (v : V) (d : PyData), vs = [v] ∧ Dp K H v d ∧ few d ∧ ∀ H', Same H H' → Q (.bl (isWd isW d)) H'
theorem ok__law_is_word (T : Txt P K mg A') : FnOk P w K mg base CX0 2 A'.f__law_is_word A'.fd__law_is_word ["_law_thing_here"] (sp__law_is_word K) := by
  refine Hk.okN T.F__law_is_word sc__law_is_word (fun vs H Q E h => ?_) (fun cdv A outer s H vs Q E hr h => ?_)
  · obtain ⟨v, d, rfl, _⟩ := h
    rfl
  · obtain ⟨v, d, rfl, hd, hz, k⟩ := h
    refine ⟨_, (pss_one (ps_ret (pe_and (pe_callB call_isD (by rfl) T.z_isinstance (by decide +kernel) (pa_cons (pv 0) (pa_cons (pe_bltn (v := .ty "tuple") (by rfl) T.z_tuple (by decide +kernel) rfl) pa_nil))) (pe_one (pe_callB (cr_all rfl) (by rfl) T.z_all (by decide +kernel) (pa_cons (pe_lc (own := [("_law_letter", 1)]) (g := gName 1) (tt := tYes) (by rfl) sc__law_is_word.nd (pi_tup (pv 0)) (blkOk_by (own := [("_law_letter", 1)]) (N := ["_law_thing_here", "_law_letter"]) (sc := defScope s__law_is_word) (by decide +kernel)) (fun _ _ _ _ _ => (pg_name (i := 1) sc__law_is_word.nd rfl (Or.inl rfl))) (fun _ _ _ _ _ => pts_nil) (fun _ _ _ _ _ => (pe_call (ok__law_is_number T) (hr.mono (by decide)) rfl T.g__law_is_number T.F__law_is_number.kp T.b__law_is_number .nil pass0 (pa_cons (pv 1) pa_nil)))) pa_nil)))))), ?_⟩
    refine ⟨_, rfl, _, _, _, rfl, okT_tuple, hd, _, rfl, ?_⟩
    refine if2 (fun c => ?_) (fun c => ?_)
    · obtain ⟨ds, rfl⟩ := tup_of c
      cases hd with
      | @tup a xs ds h1 h2 =>
        refine cb1 (all_dat (f := isW) (fun Q q => ⟨_, rfl, q⟩) h1 h2 (hz _ rfl) (fun x d H' Q' s1 _ hx q => ⟨rfl, _, rfl, x, d, rfl, hx, q⟩) fun D H' s1 hD => ?_)
        refine ⟨D, _, rfl, hD, ?_⟩
        rw [all_map]
        exact k H' s1
    · have e := isWd_not (f := isW) d c
      rw [e] at k
      exact k H (.refl _)
/-! ### _law_pick -/
def sp__law_pick (K : PySem.W.Frag) : Sp := fun vs H Q _ => ∃ (S c : Addr) (m : Int), vs = [.ref S, .int m] ∧ Stm S c H ∧ 1 ≤ m ∧ ∀ (r : Int) H', 0 ≤ r → r < m → r < 10 → Stm S c H' → Ext S H H' → Q (.int r) H'
theorem ok__law_pick (T : Txt P K mg A') : FnOk P w K mg base CX0 3 A'.f__law_pick A'.fd__law_pick ["_law_stream_here", "_law_many"] (sp__law_pick K) := by
  refine Hk.okN T.F__law_pick sc__law_pick (fun vs H Q E h => ?_) (fun cdv A outer s H vs Q E hr h => ?_)
  · obtain ⟨S, c, m, rfl, _⟩ := h
    rfl
  · obtain ⟨S, c, m, rfl, hS, hm, k⟩ := h
    refine ⟨_, (pss_one (ps_ret (pe_op op_mod (pe_callTy call_int1 (by rfl) T.z_int (by decide +kernel) (pa_cons (pe_call (ok__law_draw T) (hr.mono (by decide)) rfl T.g__law_draw T.F__law_draw.kp T.b__law_draw .nil pass0 (pa_cons (pv 0) (pa_cons pe_int pa_nil))) pa_nil)) (pv 1)))), ?_⟩
    refine ⟨_, rfl, S, c, 10, rfl, hS, by decide, by decide, fun r H' h0 h1 hs e => .inl ⟨_, rfl, _, rfl, _, _, rfl, rfl, (show (0 : Int) < m by omega), ?_⟩⟩
    have h2 : r % m ≤ r := by
      by_cases c : r < m
      · rw [Int.emod_eq_of_lt h0 c]; exact Int.le_refl _
      · have := Int.emod_lt_of_pos r (show 0 < m by omega); omega
    exact k _ _ (Int.emod_nonneg _ (by omega)) (Int.emod_lt_of_pos _ (by omega)) (by omega) hs e
/-! ### _law_is_effect -/
def sp__law_is_effect (K : PySem.W.Frag) : Sp := fun vs H Q _ => ∃ (v : V) (f : Bool) (ns : List Int), vs = [v] ∧ Dp K H v (eD f ns) ∧ ns.length ≤ 900 ∧ ∀ H', Same H H' → Q (.bl true) H'
theorem ok__law_is_effect (T : Txt P K mg A') : FnOk P w K mg base CX0 3 A'.f__law_is_effect A'.fd__law_is_effect ["_law_thing_here"] (sp__law_is_effect K) := by
  refine Hk.okN T.F__law_is_effect sc__law_is_effect (fun vs H Q E h => ?_) (fun cdv A outer s H vs Q E hr h => ?_)
  · obtain ⟨v, f, ns, rfl, _⟩ := h
    rfl
  · obtain ⟨v, f, ns, rfl, he, hz, k⟩ := h
    obtain ⟨a, t, rfl, h1, h2⟩ := e_inv he
    refine ⟨_, (pss_cons (ps_if (PW.pt (pw_or (pt_not (pt_val (pe_callB call_isD (by rfl) T.z_isinstance (by decide +kernel) (pa_cons (pv 0) (pa_cons (pe_bltn (v := .ty "tuple") (by rfl) T.z_tuple (by decide +kernel) rfl) pa_nil))))) (pw_or1 (pt_cmpR op_ne (pe_callB call_len_seq (by rfl) T.z_len (by decide +kernel) (pa_cons (pv 0) pa_nil)) pe_int (nomark _))))) (pss_one (ps_ret pe_bl)) pss_nil)
    (pss_one (ps_ret (pe_and (pe_callB call_isD (by rfl) T.z_isinstance (by decide +kernel) (pa_cons (pe_ix ix_tup (pv 0) pe_int (fun _ _ => rfl)) (pa_cons (pe_bltn (v := .ty "bool") (by rfl) T.z_bool (by decide +kernel) rfl) pa_nil))) (pe_one (pe_call (ok__law_is_word T) (hr.mono (by decide)) rfl T.g__law_is_word T.F__law_is_word.kp T.b__law_is_word .nil pass0 (pa_cons (pe_ix ix_tup (pv 0) pe_int (fun _ _ => rfl)) pa_nil))))))), ?_⟩
    refine ⟨_, rfl, _, _, _, rfl, okT_tuple, he, _, rfl, ?_⟩
    refine ifF (by unfold eD; rw [isI_tuple_tuple] <;> rfl) ?_
    refine ⟨_, rfl, a, _, rfl, .inr h1, rfl, _, rfl, ?_⟩
    refine ifF rfl ?_
    refine ⟨_, rfl, a, _, _, _, rfl, rfl, h1, rfl, _, _, .bool f, rfl, okT_bool, .bl f, _, rfl, ?_⟩
    refine ifT (isI_bool_bool f) ?_
    refine ⟨_, rfl, a, _, _, _, rfl, rfl, h1, rfl, .ref t, wD ns, rfl, w_mk h2, fun ds e => ?_, fun H' s1 => ?_⟩
    · cases e
      rw [List.length_map]
      exact hz
    · rw [isWd_ints]
      exact k H' s1
/-! ### check_key -/
def sp_check_key (K : PySem.W.Frag) (A' : Ad) : Sp := fun vs H Q E => ∃ (v : V) (d : PyData), vs = [v] ∧ Dp K H v d ∧ shOk d ∧ (isKey d = true → Q v H) ∧
  (isKey d = false → ∀ dx H', Same H H' → H' dx = some (.xd [("key", v)]) → E (.ref A'.c_BadKey) (some dx) H')
theorem ok_check_key (T : Txt P K mg A') : FnOk P w K mg base (L2.CX P w) 4 A'.f_check_key A'.fd_check_key ["key"] (sp_check_key K A') := by
  refine Hk.okX T.F_check_key sc_check_key (fun vs H Q E h => ?_) (fun cdv A outer s H vs Q E hr h => ?_)
  · obtain ⟨v, d, rfl, _⟩ := h
    rfl
  · obtain ⟨v, d, rfl, hd, hs, k1, k2⟩ := h
    refine ⟨_, (pss_cons (ps_if (pt_not (pt_val (pe_call (ok_is_key T) (hr.mono (by decide)) rfl T.g_is_key T.F_is_key.kp T.b_is_key .nil pass0 (pa_cons (pv 0) pa_nil)))) (pss_one (ps_raise rfl (takes_of rfl rfl rfl rfl) (pmk_oex T.s_BadKey.ox T.i_BadKey T.S_KeyFault.fn (ok_init_KeyFault T) (hr.mono (by decide)) T.bi_KeyFault .nil pass0 rfl T.m_BadKey (pa_cons (pv 0) pa_nil)))) pss_nil)
    (pss_one (ps_ret (pv 0)))), ?_⟩
    refine ⟨_, rfl, v, d, rfl, hd, _, rfl, ?_⟩
    refine if2 (fun c => ?_) (fun c => ?_)
    · have c' : isKey d = false := by cases e : isKey d <;> simp_all
      refine ⟨_, rfl, (show 1 ≤ 1000 by decide), fun a na => ?_⟩
      refine ⟨a, A'.c_BadKey, v, rfl, upd_same, T.s_BadKey, ⟨d, dp_same (same_new na) hd, hs⟩, fun dx nd ne => ?_⟩
      refine ⟨rfl, dx, [("key", v)], upd_same, ?_, ?_, ?_⟩
      · rw [upd_ne ne]
        exact upd_same
      · have := nd
        rw [upd_ne ne] at this
        exact this
      · exact k2 c' dx _ (same_exc na nd ne) upd_same
    · have c' : isKey d = true := by cases e : isKey d <;> simp_all
      exact ⟨v, rfl, k1 c'⟩
/-! ### check_pieces -/
theorem shOk_i9 (i : Int) : shOk (.int i) := ⟨fun x h => (by cases h), fun x h => (by cases h)⟩
def sp_check_pieces (K : PySem.W.Frag) (A' : Ad) : Sp := fun vs H Q E => ∃ (P : Addr) (xs : List V) (ds : List PyData), vs = [.ref P] ∧ Sq K H P xs ∧ DpAll K H xs ds ∧
  (badPc 0 ds 0 = none → ∀ H', Same H H' → Q .non H') ∧
  (∀ i : Nat, badPc 0 ds 0 = some i → ∀ dx H', Same H H' → H' dx = some (.xd [("place", .int i)]) → E (.ref A'.c_BadField) (some dx) H')
theorem ok_check_pieces (T : Txt P K mg A') : FnOk P w K mg base (L2.CX P w) 4 A'.f_check_pieces A'.fd_check_pieces ["pieces"] (sp_check_pieces K A') := by
  refine Hk.okX T.F_check_pieces sc_check_pieces (fun vs H Q E h => ?_) (fun cdv A outer s H vs Q E hr h => ?_)
  · obtain ⟨P, xs, ds, rfl, _⟩ := h
    rfl
  · obtain ⟨P, xs, ds, rfl, hq, hds, k1, k2⟩ := h
    refine ⟨_, (pss_cons (ps_set (i := 1) sc_check_pieces.nd rfl (Or.inl rfl) pe_int)
    (pss_one (ps_for (passes_of rfl) rfl (Kd.pi_or (pi_enum (by rfl) T.z_enumerate (pa_cons (pv 0) pa_nil)) (Kc.pi_enT (by rfl) T.z_enumerate (pa_cons (pv 0) pa_nil))) (pg_tup (by rfl) (pgs_cons (pg_name (i := 2) sc_check_pieces.nd rfl (Or.inl rfl)) (pgs_cons (pg_name (i := 3) sc_check_pieces.nd rfl (Or.inl rfl)) pgs_nil))) (pss_cons (ps_if (PW.pt (pw_or (pt_not (pt_val (pe_callB call_isD (by rfl) T.z_isinstance (by decide +kernel) (pa_cons (pv 3) (pa_cons (pe_bltn (v := .ty "tuple") (by rfl) T.z_tuple (by decide +kernel) rfl) pa_nil))))) (pw_or1 (pt_cmpR op_ne (pe_callB call_len_seq (by rfl) T.z_len (by decide +kernel) (pa_cons (pv 3) pa_nil)) pe_int (nomark _))))) (pss_one (ps_raise rfl (takes_of rfl rfl rfl rfl) (pmk_oex T.s_BadField.ox T.i_BadField T.S_PlaceFault.fn (ok_init_PlaceFault T) (hr.mono (by decide)) T.bi_PlaceFault .nil pass0 rfl T.m_BadField (pa_cons (pv 2) pa_nil)))) pss_nil)
    (pss_cons (ps_if (PW.pt (pw_or (pt_not (pt_val (pe_call (ok_is_stretch T) (hr.mono (by decide)) rfl T.g_is_stretch T.F_is_stretch.kp T.b_is_stretch .nil pass0 (pa_cons (pe_slice sl_tupA (pv 3) po_none (po_some pe_int)) pa_nil)))) (pw_or1 (pt_cmpR op_lt (pe_ix ix_tup (pv 3) pe_int (fun _ _ => rfl)) (pv 1) (nomark _))))) (pss_one (ps_raise rfl (takes_of rfl rfl rfl rfl) (pmk_oex T.s_BadField.ox T.i_BadField T.S_PlaceFault.fn (ok_init_PlaceFault T) (hr.mono (by decide)) T.bi_PlaceFault .nil pass0 rfl T.m_BadField (pa_cons (pv 2) pa_nil)))) pss_nil)
    (pss_one (ps_set (i := 1) sc_check_pieces.nd rfl (Or.inl rfl) (pe_ix ix_tup (pv 3) pe_int (fun _ _ => rfl))))))))), ?_⟩
    have hle : xs.length = ds.length := dpa_len hds
    refine Mt.enB (xs := xs) (by rfl) hq (.refl _) (fun i σ' H' => ∃ (e : Int) (o2 o3 : Option V), σ' = [some (.ref P), some (.int e), o2, o3] ∧ Same H H' ∧ badPc 0 ds 0 = badPc e (ds.drop i) i) ⟨0, _, _, rfl, .refl _, by rw [List.drop_zero]⟩ (fun i σ' H' ⟨_, _, _, _, s, _⟩ => s) ?_ ?_
    · rintro i x σ' H' t hx ⟨e, o2, o3, rfl, s, hb⟩ nt
      obtain ⟨y, hy, hyd⟩ := dpa_get hds hx
      have st := s.trans (same_new (o := .tup [.int (i : Nat), x]) nt)
      have hyd := dp_same st hyd
      have ed : ds.drop i = y :: ds.drop (i + 1) := by
        obtain ⟨lt, e⟩ := List.getElem?_eq_some_iff.mp hy
        rw [List.drop_eq_getElem_cons lt, e]
      have eb : badPc 0 ds 0 = match okPc e y with
        | some b => badPc b (ds.drop (i + 1)) (i + 1)
        | none => some i := by rw [hb, ed] <;> rfl
      have bad : okPc e y = none → badPc 0 ds 0 = some i := fun h => by rw [eb, h]
      refine ⟨t, _, rfl, .inl (.inl upd_same), rfl, .int i, [x], rfl, x, [], rfl, rfl, ?_⟩
      generalize upd H' t (.tup [.int (i : Nat), x]) = H2 at *
      refine ⟨_, rfl, _, _, y, rfl, okT_tuple, hyd, _, rfl, ?_⟩
      refine if2 (fun c => ?_) (fun c => ?_)
      · have c' : isI "tuple" y = false := by cases e : isI "tuple" y <;> simp_all
        have hn : okPc e y = none := by
          cases y with
          | tuple ds => rw [isI_tuple_tuple] at c'; cases c'
          | _ => rfl
        refine ⟨_, rfl, (show 1 ≤ 1000 by decide), fun a9 na => ?_⟩
        refine ⟨a9, A'.c_BadField, .int i, rfl, upd_same, T.s_BadField, ⟨.int i, .int i, shOk_i9 i⟩, fun dx nd ne => ?_⟩
        refine ⟨rfl, dx, [("place", .int i)], upd_same, ?_, ?_, ?_⟩
        · rw [upd_ne ne]
          exact upd_same
        · have := nd
          rw [upd_ne ne] at this
          exact this
        · exact k2 i (bad hn) dx _ (st.trans (same_exc na nd ne)) upd_same
      have c' : isI "tuple" y = true := by cases e : isI "tuple" y <;> simp_all
      obtain ⟨es, rfl⟩ := tup_of c'
      cases hyd with
      | @tup a ys es h1 h2 =>
        have hl := dpa_len h2
        refine ⟨_, rfl, a, ys, rfl, .inr h1, rfl, _, rfl, ?_⟩
        refine if2 (fun cl => ?_) (fun cl => ?_)
        · have cl' : ys.length ≠ 3 := fun e => by rw [e] at cl; exact absurd cl (by decide)
          have hn : okPc e (.tuple es) = none := by
            unfold okPc
            split
            · rename_i q
              cases q
              exact absurd hl cl'
            · rfl
          refine ⟨_, rfl, (show 1 ≤ 1000 by decide), fun a9 na => ?_⟩
          refine ⟨a9, A'.c_BadField, .int i, rfl, upd_same, T.s_BadField, ⟨.int i, .int i, shOk_i9 i⟩, fun dx nd ne => ?_⟩
          refine ⟨rfl, dx, [("place", .int i)], upd_same, ?_, ?_, ?_⟩
          · rw [upd_ne ne]
            exact upd_same
          · have := nd
            rw [upd_ne ne] at this
            exact this
          · exact k2 i (bad hn) dx _ (st.trans (same_exc na nd ne)) upd_same
        have cl' : ys.length = 3 := by
          have z : decide (V.int ((ys.length : Nat) : Int) = V.int 3) = true := by
            cases e : decide (V.int ((ys.length : Nat) : Int) = V.int 3) <;> simp_all
          have z2 := V.int.inj (of_decide_eq_true z)
          omega
        obtain ⟨y1, y2, y3, rfl⟩ : ∃ y1 y2 y3, ys = [y1, y2, y3] := by
          match ys, cl' with
          | [x, y, z], _ => exact ⟨x, y, z, rfl⟩
        obtain ⟨d1, d2, d3, rfl, hd1, hd2, hd3⟩ : ∃ d1 d2 d3, es = [d1, d2, d3] ∧ Dp K H2 y1 d1 ∧ Dp K H2 y2 d2 ∧ Dp K H2 y3 d3 := by
          cases h2 with
          | cons p q =>
            cases q with
            | cons p' q' =>
              cases q' with
              | cons p2 q2 =>
                cases q2
                exact ⟨_, _, _, rfl, p, p', p2⟩
        refine ⟨_, rfl, 2, rfl, a, _, rfl, h1, fun w => absurd w.2 (by show ¬ HT.sIx 3 3 (some 2) = 3; decide), fun _ q nq => ?_⟩
        have sq := same_new (o := .tup (cutV [y1, y2, y3] none (some 2))) nq
        have st2 := st.trans sq
        refine ⟨.ref q, .tuple [d1, d2], rfl, .tup (.inl (.inl upd_same)) (.cons (dp_same sq hd1) (.cons (dp_same sq hd2) .nil)), _, rfl, ?_⟩
        refine if2 (fun c2 => ?_) (fun c2 => ?_)
        · have c2' : isStr (.tuple [d1, d2]) = false := by cases e : isStr (.tuple [d1, d2]) <;> simp_all
          have hn : okPc e (.tuple [d1, d2, d3]) = none := okPc_str (by rw [← c2'] <;> rfl)
          refine ⟨_, rfl, (show 1 ≤ 1000 by decide), fun a9 na => ?_⟩
          refine ⟨a9, A'.c_BadField, .int i, rfl, upd_same, T.s_BadField, ⟨.int i, .int i, shOk_i9 i⟩, fun dx nd ne => ?_⟩
          refine ⟨rfl, dx, [("place", .int i)], upd_same, ?_, ?_, ?_⟩
          · rw [upd_ne ne]
            exact upd_same
          · have := nd
            rw [upd_ne ne] at this
            exact this
          · exact k2 i (bad hn) dx _ (st2.trans (same_exc na nd ne)) upd_same
        have c2' : isStr (.tuple [d1, d2]) = true := by cases e : isStr (.tuple [d1, d2]) <;> simp_all
        obtain ⟨n1, n2, rfl, rfl, hab⟩ : ∃ n1 n2, d1 = .int n1 ∧ d2 = .int n2 ∧ (decide (0 ≤ n1) && (decide (n1 < n2) && decide (n2 ≤ 1000000))) = true := by
          unfold isStr at c2'
          split at c2'
          · rename_i q
            cases q
            exact ⟨_, _, rfl, rfl, c2'⟩
          · cases c2'
        cases hd1
        cases hd2
        have h1' := seqT_same sq h1
        refine ⟨_, rfl, a, _, _, _, rfl, rfl, h1', rfl, _, rfl, _, _, rfl, rfl, _, rfl, ?_⟩
        have eo : okPc e (.tuple [.int n1, .int n2, d3]) = if decide (e ≤ n1) = true then some n2 else none := by
          show (if (decide (0 ≤ n1) && (decide (n1 < n2) && decide (n2 ≤ 1000000)) && decide (e ≤ n1)) = true then some n2 else none) = _
          rw [hab, Bool.true_and]
        refine if2 (fun c3 => ?_) (fun c3 => ?_)
        · have c3' : n1 < e := of_decide_eq_true c3
          have hn : okPc e (.tuple [.int n1, .int n2, d3]) = none := by rw [eo, if_neg (by simp; omega)]
          refine ⟨_, rfl, (show 1 ≤ 1000 by decide), fun a9 na => ?_⟩
          refine ⟨a9, A'.c_BadField, .int i, rfl, upd_same, T.s_BadField, ⟨.int i, .int i, shOk_i9 i⟩, fun dx nd ne => ?_⟩
          refine ⟨rfl, dx, [("place", .int i)], upd_same, ?_, ?_, ?_⟩
          · rw [upd_ne ne]
            exact upd_same
          · have := nd
            rw [upd_ne ne] at this
            exact this
          · exact k2 i (bad hn) dx _ (st2.trans (same_exc na nd ne)) upd_same
        have c3' : ¬ n1 < e := of_decide_eq_false c3
        refine ⟨_, rfl, a, _, _, _, rfl, rfl, h1', rfl, ?_⟩
        refine ⟨n2, _, _, rfl, st2, ?_⟩
        rw [eb, eo, if_pos (by simp; omega)]
    · rintro σ' H' ⟨e, o2, o3, rfl, s, hb⟩
      rw [hle, List.drop_length] at hb
      exact k1 hb H' s
/-! ### _law_kind -/
def sp__law_kind (K : PySem.W.Frag) : Sp := fun vs H Q _ => ∃ (S c : Addr), vs = [.ref S] ∧ Stm S c H ∧ ∀ (k8 : Km.Kd8) H', Ext S H H' → Stm S c H' → Q (.str (nm k8)) H'
theorem ok__law_kind (T : Txt P K mg A') : FnOk P w K mg base CX0 4 A'.f__law_kind A'.fd__law_kind ["_law_stream_here"] (sp__law_kind K) := by
  refine Hk.okN T.F__law_kind sc__law_kind (fun vs H Q E h => ?_) (fun cdv A outer s H vs Q E hr h => ?_)
  · obtain ⟨S, c, rfl, _⟩ := h
    rfl
  · obtain ⟨S, c, rfl, hS, k⟩ := h
    refine ⟨_, (pss_one (ps_ret (pe_ix ix_tup (pe_tup (pa_cons pe_str (pa_cons pe_str (pa_cons pe_str (pa_cons pe_str (pa_cons pe_str (pa_cons pe_str (pa_cons pe_str (pa_cons pe_str pa_nil))))))))) (pe_call (ok__law_pick T) (hr.mono (by decide)) rfl T.g__law_pick T.F__law_pick.kp T.b__law_pick .nil pass0 (pa_cons (pv 0) (pa_cons pe_int pa_nil))) (fun _ _ => rfl)))), ?_⟩
    refine ⟨(by show 8 ≤ sizeLine; decide), fun t nt => ⟨_, rfl, S, c, 8, rfl, stm_new hS nt, by decide, fun r H' h0 h1 _ hS' e => ?_⟩⟩
    obtain ⟨n, rfl⟩ := Int.eq_ofNat_of_zero_le h0
    exact ⟨t, kNames, _, _, rfl, rfl, sqt_ext (stm_new hS nt) e (.inl (.inl upd_same)), atI_nat (kNames_at n (by omega)), k _ H' ((Ext.new nt).trans e) hS'⟩
/-! ### _law_letters -/
def sp__law_letters (K : PySem.W.Frag) : Sp := fun vs H Q _ => ∃ (S c : Addr), vs = [.ref S] ∧ Stm S c H ∧ ∀ (G : Addr) (gs : List Int) H', H G = none → Ext S H H' → Stm S c H' → Lets S c G gs H' → Q (.ref G) H'
theorem ok__law_letters (T : Txt P K mg A') : FnOk P w K mg base CX0 4 A'.f__law_letters A'.fd__law_letters ["_law_stream_here"] (sp__law_letters K) := by
  refine Hk.okN T.F__law_letters sc__law_letters (fun vs H Q E h => ?_) (fun cdv A outer s H vs Q E hr h => ?_)
  · obtain ⟨S, c, rfl, _⟩ := h
    rfl
  · obtain ⟨S, c, rfl, hS, k⟩ := h
    refine ⟨_, (pss_cons (ps_set (i := 1) sc__law_letters.nd rfl (Or.inl rfl) (pe_op op_add pe_int (pe_call (ok__law_pick T) (hr.mono (by decide)) rfl T.g__law_pick T.F__law_pick.kp T.b__law_pick .nil pass0 (pa_cons (pv 0) (pa_cons pe_int pa_nil)))))
    (pss_cons (ps_set (i := 2) sc__law_letters.nd rfl (Or.inl rfl) (pe_cmpR op_gt (pe_call (ok__law_pick T) (hr.mono (by decide)) rfl T.g__law_pick T.F__law_pick.kp T.b__law_pick .nil pass0 (pa_cons (pv 0) (pa_cons pe_int pa_nil))) pe_int (nomark _)))
    (pss_cons (ps_set (i := 3) sc__law_letters.nd rfl (Or.inl rfl) (pe_lst pa_nil))
    (pss_cons (ps_for PassesOwn.never rfl (pi_range1 (by rfl) T.z_range (pa_cons (pv 1) pa_nil)) (pg_name (i := 4) sc__law_letters.nd rfl (Or.inl rfl)) (pss_cons (ps_set (i := 5) sc__law_letters.nd rfl (Or.inl rfl) (pv 4))
    (Evl.pss_cut (ps_if (pt_val (pv 2)) (pss_one (ps_set (i := 5) sc__law_letters.nd rfl (Or.inl rfl) (pe_op op_sub pe_int (pv 4)))) pss_nil)
    (Evl.pss_cut (ps_if (PW.pt (pw_and (pt_val (pv 2)) (pw_and1 (pt_cmpR op_lt (pv 4) pe_int (nomark _))))) (pss_one (ps_set (i := 5) sc__law_letters.nd rfl (Or.inl rfl) (pe_op op_add (pv 5) (pe_op op_mul pe_int (pe_call (ok__law_draw T) (hr.mono (by decide)) rfl T.g__law_draw T.F__law_draw.kp T.b__law_draw .nil pass0 (pa_cons (pv 0) (pa_cons (pe_op op_pow pe_int pe_int) pa_nil))))))) pss_nil)
    (pss_one (ps_expr (pe_bm PySem.F.plainAttrs_list PySem.F.slot_list_append PySem.F.type_list_append mt_append (pv 3) (pa_cons (pv 5) pa_nil))))))))
    (pss_one (ps_ret (pv 3))))))), ?_⟩
    refine ⟨_, rfl, S, c, 10, rfl, hS, by decide, fun r1 H1 a1 b1 _ hS1 e1 => ⟨_, _, rfl, rfl, ?_⟩⟩
    refine ⟨_, rfl, S, c, 10, rfl, hS1, by decide, fun r2 H2 a2 b2 _ hS2 e2 => ⟨_, _, rfl, rfl, ?_⟩⟩
    obtain ⟨wd, hwd⟩ : ∃ wd, wd = decide ((7 : Int) < r2) := ⟨_, rfl⟩
    refine ⟨Nat.zero_le _, fun G nG => ?_⟩
    have e12 := e1.trans e2
    have nGS := ext_ne hS2 nG
    have nGc := ext_nc hS2 nG
    have nG0 := ext_free hS2 e12 nG
    refine ⟨_, rfl, _, rfl, by omega, by omega, ?_⟩
    refine for_range (lo := 0) (n := (1 + r1).toNat) (fun i σ' H' => ∃ (gs : List Int) (z z2 : Option V), σ' = [some (.ref S), some (.int (1 + r1)), some (.bl wd), some (.ref G), z, z2] ∧ gs.length = i ∧ Lst S c G gs H' ∧ (∀ x ∈ gs, 0 ≤ x ∧ x ≤ 999999999) ∧ Stm S c H' ∧ Ext S H H') ?_ ?_ ?_
    · exact ⟨[], none, none, by rw [hwd] <;> rfl, rfl, ⟨nGS, nGc, upd_same⟩, (fun x hx => by cases hx), stm_new hS2 nG, e12.trans (.new nG)⟩
    · rintro i σ' H' hi ⟨gs, z, z2, rfl, hl, hG, hr, hS', e'⟩
      have hi10 : (i : Int) ≤ 9 := by omega
      refine ⟨_, rfl, ?_⟩
      refine ⟨fun σ2 H2 => ∃ y : Int, σ2 = [some (.ref S), some (.int (1 + r1)), some (.bl wd), some (.ref G), some (.int (0 + (i : Int))), some (.int y)] ∧ 0 ≤ y ∧ y ≤ 9 ∧ H2 = H', ?_, ?_⟩
      · refine ⟨_, rfl, wd, rfl, ?_⟩
        cases wd with
        | true => exact iteT ⟨_, rfl, _, _, rfl, rfl, _, rfl, by omega, by omega, rfl⟩
        | false => exact iteF ⟨_, rfl, by omega, by omega, rfl⟩
      rintro σ2 H2' ⟨y, rfl, y0, y9, rfl⟩
      refine ⟨fun σ3 H3 => ∃ y : Int, σ3 = [some (.ref S), some (.int (1 + r1)), some (.bl wd), some (.ref G), some (.int (0 + (i : Int))), some (.int y)] ∧ 0 ≤ y ∧ y ≤ 999999999 ∧ Lst S c G gs H3 ∧ Stm S c H3 ∧ Ext S H H3, ?_, ?_⟩
      · refine ⟨_, rfl, wd, rfl, ?_⟩
        cases wd with
        | false => exact iteF (iteF ⟨y, rfl, y0, by omega, hG, hS', e'⟩)
        | true =>
          refine iteT ⟨_, rfl, _, _, rfl, rfl, _, rfl, ?_⟩
          refine if2 (fun _ => ?_) (fun _ => ⟨y, rfl, y0, by omega, hG, hS', e'⟩)
          refine ⟨_, rfl, _, rfl, _, _, rfl, rfl, ⟨by decide, by decide, by decide⟩, S, c, 100000000, rfl, hS', by decide, by decide, fun r H4 a4 b4 hS4 e4 => ?_⟩
          refine ⟨_, _, rfl, rfl, .inl ⟨by omega, by omega⟩, _, _, rfl, rfl, ?_⟩
          exact ⟨_, rfl, by omega, by omega, hG.ext e4, hS4, e'.trans e4⟩
      rintro σ3 H3 ⟨y, rfl, y0, y9, hG3, hS3, e3⟩
      refine ⟨_, rfl, .inl ⟨rfl, _, hG3.sq⟩, _, rfl, G, _, _, rfl, rfl, hG3.2.2, ?_, ?_⟩
      · rw [List.length_map]
        exact small1000 (by omega)
      refine ⟨gs ++ [y], _, _, rfl, by rw [List.length_append, hl]; rfl, ⟨nGS, nGc, by rw [upd_same, List.map_append]; rfl⟩, fun x hx => ?_, stm_put hS3 nGS nGc, ext_mut e3 nG0⟩
      rcases List.mem_append.mp hx with hx | hx
      · exact hr x hx
      · rw [List.mem_singleton.mp hx]; exact ⟨y0, y9⟩
    · rintro σ' H' ⟨gs, z, z2, rfl, hl, hG, hr, hS', e'⟩
      exact ⟨_, rfl, k G gs H' nG0 e' hS' ⟨hG, by omega, by omega, hr⟩⟩
/-! ### _law_raw -/
def sp__law_raw (K : PySem.W.Frag) : Sp := fun vs H Q _ => ∃ (S c G : Addr) (gs : List Int), vs = [.ref S, .ref G] ∧ Stm S c H ∧ Lets S c G gs H ∧ ∀ (v : V) (ns : List Int) H', Ext S H H' → Stm S c H' → Dp K H' v (wD ns) → ns.length ≤ 7 → (∀ x ∈ ns, x ∈ gs) → Q v H'
def sizes : List Int := [0, 1, 2, 3, 4, 5, 0, 1, 2, 7]
theorem sizes_at : ∀ n : Nat, n < 10 → ∃ m : Nat, sizes[n]? = some (m : Int) ∧ m ≤ 7
  | 0, _ => ⟨0, rfl, by decide⟩
  | 1, _ => ⟨1, rfl, by decide⟩
  | 2, _ => ⟨2, rfl, by decide⟩
  | 3, _ => ⟨3, rfl, by decide⟩
  | 4, _ => ⟨4, rfl, by decide⟩
  | 5, _ => ⟨5, rfl, by decide⟩
  | 6, _ => ⟨0, rfl, by decide⟩
  | 7, _ => ⟨1, rfl, by decide⟩
  | 8, _ => ⟨2, rfl, by decide⟩
  | 9, _ => ⟨7, rfl, by decide⟩
  | n + 10, h => absurd h (by omega)
theorem ok__law_raw (T : Txt P K mg A') : FnOk P w K mg base CX0 4 A'.f__law_raw A'.fd__law_raw ["_law_stream_here", "_law_letters_here"] (sp__law_raw K) := by
  refine Hk.okN T.F__law_raw sc__law_raw (fun vs H Q E h => ?_) (fun cdv A outer s H vs Q E hr h => ?_)
  · obtain ⟨S, c, G, gs, rfl, _⟩ := h
    rfl
  · obtain ⟨S, c, G, gs, rfl, hS, hG, k⟩ := h
    refine ⟨_, (pss_cons (ps_set (i := 2) sc__law_raw.nd rfl (Or.inl rfl) (pe_ix ix_tup (pe_tup (pa_cons pe_int (pa_cons pe_int (pa_cons pe_int (pa_cons pe_int (pa_cons pe_int (pa_cons pe_int (pa_cons pe_int (pa_cons pe_int (pa_cons pe_int (pa_cons pe_int pa_nil))))))))))) (pe_call (ok__law_pick T) (hr.mono (by decide)) rfl T.g__law_pick T.F__law_pick.kp T.b__law_pick .nil pass0 (pa_cons (pv 0) (pa_cons pe_int pa_nil))) (fun _ _ => rfl)))
    (pss_one (ps_ret (pe_callTy call_tuple_of (by rfl) T.z_tuple (by decide +kernel) (pa_cons (pe_lc (own := [("_law_k", 3)]) (g := gName 3) (tt := tYes) (by rfl) sc__law_raw.nd (pi_range1 (by rfl) T.z_range (pa_cons (pv 2) pa_nil)) (blkOk_by (own := [("_law_k", 3)]) (N := ["_law_stream_here", "_law_letters_here", "_law_size", "_law_k"]) (sc := defScope s__law_raw) (by decide +kernel)) (fun _ _ _ _ _ => (pg_name (i := 3) sc__law_raw.nd rfl (Or.inl rfl))) (fun _ _ _ _ _ => pts_nil) (fun _ _ _ _ _ => (pe_ix (ixLK (K := K) rfl) (pv 1) (pe_call (ok__law_pick T) (hr.mono (by decide)) rfl T.g__law_pick T.F__law_pick.kp T.b__law_pick .nil pass0 (pa_cons (pv 0) (pa_cons (pe_callB (lenK (K := K) rfl) (by rfl) T.z_len (by decide +kernel) (pa_cons (pv 1) pa_nil)) pa_nil))) (fun _ _ => rfl)))) pa_nil))))), ?_⟩
    refine ⟨(by show 10 ≤ sizeLine; decide), fun t nt => ⟨_, rfl, S, c, 10, rfl, stm_new hS nt, by decide, fun r H1 h0 h1 _ hS1 e1 => ?_⟩⟩
    obtain ⟨n, rfl⟩ := Int.eq_ofNat_of_zero_le h0
    obtain ⟨m, hm, hm7⟩ := sizes_at n (by omega)
    have e01 : Ext S H H1 := (Ext.new nt).trans e1
    refine ⟨t, sizes.map V.int, _, .int m, rfl, rfl, sqt_ext (stm_new hS nt) e1 (.inl (.inl upd_same)), atI_nat (by rw [List.getElem?_map, hm] <;> rfl), ?_⟩
    have hG1 := hG.ext e01
    refine ⟨_, rfl, _, rfl, by omega, by omega, fun D nD => ?_⟩
    refine lc_range (lo := 0) (n := m) (fun i H' => Ext S H1 H' ∧ Stm S c H' ∧ ∃ ns : List Int, H' D = some (.lst (ns.map V.int)) ∧ ns.length = i ∧ ∀ x ∈ ns, x ∈ gs) ⟨.new nD, stm_new hS1 nD, [], upd_same, rfl, fun x hx => by cases hx⟩ ?_ ?_
    · rintro i H' hi ⟨e2, hS2, ns, hD, hl, hin⟩
      have hG2 := hG1.ext e2
      have nDS := ext_ne hS1 nD
      have nDc := ext_nc hS1 nD
      refine ⟨rfl, ?_⟩
      refine ⟨_, rfl, _, rfl, _, rfl, G, _, rfl, .inl hG2.at_.sq, S, c, _, rfl, hS2, (by rw [List.length_map]; have := hG2.one; omega), fun r H3 a3 b3 c3 hS3 e3 => ?_⟩
      have hG3 := hG2.ext e3
      rw [List.length_map] at b3
      obtain ⟨j, rfl⟩ := Int.eq_ofNat_of_zero_le a3
      have hj : j < gs.length := by omega
      refine ⟨G, _, _, .int gs[j], rfl, rfl, hG3.at_.sq, atI_nat (map_get hj), _, e3 D _ nDS hD, ?_, ext_mut (e2.trans e3) nD, stm_put hS3 nDS nDc, ns ++ [gs[j]], ?_, ?_, ?_⟩
      · rw [List.length_map]
        exact small1000 (by omega)
      · rw [upd_same, List.map_append]
        rfl
      · rw [List.length_append, hl]
        rfl
      · intro x hx
        rcases List.mem_append.mp hx with hx | hx
        · exact hin x hx
        · rw [List.mem_singleton.mp hx]
          exact List.getElem_mem hj
    · rintro H' ⟨e2, hS2, ns, hD, hl, hin⟩
      exact ⟨D, _, rfl, .inl ⟨SqL.of hD, fun l nl => k _ ns _ ((e01.trans e2).trans (.new nl)) (stm_new hS2 nl) (w_new nl) (by omega) hin⟩⟩
/-! ### _law_grid -/
def sp__law_grid (K : PySem.W.Frag) : Sp := fun vs H Q _ => ∃ (S c : Addr) (m : Int), vs = [.ref S, .int m] ∧ Stm S c H ∧ 1 ≤ m ∧
  ∀ (G : Addr) (gs : List Int) H', H G = none → Ext S H H' → Stm S c H' → Lst S c G gs H' → GridOk gs → Q (.ref G) H'
theorem ok__law_grid (T : Txt P K mg A') : FnOk P w K mg base CX0 4 A'.f__law_grid A'.fd__law_grid ["_law_stream_here", "_law_upper"] (sp__law_grid K) := by
  refine Hk.okN T.F__law_grid sc__law_grid (fun vs H Q E h => ?_) (fun cdv A outer s H vs Q E hr h => ?_)
  · obtain ⟨S, c, m, rfl, _⟩ := h
    rfl
  · obtain ⟨S, c, m, rfl, hS, hm, k⟩ := h
    refine ⟨_, (pss_cons (ps_set (i := 2) sc__law_grid.nd rfl (Or.inl rfl) (pe_op op_add pe_int (pe_call (ok__law_pick T) (hr.mono (by decide)) rfl T.g__law_pick T.F__law_pick.kp T.b__law_pick .nil pass0 (pa_cons (pv 0) (pa_cons (pv 1) pa_nil)))))
    (pss_cons (ps_set (i := 3) sc__law_grid.nd rfl (Or.inl rfl) (pe_call (ok__law_pick T) (hr.mono (by decide)) rfl T.g__law_pick T.F__law_pick.kp T.b__law_pick .nil pass0 (pa_cons (pv 0) (pa_cons pe_int pa_nil))))
    (pss_cons (ps_set (i := 4) sc__law_grid.nd rfl (Or.inl rfl) (pe_call (ok__law_pick T) (hr.mono (by decide)) rfl T.g__law_pick T.F__law_pick.kp T.b__law_pick .nil pass0 (pa_cons (pv 0) (pa_cons pe_int pa_nil))))
    (Evl.pss_cut (ps_if (pt_cmpR op_gt (pv 3) pe_int (nomark _)) (pss_one (ps_set (i := 4) sc__law_grid.nd rfl (Or.inl rfl) (pe_op op_mod (pe_callTy call_int1 (by rfl) T.z_int (by decide +kernel) (pa_cons (pe_call (ok__law_draw T) (hr.mono (by decide)) rfl T.g__law_draw T.F__law_draw.kp T.b__law_draw .nil pass0 (pa_cons (pv 0) (pa_cons pe_int pa_nil))) pa_nil)) pe_int))) pss_nil)
    (pss_cons (ps_set (i := 5) sc__law_grid.nd rfl (Or.inl rfl) (pe_lst (pa_cons (pv 4) pa_nil)))
    (Evl.pss_cut (ps_for PassesOwn.never rfl (pi_range1 (by rfl) T.z_range (pa_cons (pv 2) pa_nil)) (pg_name (i := 6) sc__law_grid.nd rfl (Or.inl rfl)) (Evl.pss_cut (ps_if (pt_cmpR op_gt (pv 3) pe_int (nomark _)) (pss_one (ps_set (i := 4) sc__law_grid.nd rfl (Or.inl rfl) (pe_op op_add (pe_op op_add (pv 4) pe_int) (pe_call (ok__law_draw T) (hr.mono (by decide)) rfl T.g__law_draw T.F__law_draw.kp T.b__law_draw .nil pass0 (pa_cons (pv 0) (pa_cons pe_int pa_nil)))))) (pss_one (ps_set (i := 4) sc__law_grid.nd rfl (Or.inl rfl) (pe_op op_add (pe_op op_add (pv 4) pe_int) (pe_call (ok__law_pick T) (hr.mono (by decide)) rfl T.g__law_pick T.F__law_pick.kp T.b__law_pick .nil pass0 (pa_cons (pv 0) (pa_cons pe_int pa_nil)))))))
    (pss_one (ps_expr (pe_bm PySem.F.plainAttrs_list PySem.F.slot_list_append PySem.F.type_list_append mt_append (pv 5) (pa_cons (pv 4) pa_nil))))))
    (Evl.pss_cut (ps_if (PW.pt (pw_or (pt_cmpR op_eq (pv 3) pe_int (nomark _)) (pw_or1 (pt_cmpR op_eq (pv 3) pe_int (nomark _))))) (pss_one (ps_asg pe_int (pg_sub (pv 5) pe_int set_list))) pss_nil)
    (pss_cons (ps_if (pt_cmpR op_gt (pv 3) pe_int (nomark _)) (pss_one (ps_asg pe_int (pg_sub (pv 5) (pv 2) set_list))) pss_nil)
    (pss_one (ps_ret (pv 5))))))))))), ?_⟩
    refine ⟨_, rfl, _, rfl, S, c, m, rfl, hS, hm, fun r1 H1 a1 b1 c1 hS1 e1 => ⟨_, _, rfl, rfl, ?_⟩⟩
    refine ⟨_, rfl, S, c, 10, rfl, hS1, by decide, fun wd H2 a2 b2 c2 hS2 e2 => ?_⟩
    refine ⟨_, rfl, S, c, 3, rfl, hS2, by decide, fun r3 H3 a3 b3 c3 hS3 e3 => ?_⟩
    have e123 := (e1.trans e2).trans e3
    refine ⟨fun σ' H' => ∃ pt : Int, σ' = [some (.ref S), some (.int m), some (.int (1 + r1)), some (.int wd), some (.int pt), none, none] ∧ 0 ≤ pt ∧ pt < 900000 ∧ Stm S c H' ∧ Ext S H H', ?_, ?_⟩
    · refine ⟨_, rfl, _, _, rfl, rfl, _, rfl, ?_⟩
      refine if2 (fun _ => ?_) (fun _ => ⟨r3, rfl, a3, by omega, hS3, e123⟩)
      refine ⟨_, rfl, S, c, 1000000, rfl, hS3, by decide, by decide, fun r H4 a4 b4 hS4 e4 => .inl ⟨_, rfl, _, _, rfl, rfl, (show (0 : Int) < 900000 by decide), ?_⟩⟩
      exact ⟨_, rfl, Int.emod_nonneg _ (by decide), Int.emod_lt_of_pos _ (by decide), hS4, e123.trans e4⟩
    rintro σ' H4 ⟨pt, rfl, p0, p1, hS4, e4⟩
    refine ⟨_, rfl, (by show 1 ≤ sizeLine; decide), fun G nG => ?_⟩
    have nGS := ext_ne hS4 nG
    have nGc := ext_nc hS4 nG
    have nG0 := ext_free hS4 e4 nG
    refine ⟨fun σ' H' => ∃ (pt : Int) (gs : List Int) (z : Option V), σ' = [some (.ref S), some (.int m), some (.int (1 + r1)), some (.int wd), some (.int pt), some (.ref G), z] ∧ gs.length = r1.toNat + 2 ∧
      Lst S c G gs H' ∧ (∀ x ∈ gs, 0 ≤ x ∧ x < 1000000) ∧ gs.Pairwise (· < ·) ∧ Stm S c H' ∧ Ext S H H', ?_, ?_⟩
    · refine ⟨_, rfl, _, rfl, by omega, by omega, ?_⟩
      refine for_range (lo := 0) (n := (1 + r1).toNat) (fun i σ' H' => ∃ (pt : Int) (gs : List Int) (z : Option V), σ' = [some (.ref S), some (.int m), some (.int (1 + r1)), some (.int wd), some (.int pt), some (.ref G), z] ∧ gs.length = i + 1 ∧
        Lst S c G gs H' ∧ (∀ x ∈ gs, 0 ≤ x ∧ x ≤ pt) ∧ 0 ≤ pt ∧ pt < 900000 + 1000 * (i : Int) ∧ gs.Pairwise (· < ·) ∧ Stm S c H' ∧ Ext S H H') ?_ ?_ ?_
      · exact ⟨pt, [pt], none, rfl, rfl, ⟨nGS, nGc, upd_same⟩, fun x hx => by have e := List.mem_singleton.mp hx; omega, p0, by omega, List.pairwise_singleton _ _, stm_new hS4 nG, e4.trans (.new nG)⟩
      · rintro i σ' H' hi ⟨pt, gs, z, rfl, hl, hG, hr, q0, q1, asc, hS', e'⟩
        refine ⟨fun σ2 H2 => ∃ (pt' : Int) (z : Option V), σ2 = [some (.ref S), some (.int m), some (.int (1 + r1)), some (.int wd), some (.int pt'), some (.ref G), z] ∧ pt < pt' ∧ pt' ≤ pt + 1000 ∧ Lst S c G gs H2 ∧ Stm S c H2 ∧ Ext S H H2, ?_, ?_⟩
        · refine ⟨_, rfl, _, _, rfl, rfl, _, rfl, ?_⟩
          refine if2 (fun _ => ?_) (fun _ => ?_)
          · refine ⟨_, rfl, _, _, rfl, rfl, _, rfl, S, c, 1000, rfl, hS', by decide, by decide, fun r H5 a5 b5 hS5 e5 => ⟨_, _, rfl, rfl, ?_⟩⟩
            exact ⟨_, _, rfl, by omega, by omega, hG.ext e5, hS5, e'.trans e5⟩
          · refine ⟨_, rfl, _, _, rfl, rfl, _, rfl, S, c, 3, rfl, hS', by decide, fun r H5 a5 b5 _ hS5 e5 => ⟨_, _, rfl, rfl, ?_⟩⟩
            exact ⟨_, _, rfl, by omega, by omega, hG.ext e5, hS5, e'.trans e5⟩
        rintro σ2 H2 ⟨pt', z', rfl, l1, l2, hG2, hS2, e2⟩
        refine ⟨_, rfl, .inl ⟨rfl, _, hG2.sq⟩, _, rfl, G, _, _, rfl, rfl, hG2.2.2, ?_, ?_⟩
        · rw [List.length_map]
          exact small1000 (by omega)
        refine ⟨pt', gs ++ [pt'], _, rfl, by rw [List.length_append, hl]; rfl, ⟨nGS, nGc, by rw [upd_same, List.map_append]; rfl⟩, fun x hx => ?_, by omega, by omega, ?_, ?_, ?_⟩
        · rcases List.mem_append.mp hx with hx | hx
          · have := hr x hx; omega
          · have e := List.mem_singleton.mp hx; omega
        · rw [List.pairwise_append]
          exact ⟨asc, List.pairwise_singleton _ _, fun a ha b hb => by have e := List.mem_singleton.mp hb; have := (hr a ha).2; omega⟩
        · exact stm_put hS2 nGS nGc
        · exact ext_mut e2 nG0
      · rintro σ' H' ⟨pt, gs, z, rfl, hl, hG, hr, q0, q1, asc, hS', e'⟩
        exact ⟨pt, gs, z, rfl, by omega, hG, fun x hx => by have := hr x hx; omega, asc, hS', e'⟩
    rintro σ' H5 ⟨pt0, gs, z0, rfl, hl, hG, hr, asc, hS5, e5⟩
    have hrng : ∀ x ∈ gs, 0 ≤ x ∧ x ≤ 1000000 := fun x hx => by have := hr x hx; omega
    have fin : ∀ (gs' : List Int) (H' : Hp), gs'.length = gs.length → (∀ x ∈ gs', 0 ≤ x ∧ x ≤ 1000000) → gs'.Pairwise (· < ·) → Lst S c G gs' H' → Stm S c H' → Ext S H H' → Q (.ref G) H' := fun gs' H' l r a h1 h2 h3 =>
      k G gs' H' nG0 h3 h2 h1 ⟨by omega, by omega, r, a⟩
    refine ⟨fun σ' H' => ∃ (pt : Int) (gs' : List Int) (z : Option V), σ' = [some (.ref S), some (.int m), some (.int (1 + r1)), some (.int wd), some (.int pt), some (.ref G), z] ∧ gs'.length = gs.length ∧
      Lst S c G gs' H' ∧ (∀ x ∈ gs', 0 ≤ x ∧ x < 1000000) ∧ gs'.Pairwise (· < ·) ∧ Stm S c H' ∧ Ext S H H', ?_, ?_⟩
    · have put : ∃ (pt : Int) (gs' : List Int) (z : Option V), ([some (.ref S), some (.int m), some (.int (1 + r1)), some (.int wd), some (.int pt0), some (.ref G), z0] : L2.St) = [some (.ref S), some (.int m), some (.int (1 + r1)), some (.int wd), some (.int pt), some (.ref G), z] ∧ gs'.length = gs.length ∧
          Lst S c G gs' (upd H5 G (.lst ((gs.map V.int).set 0 (.int 0)))) ∧ (∀ x ∈ gs', 0 ≤ x ∧ x < 1000000) ∧ gs'.Pairwise (· < ·) ∧ Stm S c (upd H5 G (.lst ((gs.map V.int).set 0 (.int 0)))) ∧ Ext S H (upd H5 G (.lst ((gs.map V.int).set 0 (.int 0)))) := by
        refine ⟨pt0, gs.set 0 0, z0, rfl, by rw [List.length_set], ⟨nGS, nGc, by rw [upd_same, List.map_set]⟩, fun x hx => ?_, grid_first asc fun x hx => (hr x hx).1, stm_put hS5 nGS nGc, ext_mut e5 nG0⟩
        rcases List.mem_or_eq_of_mem_set hx with hx | rfl
        · exact hr x hx
        · decide
      refine ⟨_, rfl, rfl, _, rfl, ?_⟩
      have hix : ixN (gs.map V.int).length 0 = some 0 := Evl.ixN_nat (j := 0) (by rw [List.length_map]; omega)
      refine if2 (fun _ => ?_) (fun _ => ?_)
      · refine iteT ?_
        exact ⟨_, rfl, G, _, _, _, rfl, rfl, hG.2.2, hix, put⟩
      · refine ⟨_, rfl, rfl, _, rfl, ?_⟩
        refine if2 (fun _ => ?_) (fun _ => ⟨pt0, gs, z0, rfl, rfl, hG, hr, asc, hS5, e5⟩)
        exact ⟨_, rfl, G, _, _, _, rfl, rfl, hG.2.2, hix, put⟩
    rintro σ' H6 ⟨pt, gs', z, rfl, hl', hG', hr', asc', hS6, e6⟩
    refine ⟨_, rfl, _, _, rfl, rfl, _, rfl, ?_⟩
    refine if2 (fun _ => ?_) (fun _ => ⟨_, rfl, fin gs' H6 hl' (fun x hx => by have := hr' x hx; omega) asc' hG' hS6 e6⟩)
    have hj : r1.toNat + 1 < gs'.length := by omega
    refine ⟨_, rfl, _, rfl, G, _, _, r1.toNat + 1, rfl, rfl, hG'.2.2, ?_, ?_⟩
    · have e : (1 : Int) + r1 = ((r1.toNat + 1 : Nat) : Int) := by omega
      show ixN (gs'.map V.int).length (1 + r1) = _
      rw [e]
      exact Evl.ixN_nat (by rw [List.length_map]; exact hj)
    · refine ⟨_, rfl, fin (gs'.set (r1.toNat + 1) 1000000) _ (by rw [List.length_set]; exact hl') (fun x hx => ?_) (grid_last asc' (fun x hx => (hr' x hx).2) (by omega)) ⟨nGS, nGc, by rw [upd_same, List.map_set]⟩ (stm_put hS6 nGS nGc) (ext_mut e6 nG0)⟩
      rcases List.mem_or_eq_of_mem_set hx with hx | rfl
      · have := hr' x hx; omega
      · decide
/-! ### _law_none -/
def sp__law_none (K : PySem.W.Frag) : Sp := fun vs H Q _ => ∃ (S c G : Addr) (gs : List Int) (s : Nat), vs = [.ref S, .ref G, .int (s : Int)] ∧ Stm S c H ∧ Lets S c G gs H ∧ s < 4 ∧ ∀ (v : V) (x : Int) H', Ext S H H' → Stm S c H' → Dp K (hid S H') v (nonT s x).d → Q v H'
theorem ok__law_none (T : Txt P K mg A') : FnOk P w K mg base CX0 4 A'.f__law_none A'.fd__law_none ["_law_stream_here", "_law_letters_here", "_law_sort"] (sp__law_none K) := by
  refine Hk.okN T.F__law_none sc__law_none (fun vs H Q E h => ?_) (fun cdv A outer s H vs Q E hr h => ?_)
  · obtain ⟨S, c, G, gs, s, rfl, _⟩ := h
    rfl
  · obtain ⟨S, c, G, gs, s, rfl, hS, hG, hs, k⟩ := h
    refine ⟨_, (pss_cons (ps_if (pt_cmpR op_eq (pv 2) pe_int (nomark _)) (pss_one (ps_ret (pe_ix ix_list (pv 1) (pe_call (ok__law_pick T) (hr.mono (by decide)) rfl T.g__law_pick T.F__law_pick.kp T.b__law_pick .nil pass0 (pa_cons (pv 0) (pa_cons (pe_callB call_len_seq (by rfl) T.z_len (by decide +kernel) (pa_cons (pv 1) pa_nil)) pa_nil))) (fun _ _ => rfl)))) pss_nil)
    (pss_one (ps_ret (pe_ix ix_tup (pe_tup (pa_cons (pe_tup pa_nil) (pa_cons (pe_tup (pa_cons pe_bl (pa_cons (pe_tup pa_nil) pa_nil))) (pa_cons pe_bl pa_nil)))) (pv 2) (fun _ _ => rfl))))), ?_⟩
    refine ⟨_, rfl, rfl, _, rfl, ?_⟩
    refine if2 (fun c1 => ?_) (fun c1 => ?_)
    · have c1' : s = 3 := by
        have := V.int.inj (of_decide_eq_true c1)
        omega
      subst c1'
      refine ⟨_, rfl, _, rfl, _, rfl, G, _, rfl, .inl hG.at_.sq, S, c, _, rfl, hS, (by rw [List.length_map]; have := hG.one; omega), fun r H1 a1 b1 _ hS1 e1 => ?_⟩
      rw [List.length_map] at b1
      obtain ⟨j, rfl⟩ := Int.eq_ofNat_of_zero_le a1
      have hj : j < gs.length := by omega
      refine ⟨G, _, _, .int gs[j], rfl, rfl, (hG.ext e1).at_.sq, atI_nat (map_get hj), ?_⟩
      exact k _ gs[j] H1 e1 hS1 (.int gs[j])
    · have c1' : s ≠ 3 := fun z => by subst z; simp at c1
      refine ⟨Nat.zero_le _, fun a na => ?_⟩
      have hSa := stm_new (o := .tup []) hS na
      refine ⟨Nat.zero_le _, fun b nb => ?_⟩
      have hSb := stm_new (o := .tup []) hSa nb
      refine ⟨(by show 2 ≤ sizeLine; decide), fun e ne => ?_⟩
      have hSe := stm_new (o := .tup [.bl false, .ref b]) hSb ne
      refine ⟨(by show 3 ≤ sizeLine; decide), fun f nf => ?_⟩
      have hSf := stm_new (o := .tup [.ref a, .ref e, .bl false]) hSe nf
      have ex : Ext S H _ := ((Ext.new (o := .tup []) na).trans (.new (o := .tup []) nb)).trans ((Ext.new (o := .tup [.bl false, .ref b]) ne).trans (.new (o := .tup [.ref a, .ref e, .bl false]) nf))
      have sE := (same_new (o := .tup [.bl false, .ref b]) ne).trans (same_new (o := .tup [.ref a, .ref e, .bl false]) nf)
      have ha : Dp K (upd (upd (upd (upd H a (.tup [])) b (.tup [])) e (.tup [.bl false, .ref b])) f (.tup [.ref a, .ref e, .bl false])) (.ref a) (wD []) := dp_same ((same_new nb).trans sE) (w_mk (ns := []) (.inl (.inl upd_same)))
      have hb : Dp K (upd (upd (upd (upd H a (.tup [])) b (.tup [])) e (.tup [.bl false, .ref b])) f (.tup [.ref a, .ref e, .bl false])) (.ref b) (wD []) := dp_same sE (w_mk (ns := []) (.inl (.inl upd_same)))
      have he : Dp K (upd (upd (upd (upd H a (.tup [])) b (.tup [])) e (.tup [.bl false, .ref b])) f (.tup [.ref a, .ref e, .bl false])) (.ref e) (eD false []) := e_mk (seqT_same (same_new nf) (.inl (.inl upd_same))) hb
      have qf : SqT K (upd (upd (upd (upd H a (.tup [])) b (.tup [])) e (.tup [.bl false, .ref b])) f (.tup [.ref a, .ref e, .bl false])) f [.ref a, .ref e, .bl false] := .inl (.inl upd_same)
      generalize upd (upd (upd (upd H a (.tup [])) b (.tup [])) e (.tup [.bl false, .ref b])) f (.tup [.ref a, .ref e, .bl false]) = H4 at *
      match s, c1', hs with
      | 0, _, _ => exact ⟨_, rfl, f, _, _, _, rfl, rfl, qf, rfl, k _ 0 _ ex hSf (w_hid hSf ha)⟩
      | 1, _, _ => exact ⟨_, rfl, f, _, _, _, rfl, rfl, qf, rfl, k _ 0 _ ex hSf (e_hid hSf he)⟩
      | 2, _, _ => exact ⟨_, rfl, f, _, _, _, rfl, rfl, qf, rfl, k _ 0 _ ex hSf (.bl false)⟩
      | 3, h, _ => exact absurd rfl h
      | n + 4, _, h => exact absurd h (by omega)
/-! ### _law_loose_pieces -/
def sp__law_loose_pieces (K : PySem.W.Frag) : Sp := fun vs H Q _ => ∃ (S c G R : Addr) (gs : List Int) (r : List Tg) (us : List V) (nv : V) (n : Tg) (s : Nat), vs = [.ref S, .ref G, .ref R, nv] ∧ Stm S c H ∧ Lst S c G gs H ∧ gs.Pairwise (· < ·) ∧ RowS K S H R r us ∧ gs.length = r.length + 1 ∧ r.length ≤ 100 ∧ (∀ t ∈ r, t.s = s) ∧ Dp K (hid S H) nv n.d ∧ n.s = s ∧
  ∀ (P : Addr) (ps : List Pt) (vs : List V) H', H P = none → Ext S H H' → Stm S c H' → PcsS K S H' P ps vs → Fm.Loose n gs r ps → ps.length ≤ 2 * r.length → Srt s ps → Q (.ref P) H'
theorem ok__law_loose_pieces (T : Txt P K mg A') : FnOk P w K mg base CX0 4 A'.f__law_loose_pieces A'.fd__law_loose_pieces ["_law_stream_here", "_law_grid_here", "_law_row", "_law_none_here"] (sp__law_loose_pieces K) := by
  refine Hk.okN T.F__law_loose_pieces sc__law_loose_pieces (fun vs H Q E h => ?_) (fun cdv A outer s H vs Q E hr h => ?_)
  · obtain ⟨S, c, G, R, gs, r, us, nv, n, s, rfl, _⟩ := h
    rfl
  · obtain ⟨S, c, G, R, gs, r, us, nv, n, s, rfl, hS, hG, hasc, hR, hgl, hm, hs, hn, ns, k⟩ := h
    refine ⟨_, (pss_cons (ps_set (i := 4) sc__law_loose_pieces.nd rfl (Or.inl rfl) (pe_lst pa_nil))
    (pss_cons (ps_for PassesOwn.never rfl (pi_range1 (by rfl) T.z_range (pa_cons (pe_callB call_len_seq (by rfl) T.z_len (by decide +kernel) (pa_cons (pv 2) pa_nil)) pa_nil)) (pg_name (i := 5) sc__law_loose_pieces.nd rfl (Or.inl rfl)) (pss_cons (ps_set (i := 6) sc__law_loose_pieces.nd rfl (Or.inl rfl) (pe_call (ok__law_pick T) (hr.mono (by decide)) rfl T.g__law_pick T.F__law_pick.kp T.b__law_pick .nil pass0 (pa_cons (pv 0) (pa_cons pe_int pa_nil))))
    (pss_one (ps_if (PW.pt (pw_and (pt_cmpR op_gt (pv 6) pe_int (nomark _)) (pw_and1 (pt_cmpR op_gt (pe_op op_sub (pe_ix ix_list (pv 1) (pe_op op_add (pv 5) pe_int) (fun _ _ => rfl)) (pe_ix ix_list (pv 1) (pv 5) (fun _ _ => rfl))) pe_int (nomark _))))) (pss_cons (ps_set (i := 7) sc__law_loose_pieces.nd rfl (Or.inl rfl) (pe_op op_add (pe_op op_add (pe_ix ix_list (pv 1) (pv 5) (fun _ _ => rfl)) pe_int) (pe_call (ok__law_pick T) (hr.mono (by decide)) rfl T.g__law_pick T.F__law_pick.kp T.b__law_pick .nil pass0 (pa_cons (pv 0) (pa_cons (pe_op op_sub (pe_op op_sub (pe_ix ix_list (pv 1) (pe_op op_add (pv 5) pe_int) (fun _ _ => rfl)) (pe_ix ix_list (pv 1) (pv 5) (fun _ _ => rfl))) pe_int) pa_nil)))))
    (pss_cons (ps_expr (pe_bm PySem.F.plainAttrs_list PySem.F.slot_list_append PySem.F.type_list_append mt_append (pv 4) (pa_cons (pe_tup (pa_cons (pe_ix ix_list (pv 1) (pv 5) (fun _ _ => rfl)) (pa_cons (pv 7) (pa_cons (pe_ix ix_list (pv 2) (pv 5) (fun _ _ => rfl)) pa_nil)))) pa_nil)))
    (pss_one (ps_expr (pe_bm PySem.F.plainAttrs_list PySem.F.slot_list_append PySem.F.type_list_append mt_append (pv 4) (pa_cons (pe_tup (pa_cons (pv 7) (pa_cons (pe_ix ix_list (pv 1) (pe_op op_add (pv 5) pe_int) (fun _ _ => rfl)) (pa_cons (pe_ix ix_list (pv 2) (pv 5) (fun _ _ => rfl)) pa_nil)))) pa_nil)))))) (pss_one (ps_if (PW.pt (pw_or (pt_cmpR op_gt (pv 6) pe_int (nomark _)) (pw_or1 (pt_cmpR (op_neD hr.units) (pe_ix ix_list (pv 2) (pv 5) (fun _ _ => rfl)) (pv 3) (nomark _))))) (pss_one (ps_expr (pe_bm PySem.F.plainAttrs_list PySem.F.slot_list_append PySem.F.type_list_append mt_append (pv 4) (pa_cons (pe_tup (pa_cons (pe_ix ix_list (pv 1) (pv 5) (fun _ _ => rfl)) (pa_cons (pe_ix ix_list (pv 1) (pe_op op_add (pv 5) pe_int) (fun _ _ => rfl)) (pa_cons (pe_ix ix_list (pv 2) (pv 5) (fun _ _ => rfl)) pa_nil)))) pa_nil)))) pss_nil))))))
    (pss_one (ps_ret (pv 4))))), ?_⟩
    have lr := hR.len
    refine ⟨Nat.zero_le _, fun P nP => ?_⟩
    have nPS := ext_ne hS nP
    have nPc := ext_nc hS nP
    have hR0 := hR.ext (.new (o := .lst []) nP)
    refine ⟨_, rfl, R, us, rfl, .inl hR0.sq, _, rfl, by omega, by omega, ?_⟩
    rw [lr]
    refine for_range (lo := 0) (n := r.length) (fun i σ' H' => ∃ (o1 o2 o3 : Option V) (ps : List Pt) (vs : List V), σ' = [some (.ref S), some (.ref G), some (.ref R), some nv, some (.ref P), o1, o2, o3] ∧ Ext S H H' ∧ Stm S c H' ∧ PcsS K S H' P ps vs ∧ Fm.Loose n (gs.take (i + 1)) (r.take i) ps ∧ ps.length ≤ 2 * i ∧ Srt s ps) ⟨_, _, _, [], [], rfl, .new nP, stm_new hS nP, .nil hS nP, ?_, Nat.zero_le _, fun t ht => by cases ht⟩ ?_ ?_
    · cases gs with
      | nil => simp at hgl
      | cons a g => exact .nil
    · rintro i σ' H' hi ⟨o1, o2, o3, ps, vs, rfl, e, hS', hP, hL, hpl, hsp⟩
      refine ⟨_, rfl, S, c, 10, rfl, hS', by decide, fun w H1 w0 w1 _ hS1 e1 => ?_⟩
      have e01 := e.trans e1
      have hP1 := hP.ext e1
      have hR1 := hR.ext e01
      have hn1 := tg_ext hn e01
      have hG1 := hG.ext e01
      have hj : r[i]? = some r[i] := List.getElem?_eq_getElem hi
      obtain ⟨v, hv, hvd⟩ := hR1.get hj
      have ga : gs[i]? = some (gs[i]'(by omega)) := List.getElem?_eq_getElem (by omega)
      have gb : gs[i + 1]? = some (gs[i + 1]'(by omega)) := List.getElem?_eq_getElem (by omega)
      have hab : gs[i]'(by omega) < gs[i + 1]'(by omega) := List.pairwise_iff_getElem.mp hasc i (i + 1) (by omega) (by omega) (by omega)
      have es := hs _ (List.getElem_mem hi)
      have er : r.take (i + 1) = r.take i ++ [r[i]] := take_map hj
      have eg : gs.take (i + 1 + 1) = gs.take (i + 1) ++ [gs[i + 1]'(by omega)] := take_map gb
      have el : (gs.take (i + 1)).getLast? = some (gs[i]'(by omega)) := by rw [take_map ga, List.getLast?_append, List.getLast?_singleton] <;> rfl
      have va : atI (gs.map V.int) (0 + (i : Int)) = some (.int (gs[i]'(by omega))) := at_of (j := i) (by omega) (map_get (by omega))
      have vb : atI (gs.map V.int) (0 + (i : Int) + 1) = some (.int (gs[i + 1]'(by omega))) := at_of (j := i + 1) (by omega) (map_get (by omega))
      have vr : atI us (0 + (i : Int)) = some v := at_of (j := i) (by omega) hv
      generalize r[i] = t at *
      generalize gs[i]'(by omega) = a at *
      generalize gs[i + 1]'(by omega) = b at *
      obtain ⟨l1, l2, l3⟩ := hL.snoc el hab
      have l1 := l1 t
      rw [← eg, ← er] at l1
      have hz : vs.length < sizeLine := by
        rw [hP.len]
        exact small1000 (by omega)
      -- one piece
      have one : ∀ H2, Ext S H1 H2 → Stm S c H2 → ∀ (q : Addr), H2 q = none → PcsS K S (upd (upd H2 q (.tup [.int a, .int b, v])) P (.lst (vs ++ [.ref q]))) P (ps ++ [(a, b, t)]) (vs ++ [.ref q]) := fun H2 e2 hS2 q nq =>
        ((hP1.ext e2).ext (.new nq)).snoc (pc_new hS2 nq (tg_ext hvd e2))
      refine ⟨_, rfl, _, _, rfl, rfl, _, rfl, ?_⟩
      refine if2 (fun c1 => ?_) (fun c1 => ?_)
      · refine ⟨_, rfl, _, rfl, _, _, rfl, rfl, G, _, _, _, rfl, rfl, hG1.sq, vb, _, rfl, _, rfl, G, _, _, _, rfl, rfl, hG1.sq, va, _, _, rfl, rfl, _, _, rfl, rfl, _, rfl, ?_⟩
        refine if2 (fun c2 => ?_) (fun c2 => ?_)
        · have c2' : 1 < b - a := of_decide_eq_true c2
          refine ⟨_, rfl, _, rfl, G, _, _, _, rfl, rfl, hG1.sq, va, _, _, rfl, rfl, _, rfl, _, rfl, _, rfl, _, _, rfl, rfl, G, _, _, _, rfl, rfl, hG1.sq, vb, _, rfl, _, rfl, G, _, _, _, rfl, rfl, hG1.sq, va, _, _, rfl, rfl, _, _, rfl, rfl, S, c, _, rfl, hS1, (by omega), fun z H2 z0 z1 _ hS2 e2 => ⟨_, _, rfl, rfl, ?_⟩⟩
          have hP2 := hP1.ext e2
          have hR2 := hR1.ext e2
          have hG2 := hG1.ext e2
          refine ⟨_, rfl, .inl ⟨rfl, _, hP2.sq⟩, _, rfl, _, rfl, G, _, _, _, rfl, rfl, hG2.sq, va, _, rfl, _, rfl, _, rfl, R, _, _, v, rfl, rfl, hR2.sq, vr, (by show 3 ≤ sizeLine; decide), fun q nq => ?_⟩
          refine ⟨P, _, _, rfl, rfl, (hP2.ext (.new nq)).at_, hz, ?_⟩
          have hP3 := (hP2.ext (.new nq)).snoc (pc_new (a := a) (b := a + 1 + z) hS2 nq (tg_ext hvd e2))
          have hS3 : Stm S c (upd (upd H2 q (.tup [.int a, .int (a + 1 + z), v])) P (.lst (vs ++ [.ref q]))) := stm_put (stm_new hS2 nq) nPS nPc
          have e03 : Ext S H (upd (upd H2 q (.tup [.int a, .int (a + 1 + z), v])) P (.lst (vs ++ [.ref q]))) := ext_mut ((e01.trans e2).trans (.new nq)) nP
          have hR3 := hR.ext e03
          have hG3 := hG.ext e03
          generalize upd (upd H2 q (.tup [.int a, .int (a + 1 + z), v])) P (.lst (vs ++ [.ref q])) = H3 at *
          refine ⟨_, rfl, .inl ⟨rfl, _, hP3.sq⟩, _, rfl, _, rfl, _, rfl, _, _, rfl, rfl, G, _, _, _, rfl, rfl, hG3.sq, vb, _, rfl, _, rfl, R, _, _, v, rfl, rfl, hR3.sq, vr, (by show 3 ≤ sizeLine; decide), fun q2 nq2 => ?_⟩
          refine ⟨P, _, _, rfl, rfl, (hP3.ext (.new nq2)).at_, ?_, ?_⟩
          · rw [hP3.len]
            exact small1000 (by simp; omega)
          have l2 := l2 t (a + 1 + z) (by omega) (by omega)
          rw [← eg, ← er] at l2
          refine ⟨_, _, _, ps ++ [(a, a + 1 + z, t)] ++ [(a + 1 + z, b, t)], _, rfl, ext_mut (e03.trans (.new nq2)) nP, stm_put (stm_new hS3 nq2) nPS nPc, (hP3.ext (.new nq2)).snoc (pc_new hS3 nq2 (hR3.dp hj hv)), by rw [List.append_assoc]; exact l2, by simp; omega, srt_snoc (srt_snoc hsp es) es⟩
        · refine ⟨_, rfl, _, _, rfl, rfl, _, rfl, ?_⟩
          refine if2 (fun c4 => ?_) (fun c4 => ?_)
          · refine ⟨_, rfl, .inl ⟨rfl, _, hP1.sq⟩, _, rfl, _, rfl, G, _, _, _, rfl, rfl, hG1.sq, va, _, rfl, _, rfl, _, _, rfl, rfl, G, _, _, _, rfl, rfl, hG1.sq, vb, _, rfl, _, rfl, R, _, _, v, rfl, rfl, hR1.sq, vr, (by show 3 ≤ sizeLine; decide), fun q nq => ?_⟩
            refine ⟨P, _, _, rfl, rfl, (hP1.ext (.new nq)).at_, hz, ?_⟩
            exact ⟨_, _, _, _, _, rfl, ext_mut (e01.trans (.new nq)) nP, stm_put (stm_new hS1 nq) nPS nPc, one H1 (.refl _ _) hS1 q nq, l1, by simp; omega, srt_snoc hsp es⟩
          · refine ⟨_, rfl, _, rfl, R, _, _, v, rfl, rfl, hR1.sq, vr, _, rfl, _, _, tg_le hvd, tg_le hn1, tg_sh _, tg_sh _, _, rfl, ?_⟩
            rw [tg_eqv (es.trans ns.symm)]
            refine if2 (fun c5 => ?_) (fun c5 => ?_)
            · refine ⟨_, rfl, .inl ⟨rfl, _, hP1.sq⟩, _, rfl, _, rfl, G, _, _, _, rfl, rfl, hG1.sq, va, _, rfl, _, rfl, _, _, rfl, rfl, G, _, _, _, rfl, rfl, hG1.sq, vb, _, rfl, _, rfl, R, _, _, v, rfl, rfl, hR1.sq, vr, (by show 3 ≤ sizeLine; decide), fun q nq => ?_⟩
              refine ⟨P, _, _, rfl, rfl, (hP1.ext (.new nq)).at_, hz, ?_⟩
              exact ⟨_, _, _, _, _, rfl, ext_mut (e01.trans (.new nq)) nP, stm_put (stm_new hS1 nq) nPS nPc, one H1 (.refl _ _) hS1 q nq, l1, by simp; omega, srt_snoc hsp es⟩
            · have c5' : t = n := by simpa using c5
              subst c5'
              rw [← eg, ← er] at l3
              exact ⟨_, _, _, ps, vs, rfl, e01, hS1, hP1, l3, by omega, hsp⟩
      · refine ifF rfl ?_
        refine ⟨_, rfl, _, _, rfl, rfl, _, rfl, ?_⟩
        refine if2 (fun c4 => ?_) (fun c4 => ?_)
        · refine ⟨_, rfl, .inl ⟨rfl, _, hP1.sq⟩, _, rfl, _, rfl, G, _, _, _, rfl, rfl, hG1.sq, va, _, rfl, _, rfl, _, _, rfl, rfl, G, _, _, _, rfl, rfl, hG1.sq, vb, _, rfl, _, rfl, R, _, _, v, rfl, rfl, hR1.sq, vr, (by show 3 ≤ sizeLine; decide), fun q nq => ?_⟩
          refine ⟨P, _, _, rfl, rfl, (hP1.ext (.new nq)).at_, hz, ?_⟩
          exact ⟨_, _, _, _, _, rfl, ext_mut (e01.trans (.new nq)) nP, stm_put (stm_new hS1 nq) nPS nPc, one H1 (.refl _ _) hS1 q nq, l1, by simp; omega, srt_snoc hsp es⟩
        · refine ⟨_, rfl, _, rfl, R, _, _, v, rfl, rfl, hR1.sq, vr, _, rfl, _, _, tg_le hvd, tg_le hn1, tg_sh _, tg_sh _, _, rfl, ?_⟩
          rw [tg_eqv (es.trans ns.symm)]
          refine if2 (fun c5 => ?_) (fun c5 => ?_)
          · refine ⟨_, rfl, .inl ⟨rfl, _, hP1.sq⟩, _, rfl, _, rfl, G, _, _, _, rfl, rfl, hG1.sq, va, _, rfl, _, rfl, _, _, rfl, rfl, G, _, _, _, rfl, rfl, hG1.sq, vb, _, rfl, _, rfl, R, _, _, v, rfl, rfl, hR1.sq, vr, (by show 3 ≤ sizeLine; decide), fun q nq => ?_⟩
            refine ⟨P, _, _, rfl, rfl, (hP1.ext (.new nq)).at_, hz, ?_⟩
            exact ⟨_, _, _, _, _, rfl, ext_mut (e01.trans (.new nq)) nP, stm_put (stm_new hS1 nq) nPS nPc, one H1 (.refl _ _) hS1 q nq, l1, by simp; omega, srt_snoc hsp es⟩
          · have c5' : t = n := by simpa using c5
            subst c5'
            rw [← eg, ← er] at l3
            exact ⟨_, _, _, ps, vs, rfl, e01, hS1, hP1, l3, by omega, hsp⟩
    · rintro σ' H' ⟨o1, o2, o3, ps, vs, rfl, e, hS', hP, hL, hpl, hsp⟩
      rw [List.take_length, ← hgl, List.take_length] at hL
      exact ⟨_, rfl, k P ps vs H' nP e hS' hP hL hpl hsp⟩
/-! ### _law_good_thing -/
def sp__law_good_thing (K : PySem.W.Frag) : Sp := fun vs H Q _ => ∃ (v : V) (t : Tg) (s : Nat), vs = [v, .int (s : Int)] ∧ Dp K H v t.d ∧ t.s = s ∧ t.small ∧ ∀ H', Same H H' → Q (.bl true) H'
theorem ok__law_good_thing (T : Txt P K mg A') : FnOk P w K mg base CX0 4 A'.f__law_good_thing A'.fd__law_good_thing ["_law_thing_here", "_law_sort"] (sp__law_good_thing K) := by
  refine Hk.okN T.F__law_good_thing sc__law_good_thing (fun vs H Q E h => ?_) (fun cdv A outer s H vs Q E hr h => ?_)
  · obtain ⟨v, t, s, rfl, _⟩ := h
    rfl
  · obtain ⟨v, t, s, rfl, hv, hs, hz, k⟩ := h
    refine ⟨_, (pss_cons (ps_if (pt_cmpR op_eq (pv 1) pe_int (nomark _)) (pss_one (ps_ret (pe_call (ok__law_is_word T) (hr.mono (by decide)) rfl T.g__law_is_word T.F__law_is_word.kp T.b__law_is_word .nil pass0 (pa_cons (pv 0) pa_nil)))) pss_nil)
    (pss_cons (ps_if (pt_cmpR op_eq (pv 1) pe_int (nomark _)) (pss_one (ps_ret (pe_call (ok__law_is_effect T) (hr.mono (by decide)) rfl T.g__law_is_effect T.F__law_is_effect.kp T.b__law_is_effect .nil pass0 (pa_cons (pv 0) pa_nil)))) pss_nil)
    (pss_cons (ps_if (pt_cmpR op_eq (pv 1) pe_int (nomark _)) (pss_one (ps_ret (pe_callB call_isD (by rfl) T.z_isinstance (by decide +kernel) (pa_cons (pv 0) (pa_cons (pe_bltn (v := .ty "bool") (by rfl) T.z_bool (by decide +kernel) rfl) pa_nil))))) pss_nil)
    (pss_one (ps_ret (pe_call (ok__law_is_number T) (hr.mono (by decide)) rfl T.g__law_is_number T.F__law_is_number.kp T.b__law_is_number .nil pass0 (pa_cons (pv 0) pa_nil))))))), ?_⟩
    subst hs
    cases t with
    | w ns =>
      refine ⟨_, rfl, rfl, _, rfl, ?_⟩
      refine ifT rfl ?_
      refine ⟨_, rfl, v, wD ns, rfl, hv, fun ds e => ?_, fun H1 s1 => ?_⟩
      · cases e
        have hz : ns.length ≤ 8 := hz
        rw [List.length_map]
        omega
      · rw [isWd_ints]
        exact k H1 s1
    | e f ns =>
      refine ⟨_, rfl, rfl, _, rfl, ?_⟩
      refine ifF rfl ?_
      refine ⟨_, rfl, rfl, _, rfl, ?_⟩
      refine ifT rfl ?_
      have hz : ns.length ≤ 8 := hz
      exact ⟨_, rfl, v, f, ns, rfl, hv, by omega, k⟩
    | b f =>
      refine ⟨_, rfl, rfl, _, rfl, ?_⟩
      refine ifF rfl ?_
      refine ⟨_, rfl, rfl, _, rfl, ?_⟩
      refine ifF rfl ?_
      refine ⟨_, rfl, rfl, _, rfl, ?_⟩
      refine ifT rfl ?_
      refine ⟨_, rfl, v, _, _, rfl, okT_bool, hv, ?_⟩
      rw [show isI "bool" (Tg.b f).d = true from isI_bool_bool f]
      exact k H (.refl _)
    | i n =>
      refine ⟨_, rfl, rfl, _, rfl, ?_⟩
      refine ifF rfl ?_
      refine ⟨_, rfl, rfl, _, rfl, ?_⟩
      refine ifF rfl ?_
      refine ⟨_, rfl, rfl, _, rfl, ?_⟩
      refine ifF rfl ?_
      refine ⟨_, rfl, v, _, rfl, hv, ?_⟩
      rw [show isW (Tg.i n).d = true from isW_int n]
      exact k H (.refl _)
/-! ### Field____init__ -/
def sp_Field____init__ (K : PySem.W.Frag) (A' : Ad) : Sp := fun vs H Q E => ∃ (x dx P : Addr) (nv : V) (xs : List V) (ds : List PyData) (n : Tg), vs = [.ref x, nv, .ref P] ∧ H x = some (.ins A'.c_Field dx []) ∧ Dp K H nv n.d ∧ Sq K H P xs ∧ DpAll K H xs ds ∧
  (badPc 0 ds 0 = none → ∃ ps : List Pt, ds = ps.map pcD ∧ Srt n.s ps ∧ ps.length ≤ 900 ∧ ∀ L ws H', H L = none → Ext x H H' → H x ≠ none → FdW K A'.c_Field H' x n (Fm.form n ps) dx nv L ws → Q .non H') ∧
  (∀ i : Nat, badPc 0 ds 0 = some i → ∀ dx H', Same H H' → H' dx = some (.xd [("place", .int i)]) → E (.ref A'.c_BadField) (some dx) H')
theorem ok_Field____init__ (T : Txt P K mg A') : FnOk P w K mg base (L2.CX P w) 5 A'.f_Field____init__ A'.fd_Field____init__ ["self", "neutral", "pieces"] (sp_Field____init__ K A') := by
  refine Mw.okMX T.F_Field____init__ sc_Field____init__ (fun vs H Q E h => ?_) (fun cdv A outer s H vs Q E hr h => ?_)
  · obtain ⟨x, dx, P, nv, xs, ds, n, rfl, _⟩ := h
    rfl
  · obtain ⟨x, dx, P, nv, xs, ds, n, rfl, hx, hn, hq, hds, k1, k2⟩ := h
    refine ⟨_, (pss_cons (ps_expr (pe_call (ok_check_pieces T) (hr.mono (by decide)) rfl T.g_check_pieces T.F_check_pieces.kp T.b_check_pieces .nil (Kc.passT (takes_of rfl rfl rfl rfl)) (pa_cons (pv 2) pa_nil)))
    (pss_cons (ps_fld (pv 0) (pv 1) rfl)
    (pss_one (ps_fld (pv 0) (pe_call (ok_in_one_form T) (hr.mono (by decide)) rfl T.g_in_one_form T.F_in_one_form.kp T.b_in_one_form .nil pass0 (pa_cons (pv 1) (pa_cons (pv 2) pa_nil))) rfl)))), ?_⟩
    refine ⟨_, rfl, P, xs, ds, rfl, hq, hds, fun hb H1 s1 => ?_, fun i hb dx2 H1 s1 hd => k2 i hb dx2 H1 s1 hd⟩
    obtain ⟨ps, rfl, hs, hl, k1⟩ := k1 hb
    refine ⟨_, rfl, _, rfl, x, _, dx, _, rfl, s1 _ _ hx, T.cl_Field, T.na_Field__neutral, by decide, ?_⟩
    have e1 : Ext x H (upd H1 x (.ins A'.c_Field dx (putF "_neutral" nv []))) := (Ext.of s1).trans .at
    have hn1 : Dp K (upd H1 x (.ins A'.c_Field dx (putF "_neutral" nv []))) nv n.d := tg_ins (s1 _ _ hx) (dp_same s1 hn)
    refine ⟨_, rfl, _, rfl, nv, P, xs, n, ps, rfl, hn1, sq_ins (s1 _ _ hx) (sq_same s1 hq), pcs_ins (s1 _ _ hx) (dpa_same s1 hds), hs, hl, fun L ws H2 nL s2 hL hw => ?_⟩
    have hx2 : H2 x = some (.ins A'.c_Field dx (putF "_neutral" nv [])) := s2 _ _ upd_same
    refine ⟨_, rfl, x, _, dx, _, rfl, hx2, T.cl_Field, T.na_Field__pieces, by show 1 < 1000; decide, ?_⟩
    have nLx : L ≠ x := fun z => by rw [z, hx2] at hL; cases hL
    have nL0 : H L = none := by
      cases q : H L with
      | none => rfl
      | some o =>
        have h1 := s1 _ _ q
        rw [upd_ne nLx, h1] at nL
        cases nL
    refine k1 L ws _ nL0 ((e1.trans (Ext.of s2)).trans .at) (by rw [hx]; simp) ⟨by rw [upd_same] <;> rfl, tg_ins hx2 (dp_same s2 hn1), by rw [upd_ne nLx]; exact hL, pcs_ins hx2 hw⟩
/-! ### Field__at -/
def sp_Field__at (K : PySem.W.Frag) (A' : Ad) : Sp := fun vs H Q E => ∃ (F : Addr) (v : V) (n : Tg) (ps : List Pt) (d : PyData), vs = [.ref F, v] ∧ Fd K A'.c_Field H F n ps ∧ Fm.Asc 0 ps ∧ Dp K H v d ∧ shOk d ∧
  (∀ x : Int, d = .int x → isKey d = true → ∀ u, Dp K H u (Fm.vl n ps x).d → Q u H) ∧
  (isKey d = false → ∀ dx H', Same H H' → H' dx = some (.xd [("key", v)]) → E (.ref A'.c_BadKey) (some dx) H')
theorem isKey_int {d : PyData} (h : isKey d = true) : ∃ x, d = .int x := by
  cases d with
  | int x => exact ⟨x, rfl⟩
  | _ => cases h
theorem at_calc (a b : Int) (low high : Nat) (h : low < high) : ∃ m : Nat, ((low : Int) + (high : Int)) / 2 = (m : Int) ∧ low ≤ m ∧ m < high := ⟨(low + high) / 2, by omega, by omega, by omega⟩
theorem ok_Field__at (T : Txt P K mg A') : FnOk P w K mg base (L2.CX P w) 5 A'.f_Field__at A'.fd_Field__at ["self", "key"] (sp_Field__at K A') := by
  refine Mw.okMX T.F_Field__at sc_Field__at (fun vs H Q E h => ?_) (fun cdv A outer s H vs Q E hr h => ?_)
  · obtain ⟨F, v, n, ps, d, rfl, _⟩ := h
    rfl
  · obtain ⟨F, v, n, ps, d, rfl, ⟨dx, nv, L, vs, h⟩, hA, hd, hs, k1, k2⟩ := h
    refine ⟨_, (pss_cons (ps_expr (pe_call (ok_check_key T) (hr.mono (by decide)) rfl T.g_check_key T.F_check_key.kp T.b_check_key .nil (Kc.passT (takes_of rfl rfl rfl rfl)) (pa_cons (pv 1) pa_nil)))
    (pss_cons (ps_set (i := 2) sc_Field__at.nd rfl (Or.inl rfl) pe_int)
    (pss_cons (ps_set (i := 3) sc_Field__at.nd rfl (Or.inl rfl) (pe_callB call_len_seq (by rfl) T.z_len (by decide +kernel) (pa_cons (pe_fld (pv 0) rfl) pa_nil)))
    (pss_cons (ps_while (passes_of rfl) (pt_cmpR op_lt (pv 2) (pv 3) (nomark _)) (pss_cons (ps_set (i := 4) sc_Field__at.nd rfl (Or.inl rfl) (pe_op op_fdiv (pe_op op_add (pv 2) (pv 3)) pe_int))
    (pss_one (ps_if (pt_cmpR op_le (pe_ix ix_tup (pe_ix ix_list (pe_fld (pv 0) rfl) (pv 4) (fun _ _ => rfl)) pe_int (fun _ _ => rfl)) (pv 1) (nomark _)) (pss_one (ps_set (i := 2) sc_Field__at.nd rfl (Or.inl rfl) (pe_op op_add (pv 4) pe_int))) (pss_one (ps_set (i := 3) sc_Field__at.nd rfl (Or.inl rfl) (pv 4)))))))
    (pss_cons (ps_if (PW.pt (pw_and (pt_cmpR op_lt (pv 2) (pe_callB call_len_seq (by rfl) T.z_len (by decide +kernel) (pa_cons (pe_fld (pv 0) rfl) pa_nil)) (nomark _)) (pw_and1 (pt_cmpR op_le (pe_ix ix_tup (pe_ix ix_list (pe_fld (pv 0) rfl) (pv 2) (fun _ _ => rfl)) pe_int (fun _ _ => rfl)) (pv 1) (nomark _))))) (pss_one (ps_ret (pe_ix ix_tup (pe_ix ix_list (pe_fld (pv 0) rfl) (pv 2) (fun _ _ => rfl)) pe_int (fun _ _ => rfl)))) pss_nil)
    (pss_one (ps_ret (pe_fld (pv 0) rfl)))))))), ?_⟩
    have hl := dpa_lenM h.dat
    refine ⟨_, rfl, v, d, rfl, hd, hs, fun hk => ?_, fun hk dx2 H' s h2 => k2 hk dx2 H' s h2⟩
    obtain ⟨x, rfl⟩ := isKey_int hk
    have k1 := k1 x rfl hk
    cases hd
    refine ⟨_, rfl, F, _, dx, _, _, rfl, h.at_, T.cl_Field, T.na_Field__pieces, lk_pcs (x := nv) (y := .ref L), L, vs, rfl, .inl (SqL.of h.lst), ?_⟩
    refine while_by (fun σ' H' => H' = H ∧ ∃ (low high : Nat) (o : Option V), σ' = [some (.ref F), some (.int x), some (.int (low : Int)), some (.int (high : Int)), o] ∧ low ≤ high ∧ high ≤ ps.length ∧ (∀ p ∈ ps.take low, p.2.1 ≤ x) ∧ (∀ p, ps[high]? = some p → x < p.2.1)) (fun σ' _ => Kc.slotN σ' 3 - Kc.slotN σ' 2) ⟨rfl, 0, ps.length, none, by rw [hl] <;> rfl, Nat.zero_le _, Nat.le_refl _, fun p hp => by simp at hp, fun p hp => by simp at hp⟩ ?_ ?_
    · rintro σ' H' ⟨rfl, low, high, o, rfl, l1, l2, l3, l4⟩
      refine ⟨_, rfl, _, rfl, _, _, rfl, rfl, _, rfl, ?_⟩
      refine if2 (fun c => ?_) (fun c => ?_)
      · have c' : low < high := by have := of_decide_eq_true c; omega
        obtain ⟨m, em, m1, m2⟩ := at_calc 0 0 low high c'
        refine ⟨_, rfl, _, rfl, _, _, rfl, rfl, _, _, rfl, rfl, ⟨by decide, by decide⟩, ?_⟩
        have hp : ps[m]? = some (ps[m]'(by omega)) := List.getElem?_eq_getElem (by omega)
        obtain ⟨w, hw, hpw⟩ := dpa_map h.dat hp
        obtain ⟨q, u, rfl, hq, hu⟩ := pc_inv hpw
        refine ⟨_, rfl, F, _, dx, _, _, rfl, h.at_, T.cl_Field, T.na_Field__pieces, lk_pcs (x := nv) (y := .ref L), _, rfl, L, _, _, _, rfl, rfl, SqL.of h.lst, (by rw [em]; exact atI_nat hw), q, _, _, _, rfl, rfl, hq, rfl, _, rfl, _, _, rfl, rfl, _, rfl, ?_⟩
        refine if2 (fun c2 => ?_) (fun c2 => ?_)
        · have c2' := of_decide_eq_true c2
          refine ⟨_, rfl, _, _, rfl, rfl, ⟨rfl, m + 1, high, _, by show [some (V.ref F), some (V.int x), some (V.int (((low : Int) + (high : Int)) / 2 + 1)), some (V.int high), some (V.int (((low : Int) + (high : Int)) / 2))] = _; rw [em] <;> rfl, by omega, l2, Fm.asc_take hA hp c2', l4⟩, ?_⟩
          show high - (((low : Int) + (high : Int)) / 2 + 1).toNat < high - low
          rw [em]
          omega
        · have c2' := of_decide_eq_false c2
          refine ⟨_, rfl, ⟨rfl, low, m, _, by show [some (V.ref F), some (V.int x), some (V.int low), some (V.int (((low : Int) + (high : Int)) / 2)), some (V.int (((low : Int) + (high : Int)) / 2))] = _; rw [em] <;> rfl, m1, by omega, l3, fun p hp2 => by rw [hp] at hp2; rw [← Option.some.inj hp2]; omega⟩, ?_⟩
          show (((low : Int) + (high : Int)) / 2).toNat - low < high - low
          rw [em]
          omega
      · have c' : low = high := by have := of_decide_eq_false c; omega
        subst c'
        have go := Fm.vl_find (n := n) hA l3 l4
        refine ⟨_, rfl, _, rfl, F, _, dx, _, _, rfl, h.at_, T.cl_Field, T.na_Field__pieces, lk_pcs (x := nv) (y := .ref L), L, vs, rfl, .inl (SqL.of h.lst), _, _, rfl, rfl, _, rfl, ?_⟩
        refine if2 (fun c2 => ?_) (fun c2 => ?_)
        · have c2' : low < ps.length := by have := of_decide_eq_true c2; omega
          have hp : ps[low]? = some ps[low] := List.getElem?_eq_getElem c2'
          obtain ⟨w, hw, hpw⟩ := dpa_map h.dat hp
          obtain ⟨q, u, rfl, hq, hu⟩ := pc_inv hpw
          rw [hp] at go
          have go : Fm.vl n ps x = if (ps[low]).1 ≤ x then (ps[low]).2.2 else n := go
          refine ⟨_, rfl, F, _, dx, _, _, rfl, h.at_, T.cl_Field, T.na_Field__pieces, lk_pcs (x := nv) (y := .ref L), _, rfl, L, _, _, _, rfl, rfl, SqL.of h.lst, atI_nat hw, q, _, _, _, rfl, rfl, hq, rfl, _, rfl, _, _, rfl, rfl, _, rfl, ?_⟩
          refine if2 (fun c3 => ?_) (fun c3 => ?_)
          · have c3' := of_decide_eq_true c3
            refine ⟨_, rfl, F, _, dx, _, _, rfl, h.at_, T.cl_Field, T.na_Field__pieces, lk_pcs (x := nv) (y := .ref L), _, rfl, L, _, _, _, rfl, rfl, SqL.of h.lst, atI_nat hw, q, _, _, _, rfl, rfl, hq, rfl, ?_⟩
            refine k1 u ?_
            rw [go, if_pos c3']
            exact hu
          · have c3' := of_decide_eq_false c3
            refine ⟨_, rfl, F, _, dx, _, _, rfl, h.at_, T.cl_Field, T.na_Field__neutral, lk_neu (x := nv) (y := .ref L), ?_⟩
            refine k1 nv ?_
            rw [go, if_neg c3']
            exact h.neu
        · have c2' : ps[low]? = none := by have := of_decide_eq_false c2; exact List.getElem?_eq_none (by omega)
          rw [c2'] at go
          have go : Fm.vl n ps x = n := go
          refine ifF rfl ?_
          refine ⟨_, rfl, F, _, dx, _, _, rfl, h.at_, T.cl_Field, T.na_Field__neutral, lk_neu (x := nv) (y := .ref L), ?_⟩
          refine k1 nv ?_
          rw [go]
          exact h.neu
    · rintro σ H Q Q' hq ⟨x1, e1, x2, e2, aa, bb, e3, e4, b1, e5, e6⟩
      exact ⟨x1, e1, x2, e2, aa, bb, e3, e4, b1, e5, hq _ _ e6⟩
/-! ### _law_effect -/
def sp__law_effect (K : PySem.W.Frag) : Sp := fun vs H Q _ => ∃ (S c G : Addr) (gs : List Int) (k8 : Km.Kd8), vs = [.ref S, .str (nm k8), .ref G] ∧ Stm S c H ∧ Lets S c G gs H ∧ ∀ (v : V) (f : Bool) (ns : List Int) H', Ext S H H' → Stm S c H' → Dp K (hid S H') v (eD f ns) → ns.length ≤ 8 → Q v H'
theorem ok__law_effect (T : Txt P K mg A') : FnOk P w K mg base CX0 5 A'.f__law_effect A'.fd__law_effect ["_law_stream_here", "_law_kind_here", "_law_letters_here"] (sp__law_effect K) := by
  refine Hk.okN T.F__law_effect sc__law_effect (fun vs H Q E h => ?_) (fun cdv A outer s H vs Q E hr h => ?_)
  · obtain ⟨S, c, G, gs, k8, rfl, _⟩ := h
    rfl
  · obtain ⟨S, c, G, gs, k8, rfl, hS, hG, k⟩ := h
    refine ⟨_, (pss_cons (ps_set (i := 3) sc__law_effect.nd rfl (Or.inl rfl) (pe_cmpR op_gt (pe_call (ok__law_pick T) (hr.mono (by decide)) rfl T.g__law_pick T.F__law_pick.kp T.b__law_pick .nil pass0 (pa_cons (pv 0) (pa_cons pe_int pa_nil))) pe_int (nomark _)))
    (pss_one (ps_ret (pe_call (ok__law_normal T) (hr.mono (by decide)) rfl T.g__law_normal T.F__law_normal.kp T.b__law_normal .nil pass0 (pa_cons (pv 1) (pa_cons (pe_tup (pa_cons (pv 3) (pa_cons (pe_call (ok__law_plain T) (hr.mono (by decide)) rfl T.g__law_plain T.F__law_plain.kp T.b__law_plain .nil pass0 (pa_cons (pv 1) (pa_cons (pe_call (ok__law_raw T) (hr.mono (by decide)) rfl T.g__law_raw T.F__law_raw.kp T.b__law_raw .nil pass0 (pa_cons (pv 0) (pa_cons (pv 2) pa_nil))) pa_nil))) pa_nil))) pa_nil)))))), ?_⟩
    refine ⟨_, rfl, S, c, 10, rfl, hS, by decide, fun r H1 a1 b1 _ hS1 e1 => ⟨_, _, rfl, rfl, ?_⟩⟩
    refine ⟨_, rfl, _, rfl, _, rfl, _, rfl, _, rfl, S, c, G, gs, rfl, hS1, hG.ext e1, fun v2 bs H2 e2 hS2 hv2 l2 i2 => ?_⟩
    obtain ⟨t2, rfl, ht2⟩ := w_inv hv2
    refine ⟨k8, t2, bs, rfl, ht2, by omega, fun w3 H3 s3 hw3 => ⟨(by show 2 ≤ sizeLine; decide), fun B nB => ?_⟩⟩
    have sB := same_new (o := .tup [.bl (decide ((4 : Int) < r)), w3]) nB
    have hB : Dp K (upd H3 B (.tup [.bl (decide ((4 : Int) < r)), w3])) (.ref B) (eD (decide ((4 : Int) < r)) (Km.pl k8 bs)) := by
      obtain ⟨t3, rfl, ht3⟩ := w_inv hw3
      exact e_mk (.inl (.inl upd_same)) (dp_same sB (w_mk ht3))
    refine ⟨k8, .ref B, _, _, rfl, hB, fun v4 H4 s4 hv4 => ?_⟩
    have hS4 := stm_same (stm_same (stm_same hS2 s3) sB) s4
    refine k v4 _ _ H4 ((e1.trans e2).trans (.of ((s3.trans sB).trans s4))) hS4 (e_hid hS4 hv4) ?_
    exact Nat.le_trans (Km.pl_len k8 bs) (by omega)
/-! ### _law_told_pieces -/
def sp__law_told_pieces (K : PySem.W.Frag) : Sp := fun vs H Q _ => ∃ (P Q0 : Addr) (xs ys : List V) (ps : List Pt) (s : Nat), vs = [.ref P, .ref Q0, .int (s : Int)] ∧ SqL K H P xs ∧ SqL K H Q0 ys ∧ DpAll K H xs (ps.map pcD) ∧ DpAll K H ys (ps.map pcD) ∧ (∀ p ∈ ps, p.2.2.s = s ∧ p.2.2.small) ∧ ∀ H', Same H H' → Q (.bl true) H'
theorem ok__law_told_pieces (T : Txt P K mg A') : FnOk P w K mg base CX0 5 A'.f__law_told_pieces A'.fd__law_told_pieces ["_law_told", "_law_due", "_law_sort"] (sp__law_told_pieces K) := by
  refine Hk.okN T.F__law_told_pieces sc__law_told_pieces (fun vs H Q E h => ?_) (fun cdv A outer s H vs Q E hr h => ?_)
  · obtain ⟨P, Q0, xs, ys, ps, s, rfl, _⟩ := h
    rfl
  · obtain ⟨P, Q0, xs, ys, ps, s, rfl, hP, hQ, hx, hy, hg, k⟩ := h
    refine ⟨_, (pss_cons (ps_if (PW.pt (pw_or (pt_not (pt_val (pe_callB call_isD (by rfl) T.z_isinstance (by decide +kernel) (pa_cons (pv 0) (pa_cons (pe_bltn (v := .ty "list") (by rfl) T.z_list (by decide +kernel) rfl) pa_nil))))) (pw_or1 (pt_cmpR (op_neD hr.units) (pv 0) (pv 1) (nomark _))))) (pss_one (ps_ret pe_bl)) pss_nil)
    (pss_cons (ps_for PassesOwn.never rfl (pi_list (pv 0)) (pg_name (i := 3) sc__law_told_pieces.nd rfl (Or.inl rfl)) (pss_one (ps_if (PW.pt (pw_or (pt_not (pt_val (pe_call (ok__law_is_number T) (hr.mono (by decide)) rfl T.g__law_is_number T.F__law_is_number.kp T.b__law_is_number .nil pass0 (pa_cons (pe_ix ix_tup (pv 3) pe_int (fun _ _ => rfl)) pa_nil)))) (pw_or (pt_not (pt_val (pe_call (ok__law_is_number T) (hr.mono (by decide)) rfl T.g__law_is_number T.F__law_is_number.kp T.b__law_is_number .nil pass0 (pa_cons (pe_ix ix_tup (pv 3) pe_int (fun _ _ => rfl)) pa_nil)))) (pw_or1 (pt_not (pt_val (pe_call (ok__law_good_thing T) (hr.mono (by decide)) rfl T.g__law_good_thing T.F__law_good_thing.kp T.b__law_good_thing .nil pass0 (pa_cons (pe_ix ix_tup (pv 3) pe_int (fun _ _ => rfl)) (pa_cons (pv 2) pa_nil))))))))) (pss_one (ps_ret pe_bl)) pss_nil)))
    (pss_one (ps_ret pe_bl)))), ?_⟩
    have dP : Dp K H (.ref P) (.list (ps.map pcD)) := .lst hP hx
    refine ⟨_, rfl, _, _, _, rfl, okT_list, dP, _, rfl, ?_⟩
    refine ifF (by rw [isI_list_list] <;> rfl) ?_
    refine ⟨_, rfl, _, rfl, _, _, dP, .lst hQ hy, pcs_sh _, pcs_sh _, _, rfl, ?_⟩
    refine ifF (by rw [eqv_self (pcs_sh _)] <;> rfl) ?_
    refine ⟨_, rfl, P, rfl, ⟨_, hP⟩, for_list (K := K) (a := P) (xs := xs) (fun i σ' H' => ∃ o, σ' = [some (.ref P), some (.ref Q0), some (.int (s : Int)), o] ∧ Same H H') ⟨_, rfl, .refl _⟩ (fun i σ' H' _ ⟨_, _, e⟩ => e.seq hP) ?_ ?_⟩
    · rintro i x σ' H' hi ⟨o, rfl, e⟩
      obtain ⟨p, hp, hpx⟩ := dpa_mapV (dpa_same e hx) hi
      obtain ⟨q, u, rfl, hq, hu⟩ := pc_inv hpx
      obtain ⟨g1, g2⟩ := hg p (List.mem_of_getElem? hp)
      refine ⟨_, rfl, q, _, _, _, rfl, rfl, hq, rfl, _, _, rfl, .int _, _, rfl, ?_⟩
      refine ifF (by rw [isW_int] <;> rfl) ?_
      refine ⟨_, rfl, q, _, _, _, rfl, rfl, hq, rfl, _, _, rfl, .int _, _, rfl, ?_⟩
      refine ifF (by rw [isW_int] <;> rfl) ?_
      refine ⟨_, rfl, q, _, _, _, rfl, rfl, hq, rfl, _, rfl, u, p.2.2, s, rfl, hu, g1, g2, fun H2 e2 => ⟨_, rfl, ?_⟩⟩
      exact ifF rfl ⟨_, rfl, e.trans e2⟩
    · rintro σ' H' ⟨o, rfl, e⟩
      exact k H' e
/-! ### Field____contains__ -/
def sp_Field____contains__ (K : PySem.W.Frag) (A' : Ad) : Sp := fun vs H Q E => ∃ (F : Addr) (v : V) (n : Tg) (ps : List Pt) (d : PyData), vs = [.ref F, v] ∧ Fd K A'.c_Field H F n ps ∧ Fm.Asc 0 ps ∧ Srt n.s ps ∧ Dp K H v d ∧ shOk d ∧
  (∀ x : Int, d = .int x → isKey d = true → Q (.bl (!decide (Fm.vl n ps x = n))) H) ∧
  (isKey d = false → ∀ dx H', Same H H' → H' dx = some (.xd [("key", v)]) → E (.ref A'.c_BadKey) (some dx) H')
theorem vl_srt2 {n : Tg} {s : Nat} {ps : List Pt} (hn : n.s = s) (h : Srt s ps) (x : Int) : (Fm.vl n ps x).s = s := by
  rcases Fm.vl_cases (n := n) (P := ps) (x := x) with e | ⟨p, hp, e⟩
  · rw [e, hn]
  · rw [e, h p hp]
theorem ok_Field____contains__ (T : Txt P K mg A') : FnOk P w K mg base (L2.CX P w) 6 A'.f_Field____contains__ A'.fd_Field____contains__ ["self", "key"] (sp_Field____contains__ K A') := by
  refine Mw.okMX T.F_Field____contains__ sc_Field____contains__ (fun vs H Q E h => ?_) (fun cdv A outer s H vs Q E hr h => ?_)
  · obtain ⟨F, v, n, ps, d, rfl, _⟩ := h
    rfl
  · obtain ⟨F, v, n, ps, d, rfl, hF, hA, hS, hd, hs, k1, k2⟩ := h
    refine ⟨_, (pss_one (ps_ret (pe_cmpR (op_neD hr.units) (pe_meth (pv 0) T.cl_Field T.me_Field__at (ok_Field__at T) (hr.mono (by decide)) T.b_Field__at .nil (Kc.passT (takes_of rfl rfl rfl rfl)) (pa_cons (pv 1) pa_nil)) (pe_fld (pv 0) rfl) (nomark _)))), ?_⟩
    obtain ⟨dx, nv, L, vs, h⟩ := id hF
    refine ⟨_, rfl, F, dx, _, rfl, h.at_, rfl, _, rfl, F, v, n, ps, d, rfl, hF, hA, hd, hs, fun x e hk u hu => ?_, k2⟩
    refine ⟨_, rfl, F, _, dx, _, _, rfl, h.at_, T.cl_Field, T.na_Field__neutral, lk_neu (x := nv) (y := .ref L), _, _, hu, h.neu, tg_sh _, tg_sh _, ?_⟩
    rw [tg_eqv (vl_srt2 rfl hS x)]
    exact k1 x e hk
/-! ### _law_thing -/
def sp__law_thing (K : PySem.W.Frag) : Sp := fun vs H Q _ => ∃ (S c G : Addr) (gs : List Int) (k8 : Km.Kd8) (s : Nat), vs = [.ref S, .str (nm k8), .ref G, .int (s : Int)] ∧ Stm S c H ∧ Lets S c G gs H ∧ s < 4 ∧ ∀ (v : V) (t : Tg) H', Ext S H H' → Stm S c H' → t.s = s → t.small → Dp K (hid S H') v t.d → Q v H'
theorem ok__law_thing (T : Txt P K mg A') : FnOk P w K mg base CX0 6 A'.f__law_thing A'.fd__law_thing ["_law_stream_here", "_law_kind_here", "_law_letters_here", "_law_sort"] (sp__law_thing K) := by
  refine Hk.okN T.F__law_thing sc__law_thing (fun vs H Q E h => ?_) (fun cdv A outer s H vs Q E hr h => ?_)
  · obtain ⟨S, c, G, gs, k8, s, rfl, _⟩ := h
    rfl
  · obtain ⟨S, c, G, gs, k8, s, rfl, hS, hG, hs, k⟩ := h
    refine ⟨_, (pss_cons (ps_if (pt_cmpR op_eq (pv 3) pe_int (nomark _)) (pss_one (ps_ret (pe_call (ok__law_plain T) (hr.mono (by decide)) rfl T.g__law_plain T.F__law_plain.kp T.b__law_plain .nil pass0 (pa_cons (pv 1) (pa_cons (pe_call (ok__law_raw T) (hr.mono (by decide)) rfl T.g__law_raw T.F__law_raw.kp T.b__law_raw .nil pass0 (pa_cons (pv 0) (pa_cons (pv 2) pa_nil))) pa_nil))))) pss_nil)
    (pss_cons (ps_if (pt_cmpR op_eq (pv 3) pe_int (nomark _)) (pss_one (ps_ret (pe_call (ok__law_effect T) (hr.mono (by decide)) rfl T.g__law_effect T.F__law_effect.kp T.b__law_effect .nil pass0 (pa_cons (pv 0) (pa_cons (pv 1) (pa_cons (pv 2) pa_nil)))))) pss_nil)
    (pss_cons (ps_if (pt_cmpR op_eq (pv 3) pe_int (nomark _)) (pss_one (ps_ret (pe_cmpR op_gt (pe_call (ok__law_pick T) (hr.mono (by decide)) rfl T.g__law_pick T.F__law_pick.kp T.b__law_pick .nil pass0 (pa_cons (pv 0) (pa_cons pe_int pa_nil))) pe_int (nomark _)))) pss_nil)
    (pss_one (ps_ret (pe_ix ix_list (pv 2) (pe_call (ok__law_pick T) (hr.mono (by decide)) rfl T.g__law_pick T.F__law_pick.kp T.b__law_pick .nil pass0 (pa_cons (pv 0) (pa_cons (pe_callB call_len_seq (by rfl) T.z_len (by decide +kernel) (pa_cons (pv 2) pa_nil)) pa_nil))) (fun _ _ => rfl))))))), ?_⟩
    match s, hs with
    | 0, _ =>
      refine ⟨_, rfl, rfl, _, rfl, ?_⟩
      refine ifT rfl ?_
      refine ⟨_, rfl, _, rfl, _, rfl, S, c, G, gs, rfl, hS, hG, fun v2 bs H2 e2 hS2 hv2 l2 i2 => ?_⟩
      obtain ⟨t2, rfl, ht2⟩ := w_inv hv2
      refine ⟨k8, t2, bs, rfl, ht2, by omega, fun w3 H3 s3 hw3 => ?_⟩
      have hS3 := stm_same hS2 s3
      exact k w3 (.w (Km.pl k8 bs)) H3 (e2.trans (.of s3)) hS3 rfl (Nat.le_trans (Km.pl_len k8 bs) (by omega)) (w_hid hS3 hw3)
    | 1, _ =>
      refine ⟨_, rfl, rfl, _, rfl, ?_⟩
      refine ifF rfl ?_
      refine ⟨_, rfl, rfl, _, rfl, ?_⟩
      refine ifT rfl ?_
      exact ⟨_, rfl, _, rfl, _, rfl, S, c, G, gs, k8, rfl, hS, hG, fun v f ns H1 e1 hS1 hv l1 => k v (.e f ns) H1 e1 hS1 rfl l1 hv⟩
    | 2, _ =>
      refine ⟨_, rfl, rfl, _, rfl, ?_⟩
      refine ifF rfl ?_
      refine ⟨_, rfl, rfl, _, rfl, ?_⟩
      refine ifF rfl ?_
      refine ⟨_, rfl, rfl, _, rfl, ?_⟩
      refine ifT rfl ?_
      exact ⟨_, rfl, S, c, 10, rfl, hS, by decide, fun r H1 a1 b1 _ hS1 e1 => ⟨_, _, rfl, rfl, k _ (.b (decide ((3 : Int) < r))) H1 e1 hS1 rfl trivial (.bl _)⟩⟩
    | 3, _ =>
      refine ⟨_, rfl, rfl, _, rfl, ?_⟩
      refine ifF rfl ?_
      refine ⟨_, rfl, rfl, _, rfl, ?_⟩
      refine ifF rfl ?_
      refine ⟨_, rfl, rfl, _, rfl, ?_⟩
      refine ifF rfl ?_
      refine ⟨_, rfl, _, rfl, _, rfl, G, _, rfl, .inl hG.at_.sq, S, c, _, rfl, hS, (by rw [List.length_map]; have := hG.one; omega), fun r H1 a1 b1 _ hS1 e1 => ?_⟩
      rw [List.length_map] at b1
      obtain ⟨j, rfl⟩ := Int.eq_ofNat_of_zero_le a1
      have hj : j < gs.length := by omega
      refine ⟨G, _, _, .int gs[j], rfl, rfl, (hG.ext e1).at_.sq, atI_nat (map_get hj), ?_⟩
      exact k _ (.i gs[j]) H1 e1 hS1 rfl trivial (.int gs[j])
    | n + 4, h => exact absurd h (by omega)
/-! ### _law_things -/
def sp__law_things (K : PySem.W.Frag) : Sp := fun vs H Q _ => ∃ (S c G : Addr) (gs : List Int) (k8 : Km.Kd8) (s : Nat) (nv : V) (n : Tg) (m : Nat), vs = [.ref S, .str (nm k8), .ref G, .int (s : Int), nv, .int (m : Int)] ∧ Stm S c H ∧ Lets S c G gs H ∧ s < 4 ∧ Dp K (hid S H) nv n.d ∧ n.s = s ∧ n.small ∧ m ≤ 100 ∧
  ∀ (R : Addr) (r : List Tg) (vs : List V) H', H R = none → Ext S H H' → Stm S c H' → RowS K S H' R r vs → r.length = m → GoodR s r → Q (.ref R) H'
theorem ok__law_things (T : Txt P K mg A') : FnOk P w K mg base CX0 7 A'.f__law_things A'.fd__law_things ["_law_stream_here", "_law_kind_here", "_law_letters_here", "_law_sort", "_law_none_here", "_law_many"] (sp__law_things K) := by
  refine Hk.okN T.F__law_things sc__law_things (fun vs H Q E h => ?_) (fun cdv A outer s H vs Q E hr h => ?_)
  · obtain ⟨S, c, G, gs, k8, s, nv, n, m, rfl, _⟩ := h
    rfl
  · obtain ⟨S, c, G, gs, k8, s, nv, n, m, rfl, hS, hG, hs, hn, ns, nz, hm, k⟩ := h
    refine ⟨_, (pss_cons (ps_set (i := 6) sc__law_things.nd rfl (Or.inl rfl) (pe_lst pa_nil))
    (pss_cons (ps_for PassesOwn.never rfl (pi_range1 (by rfl) T.z_range (pa_cons (pv 5) pa_nil)) (pg_name (i := 7) sc__law_things.nd rfl (Or.inl rfl)) (pss_cons (ps_set (i := 8) sc__law_things.nd rfl (Or.inl rfl) (pe_call (ok__law_pick T) (hr.mono (by decide)) rfl T.g__law_pick T.F__law_pick.kp T.b__law_pick .nil pass0 (pa_cons (pv 0) (pa_cons pe_int pa_nil))))
    (pss_cons (ps_set (i := 9) sc__law_things.nd rfl (Or.inl rfl) (pv 4))
    (Evl.pss_cut (ps_if (PW.pt (pw_and (pt_chain op_lt op_lt pe_int (pv 8) pe_int) (pw_and1 (pt_cmpR op_gt (pv 7) pe_int (nomark _))))) (pss_one (ps_set (i := 9) sc__law_things.nd rfl (Or.inl rfl) (pe_ix ix_list (pv 6) (pe_op op_sub (pv 7) pe_int) (fun _ _ => rfl)))) (pss_one (ps_if (pt_cmpR op_gt (pv 8) pe_int (nomark _)) (pss_one (ps_set (i := 9) sc__law_things.nd rfl (Or.inl rfl) (pe_call (ok__law_thing T) (hr.mono (by decide)) rfl T.g__law_thing T.F__law_thing.kp T.b__law_thing .nil pass0 (pa_cons (pv 0) (pa_cons (pv 1) (pa_cons (pv 2) (pa_cons (pv 3) pa_nil))))))) pss_nil)))
    (pss_one (ps_expr (pe_bm PySem.F.plainAttrs_list PySem.F.slot_list_append PySem.F.type_list_append mt_append (pv 6) (pa_cons (pv 9) pa_nil))))))))
    (pss_one (ps_ret (pv 6))))), ?_⟩
    refine ⟨Nat.zero_le _, fun R nR => ?_⟩
    have nRS := ext_ne hS nR
    have nRc := ext_nc hS nR
    refine ⟨_, rfl, _, rfl, by omega, by omega, for_range (lo := 0) (n := m) (fun i σ' H' => ∃ (o1 o2 o3 : Option V) (r : List Tg) (vs : List V), σ' = [some (.ref S), some (.str (nm k8)), some (.ref G), some (.int (s : Int)), some nv, some (.int (m : Int)), some (.ref R), o1, o2, o3] ∧ Ext S H H' ∧ Stm S c H' ∧ RowS K S H' R r vs ∧ r.length = i ∧ GoodR s r) ⟨_, _, _, [], [], rfl, .new nR, stm_new hS nR, .nil hS nR, rfl, fun t ht => by cases ht⟩ ?_ ?_⟩
    · rintro i σ' H' hi ⟨o1, o2, o3, r, vs, rfl, e, hS', hR, hl, hg⟩
      have hG' := hG.ext e
      refine ⟨_, rfl, S, c, 10, rfl, hS', by decide, fun w H1 w0 w1 _ hS1 e1 => ?_⟩
      have e01 := e.trans e1
      have hR1 := hR.ext e1
      have hn1 := tg_ext hn e01
      refine ⟨_, rfl, ?_⟩
      have fin : ∀ (v : V) (t : Tg) (H3 : Hp), Ext S H1 H3 → Stm S c H3 → t.s = s → t.small → Dp K (hid S H3) v t.d → Ext S H (upd H3 R (.lst (vs ++ [v]))) ∧ Stm S c (upd H3 R (.lst (vs ++ [v]))) ∧ RowS K S (upd H3 R (.lst (vs ++ [v]))) R (r ++ [t]) (vs ++ [v]) ∧ (r ++ [t]).length = i + 1 ∧ GoodR s (r ++ [t]) := fun v t H3 e3 hS3 t1 t2 hv =>
        ⟨ext_mut (e01.trans e3) nR, stm_put hS3 nRS nRc, (hR1.ext e3).snoc hv, by rw [List.length_append, hl] <;> rfl, good_snoc hg ⟨t1, t2⟩⟩
      refine ⟨fun σ' H3 => ∃ (v : V) (t : Tg), σ' = [some (.ref S), some (.str (nm k8)), some (.ref G), some (.int (s : Int)), some nv, some (.int (m : Int)), some (.ref R), some (.int (0 + (i : Int))), some (.int w), some v] ∧ Ext S H1 H3 ∧ Stm S c H3 ∧ t.s = s ∧ t.small ∧ Dp K (hid S H3) v t.d, ?_, ?_⟩
      · refine ⟨_, rfl, _, _, rfl, rfl, _, rfl, ?_⟩
        refine if2 (fun c1 => ?_) (fun c1 => ?_)
        · refine ⟨_, _, rfl, rfl, _, rfl, ?_⟩
          refine if2 (fun c2 => ?_) (fun c2 => ?_)
          · refine ⟨_, rfl, _, _, rfl, rfl, _, rfl, ?_⟩
            refine if2 (fun c3 => ?_) (fun c3 => ?_)
            · have c3' : 0 < 0 + (i : Int) := of_decide_eq_true c3
              obtain ⟨j, rfl⟩ : ∃ j, i = j + 1 := ⟨i - 1, by omega⟩
              have hj : r[j]? = some (r[j]'(by omega)) := List.getElem?_eq_getElem (by omega)
              obtain ⟨v, hv, hvd⟩ := hR1.get hj
              obtain ⟨g1, g2⟩ := hg _ (List.getElem_mem (l := r) (n := j) (by omega))
              refine ⟨_, rfl, _, rfl, _, _, rfl, rfl, R, _, _, v, rfl, rfl, hR1.sq, at_of (j := j) (by omega) hv, ?_⟩
              exact ⟨v, _, rfl, .refl _ _, hS1, g1, g2, hvd⟩
            · refine ⟨_, rfl, _, _, rfl, rfl, _, rfl, ?_⟩
              refine if2 (fun c4 => ?_) (fun c4 => ?_)
              · refine ⟨_, rfl, _, rfl, _, rfl, _, rfl, S, c, G, gs, k8, s, rfl, hS1, hG'.ext e1, hs, fun v t H3 e3 hS3 t1 t2 hv => ?_⟩
                exact ⟨v, t, rfl, e3, hS3, t1, t2, hv⟩
              · exact ⟨nv, n, rfl, .refl _ _, hS1, ns, nz, hn1⟩
          · refine ⟨_, rfl, _, _, rfl, rfl, _, rfl, ?_⟩
            refine if2 (fun c4 => ?_) (fun c4 => ?_)
            · refine ⟨_, rfl, _, rfl, _, rfl, _, rfl, S, c, G, gs, k8, s, rfl, hS1, hG'.ext e1, hs, fun v t H3 e3 hS3 t1 t2 hv => ?_⟩
              exact ⟨v, t, rfl, e3, hS3, t1, t2, hv⟩
            · exact ⟨nv, n, rfl, .refl _ _, hS1, ns, nz, hn1⟩
        · refine ⟨_, rfl, ifF rfl (ifF rfl ?_)⟩
          refine ⟨_, rfl, _, _, rfl, rfl, _, rfl, ?_⟩
          refine if2 (fun c4 => ?_) (fun c4 => ?_)
          · refine ⟨_, rfl, _, rfl, _, rfl, _, rfl, S, c, G, gs, k8, s, rfl, hS1, hG'.ext e1, hs, fun v t H3 e3 hS3 t1 t2 hv => ?_⟩
            exact ⟨v, t, rfl, e3, hS3, t1, t2, hv⟩
          · exact ⟨nv, n, rfl, .refl _ _, hS1, ns, nz, hn1⟩
      · rintro σ' H3 ⟨v, t, rfl, e3, hS3, t1, t2, hv⟩
        refine ⟨_, rfl, .inl ⟨rfl, _, SqL.of (e3 _ _ nRS hR1.at_)⟩, _, rfl, R, _, _, rfl, rfl, e3 _ _ nRS hR1.at_, ?_, _, _, _, _, _, rfl, fin v t H3 e3 hS3 t1 t2 hv⟩
        rw [hR1.len]
        exact small1000 (by omega)
    · rintro σ' H' ⟨o1, o2, o3, r, vs, rfl, e, hS', hR, hl, hg⟩
      exact ⟨_, rfl, k R r vs H' nR e hS' hR hl hg⟩
/-! ### _law_field_told -/
def sp__law_field_told (K : PySem.W.Frag) (A' : Ad) : Sp := fun vs H Q _ => ∃ (F D G R : Addr) (ds : List Int) (r : List Tg) (us ys : List V) (nv : V) (n : Tg) (s : Nat) (ps : List Pt), vs = [.ref F, .ref D, .int (s : Int), nv, .ref G, .ref R] ∧ Fd K A'.c_Field H F n ps ∧ SqL K H D ys ∧ DpAll K H ys (ps.map pcD) ∧ Dp K H nv n.d ∧ SqL K H G (ds.map V.int) ∧ SqL K H R us ∧ DpAll K H us (r.map Tg.d) ∧ ds.length = r.length + 1 ∧ r.length ≤ 99 ∧ ds.Pairwise (· < ·) ∧ Fm.Asc 0 ps ∧ ps.length ≤ 900 ∧ n.s = s ∧ n.small ∧ (∀ p ∈ ps, p.2.2.s = s ∧ p.2.2.small) ∧ (∀ t ∈ r, t.s = s ∧ t.small) ∧ (∀ x, Fm.vl n ps x = Fm.rw_ n ds r x) ∧
  ∀ H', Same H H' → Q (.bl true) H'
theorem ok__law_field_told (T : Txt P K mg A') : FnOk P w K mg base CX0 7 A'.f__law_field_told A'.fd__law_field_told ["_law_field_here", "_law_due", "_law_sort", "_law_none_here", "_law_grid_here", "_law_row"] (sp__law_field_told K A') := by
  refine Hk.okN T.F__law_field_told sc__law_field_told (fun vs H Q E h => ?_) (fun cdv A outer s H vs Q E hr h => ?_)
  · obtain ⟨F, D, G, R, ds, r, us, ys, nv, n, s, ps, rfl, _⟩ := h
    rfl
  · obtain ⟨F, D, G, R, ds, r, us, ys, nv, n, s, ps, rfl, hF, hD, hy, hn, hG, hR, hu, hl, hm, hp, hA, hz, hns, hnz, hps, hrs, hv, k⟩ := h
    refine ⟨_, (pss_cons (ps_if (PW.pt (pw_or (pt_not (pt_val (pe_call (ok__law_told_pieces T) (hr.mono (by decide)) rfl T.g__law_told_pieces T.F__law_told_pieces.kp T.b__law_told_pieces .nil pass0 (pa_cons (pe_meth0 (pv 0) T.cl_Field T.me_Field__pieces (ok_Field__pieces T) (hr.mono (by decide)) T.b_Field__pieces .nil pass0) (pa_cons (pv 1) (pa_cons (pv 2) pa_nil)))))) (pw_or1 (pt_not (pt_val (pe_call (ok__law_told_pieces T) (hr.mono (by decide)) rfl T.g__law_told_pieces T.F__law_told_pieces.kp T.b__law_told_pieces .nil pass0 (pa_cons (pe_callTy (Mn.call_listIt rfl (hr.mono (by decide)) T.me_Field____iter__ T.me_Field____len__ (ok_Field____iter__ T) T.b_Field____iter__ pass0 (ok_Field____len__ T) T.b_Field____len__ pass0) (by rfl) T.z_list (by decide +kernel) (pa_cons (pv 0) pa_nil)) (pa_cons (pv 1) (pa_cons (pv 2) pa_nil))))))))) (pss_one (ps_ret pe_bl)) pss_nil)
    (pss_cons (ps_if (PW.pt (pw_or (pt_not (pt_val (pe_call (ok__law_good_thing T) (hr.mono (by decide)) rfl T.g__law_good_thing T.F__law_good_thing.kp T.b__law_good_thing .nil pass0 (pa_cons (pe_prop (pv 0) T.cl_Field T.pr_Field__neutral (ok_Field__neutral T) (hr.mono (by decide)) T.b_Field__neutral .nil pass0 rfl) (pa_cons (pv 2) pa_nil))))) (pw_or1 (pt_cmpR (op_neD hr.units) (pe_prop (pv 0) T.cl_Field T.pr_Field__neutral (ok_Field__neutral T) (hr.mono (by decide)) T.b_Field__neutral .nil pass0 rfl) (pv 3) (nomark _))))) (pss_one (ps_ret pe_bl)) pss_nil)
    (pss_cons (ps_set (i := 6) sc__law_field_told.nd rfl (Or.inl rfl) (pe_callB (cr_sum rfl) (by rfl) T.z_sum (by decide +kernel) (pa_cons (pe_lc (own := [("_law_piece", 7)]) (g := gName 7) (tt := tYes) (by rfl) sc__law_field_told.nd (pi_list (pv 1)) (blkOk_by (own := [("_law_piece", 7)]) (N := ["_law_field_here", "_law_due", "_law_sort", "_law_none_here", "_law_grid_here", "_law_row", "_law_size", "_law_piece", "_law_full", "_law_key", "_law_thing_here", "_law_told", "_law_flag"]) (sc := defScope s__law_field_told) (by decide +kernel)) (fun _ _ _ _ _ => (pg_name (i := 7) sc__law_field_told.nd rfl (Or.inl rfl))) (fun _ _ _ _ _ => pts_nil) (fun _ _ _ _ _ => (pe_op op_sub (pe_ix (ixTK (K := K) rfl) (pv 7) pe_int (fun _ _ => rfl)) (pe_ix (ixTK (K := K) rfl) (pv 7) pe_int (fun _ _ => rfl))))) pa_nil)))
    (pss_cons (ps_set (i := 8) sc__law_field_told.nd rfl (Or.inl rfl) pe_bl)
    (pss_cons (ps_if (pt_truthR (pv 0) (Mn.tru_lenO T.me_Field____len__ T.nb_Field (ok_Field____len__ T) (hr.mono (by decide)) T.b_Field____len__ pass0) (by intro _; rfl)) (pss_one (ps_set (i := 8) sc__law_field_told.nd rfl (Or.inl rfl) pe_bl)) pss_nil)
    (pss_cons (ps_if (PW.pt (pw_or (pt_not (pt_val (pe_call (ok__law_is_number T) (hr.mono (by decide)) rfl T.g__law_is_number T.F__law_is_number.kp T.b__law_is_number .nil pass0 (pa_cons (pe_prop (pv 0) T.cl_Field T.pr_Field__size (ok_Field__size T) (hr.mono (by decide)) T.b_Field__size .nil pass0 rfl) pa_nil)))) (pw_or (pt_cmpR op_ne (pe_prop (pv 0) T.cl_Field T.pr_Field__size (ok_Field__size T) (hr.mono (by decide)) T.b_Field__size .nil pass0 rfl) (pv 6) (nomark _)) (pw_or (pt_cmpR op_ne (pe_callB (Mn.call_lenO T.me_Field____len__ (ok_Field____len__ T) (hr.mono (by decide)) T.b_Field____len__ pass0) (by rfl) T.z_len (by decide +kernel) (pa_cons (pv 0) pa_nil)) (pe_callB call_len_seq (by rfl) T.z_len (by decide +kernel) (pa_cons (pv 1) pa_nil)) (nomark _)) (pw_or1 (pt_cmpR op_ne (pv 8) (pe_cmpR op_gt (pe_callB call_len_seq (by rfl) T.z_len (by decide +kernel) (pa_cons (pv 1) pa_nil)) pe_int (nomark _)) (nomark _))))))) (pss_one (ps_ret pe_bl)) pss_nil)
    (pss_cons (ps_for PassesOwn.never rfl (pi_list (pe_call (ok__law_look_keys T) (hr.mono (by decide)) rfl T.g__law_look_keys T.F__law_look_keys.kp T.b__law_look_keys .nil pass0 (pa_cons (pv 4) pa_nil))) (pg_name (i := 9) sc__law_field_told.nd rfl (Or.inl rfl)) (pss_cons (ps_set (i := 10) sc__law_field_told.nd rfl (Or.inl rfl) (pe_call (ok__law_thing_at T) (hr.mono (by decide)) rfl T.g__law_thing_at T.F__law_thing_at.kp T.b__law_thing_at .nil pass0 (pa_cons (pv 4) (pa_cons (pv 5) (pa_cons (pv 3) (pa_cons (pv 9) pa_nil))))))
    (pss_cons (ps_set (i := 11) sc__law_field_told.nd rfl (Or.inl rfl) (pe_meth (pv 0) T.cl_Field T.me_Field__at (ok_Field__at T) (hr.mono (by decide)) T.b_Field__at .nil passL (pa_cons (pv 9) pa_nil)))
    (pss_cons (ps_set (i := 12) sc__law_field_told.nd rfl (Or.inl rfl) (pe_cmpR (Mn.op_inO T.me_Field____contains__ (ok_Field____contains__ T) (hr.mono (by decide)) T.b_Field____contains__ (fun σ => Mn.at_of passL σ)) (pv 9) (pv 0) (by rfl)))
    (pss_cons (ps_if (PW.pt (pw_or (pt_not (pt_val (pe_call (ok__law_good_thing T) (hr.mono (by decide)) rfl T.g__law_good_thing T.F__law_good_thing.kp T.b__law_good_thing .nil pass0 (pa_cons (pv 11) (pa_cons (pv 2) pa_nil))))) (pw_or1 (pt_cmpR (op_neD hr.units) (pv 11) (pv 10) (nomark _))))) (pss_one (ps_ret pe_bl)) pss_nil)
    (pss_one (ps_if (PW.pt (pw_or (pt_not (pt_val (pe_callB call_isD (by rfl) T.z_isinstance (by decide +kernel) (pa_cons (pv 12) (pa_cons (pe_bltn (v := .ty "bool") (by rfl) T.z_bool (by decide +kernel) rfl) pa_nil))))) (pw_or1 (pt_cmpR op_ne (pv 12) (pe_cmpR (op_neD hr.units) (pv 10) (pv 3) (nomark _)) (nomark _))))) (pss_one (ps_ret pe_bl)) pss_nil)))))))
    (pss_one (ps_ret pe_bl))))))))), ?_⟩
    obtain ⟨dx, fv, L, vs, h⟩ := id hF
    have lv := dpa_lenM h.dat
    have ly := dpa_lenM hy
    have sc : ∀ x, (Fm.vl n ps x).s = s ∧ (Fm.vl n ps x).small := fun x => by
      rcases Fm.vl_cases (n := n) (P := ps) (x := x) with e | ⟨p, hp, e⟩
      · rw [e]; exact ⟨hns, hnz⟩
      · rw [e]; exact hps p hp
    refine ⟨_, rfl, F, dx, _, rfl, h.at_, rfl, F, n, ps, rfl, hF, fun q1 w1 H1 n1 s1 hq1 hw1 => ⟨_, rfl, _, rfl, q1, D, w1, ys, ps, s, rfl, SqL.of hq1, s1.seq hD, hw1, dpa_same s1 hy, hps, fun H2 s2 => ⟨_, rfl, ?_⟩⟩⟩
    have s12 := s1.trans s2
    have h2 := h.same s12
    refine ifF rfl ?_
    refine ⟨_, rfl, F, dx, _, rfl, h2.at_, fun q nq => ?_⟩
    have sq := same_new (o := .lst []) nq
    have h3 := h2.same sq
    have nLq : L ≠ q := ne_of_none h2.lst nq
    have nFq : F ≠ q := ne_of_none h2.at_ nq
    refine ⟨F, n, ps, dx, fv, L, vs, rfl, h3, fun it nit => ?_⟩
    have nqi : q ≠ it := ne_of_none upd_same nit
    have si := same_new (o := ItO L it 0) nit
    have h4 := h3.same si
    refine ⟨it, L, vs, rfl, upd_same, SqL.of h4.lst, by rw [upd_ne nqi]; exact upd_same, nLq, nqi.symm, ne_of_none h3.lst nit, by show vs.length ≤ sizeLine; rw [lv]; exact Nat.le_trans hz (by decide), h4.at_, ⟨F, n, ps, rfl, ⟨_, _, _, _, h4⟩, rfl, _, rfl, by omega, by omega⟩, fun H5 hq5 hs5 => ?_⟩
    have s25 : Same H2 H5 := fun b o e => by
      have nb : b ≠ q := fun z => by rw [z, nq] at e; cases e
      have e3 := sq _ _ e
      have nb2 : b ≠ it := fun z => by rw [z, nit] at e3; cases e3
      exact hs5 b o nb nb2 (si _ _ e3)
    have s15 := s12.trans s25
    have h5 := h.same s15
    refine ⟨_, rfl, _, rfl, q, D, vs, ys, ps, s, rfl, SqL.of hq5, s15.seq hD, h5.dat, dpa_same s15 hy, hps, fun H6 s6 => ⟨_, rfl, ?_⟩⟩
    have s16 := s15.trans s6
    refine ifF rfl ?_
    have h6 := h.same s16
    refine ⟨_, rfl, F, dx, _, rfl, h6.at_, F, n, ps, rfl, ⟨_, _, _, _, h6⟩, fun u6 d6 => ⟨_, rfl, u6, n, s, rfl, d6, hns, hnz, fun H7 s7 => ⟨_, rfl, ?_⟩⟩⟩
    have s17 := s16.trans s7
    have h7 := h.same s17
    refine ifF rfl ?_
    refine ⟨_, rfl, F, dx, _, rfl, h7.at_, F, n, ps, rfl, ⟨_, _, _, _, h7⟩, fun u7 d7 => ⟨_, rfl, _, _, d7, dp_same s17 hn, tg_sh _, tg_sh _, _, rfl, ?_⟩⟩
    refine ifF (by rw [eqv_self (tg_sh _)] <;> rfl) ?_
    refine ⟨_, rfl, D, rfl, ⟨_, s17.seq hD⟩, fun Z nZ => ?_⟩
    have nZ0 : H Z = none := by
      cases q : H Z with
      | none => rfl
      | some o => rw [s17 _ _ q] at nZ; cases nZ
    refine lc_list (K := K) (a := D) (xs := ys) (fun i H' => Same H H' ∧ H' Z = some (.lst ((wid (ps.take i)).map V.int))) ⟨s17.trans (same_new nZ), upd_same⟩ (fun i H' _ hp => hp.1.seq hD) ?_ ?_
    · rintro i x H' hi ⟨e, hZ⟩
      obtain ⟨p, hp, hx⟩ := dpa_mapV (dpa_same e hy) hi
      obtain ⟨q, u, rfl, hq, hu⟩ := pc_inv hx
      refine ⟨rfl, _, rfl, q, _, _, _, rfl, rfl, hq, rfl, _, rfl, q, _, _, _, rfl, rfl, hq, rfl, _, _, rfl, rfl, _, hZ, ?_, same_mut e nZ0, ?_⟩
      · unfold wid
        rw [List.length_map, List.length_map, List.length_take]
        exact small1000 (by omega)
      · rw [upd_same, take_map hp]
        unfold wid
        rw [List.map_append, List.map_append]
        rfl
    rintro H8 ⟨s8, hZ⟩
    rw [ly, List.take_length] at hZ
    refine ⟨Z, _, rfl, SqL.of hZ, ?_⟩
    have h8 := h.same s8
    refine ⟨_, rfl, F, dx, _, rfl, h8.at_, F, n, ps, rfl, ⟨_, _, _, _, h8⟩, _, rfl, by omega, Int.lt_of_le_of_lt (Int.ofNat_le.mpr hz) (by decide), ?_⟩
    have enz : ((ps.length : Int) != 0) = decide (0 < ps.length) := by rw [Bool.eq_iff_iff]; simp [List.length_pos_iff]
    have lt63 : (ps.length : Int) < 2 ^ 63 := Int.lt_of_le_of_lt (Int.ofNat_le.mpr hz) (by decide)
    rw [enz]
    have full : (!decide (V.bl (decide (0 < ps.length)) = V.bl (decide ((0 : Int) < (ys.length : Int))))) = false := by
      rw [ly]
      simp
    by_cases h0 : 0 < ps.length
    all_goals first
      | (rw [decide_eq_true h0] at full ⊢; refine ifT rfl ?_)
      | (rw [decide_eq_false h0] at full ⊢; refine ifF rfl ?_)
    all_goals
      refine ⟨_, rfl, F, dx, _, rfl, h8.at_, F, n, ps, rfl, ⟨_, _, _, _, h8⟩, hz, fun H9 s9 => ⟨_, .int _, rfl, .int _, _, rfl, ?_⟩⟩
      have s19 := s8.trans s9
      have h9 := h.same s19
      refine ifF (by rw [isW_int] <;> rfl) ?_
      refine ⟨_, rfl, F, dx, _, rfl, h9.at_, F, n, ps, rfl, ⟨_, _, _, _, h9⟩, hz, fun H10 s10 => ⟨_, rfl, rfl, _, rfl, ?_⟩⟩
      have s110 := s19.trans s10
      have h10 := h.same s110
      refine ifF (by simp) ?_
      refine ⟨_, rfl, F, dx, _, rfl, h10.at_, ⟨F, n, ps, rfl, ⟨_, _, _, _, h10⟩, _, rfl, by omega, lt63, _, rfl, D, ys, rfl, .inl (s110.seq hD), rfl, _, rfl, ?_⟩⟩
      refine ifF (by rw [ly]; simp) ?_
      refine ⟨_, rfl, _, rfl, D, ys, rfl, .inl (s110.seq hD), _, _, rfl, rfl, rfl, _, rfl, ?_⟩
      refine ifF full ?_
      refine ⟨_, rfl, G, ds, rfl, s110.seq hG, by omega, fun p ks H11 np s11 hk hkr hkz => ⟨p, rfl, ⟨_, SqL.of hk⟩, for_list (K := K) (a := p) (xs := ks.map V.int) (fun i σ' H' => ∃ o7 o8 o9 oa ob oc, σ' = [some (.ref F), some (.ref D), some (.int (s : Int)), some nv, some (.ref G), some (.ref R), some (.int (wid ps).sum), o7, some (.bl o8), o9, oa, ob, oc] ∧ Same H11 H') ⟨_, _, _, _, _, _, rfl, .refl _⟩ (fun i σ' H' _ ⟨_, _, _, _, _, _, _, e⟩ => SqL.of (e _ _ hk)) ?_ ?_⟩⟩
      · rintro i x σ' H' hi ⟨o7, o8, o9, oa, ob, oc, rfl, e⟩
        obtain ⟨m, hm2, rfl⟩ := map_some hi
        have hkm := hkr m (List.mem_of_getElem? hm2)
        have key : isKey (.int m) = true := by
          show (decide (0 ≤ m) && decide (m < 1000000)) = true
          simp; omega
        have e1 := (s110.trans s11).trans e
        have g1 := h.same e1
        refine ⟨_, rfl, _, rfl, _, rfl, _, rfl, G, R, ds, r, us, nv, n, m, rfl, e1.seq hG, e1.seq hR, dpa_same e1 hu, dp_same e1 hn, hl, by omega, hp, fun u1 d1 => ?_⟩
        refine ⟨_, rfl, F, dx, _, rfl, g1.at_, rfl, _, rfl, F, _, n, ps, .int m, rfl, ⟨_, _, _, _, g1⟩, hA, .int m, shOk_i9 m, fun x' e' hk' u2 d2 => ?_, fun hk' => absurd (key.symm.trans hk') (by simp)⟩
        cases e'
        refine ⟨_, rfl, _, rfl, F, dx, _, rfl, g1.at_, F, _, n, ps, .int m, rfl, ⟨_, _, _, _, g1⟩, hA, fun p hp => (hps p hp).1.trans hns.symm, .int m, shOk_i9 m, fun x' e' hk' => ⟨_, rfl, ?_⟩, fun hk' => absurd (key.symm.trans hk') (by simp)⟩
        cases e'
        refine ⟨_, rfl, _, rfl, u2, _, s, rfl, d2, (sc m).1, (sc m).2, fun H3 e3 => ⟨_, rfl, ?_⟩⟩
        refine ifF rfl ?_
        refine ⟨_, rfl, _, rfl, _, _, dp_same e3 d2, dp_same e3 d1, tg_sh _, tg_sh _, _, rfl, ?_⟩
        refine ifF (by rw [hv m, eqv_self (tg_sh _)] <;> rfl) ?_
        refine ⟨_, rfl, _, _, _, rfl, okT_bool, .bl _, _, rfl, ?_⟩
        refine ifF (by rw [isI_bool_bool] <;> rfl) ?_
        refine ⟨_, rfl, _, rfl, _, rfl, _, _, dp_same e3 d1, dp_same (e1.trans e3) hn, tg_sh _, tg_sh _, rfl, _, rfl, ?_⟩
        refine ifF (by rw [← hv m, tg_eqv ((sc m).1.trans hns.symm)]; simp) ?_
        exact ⟨_, _, _, _, _, _, rfl, e.trans e3⟩
      · rintro σ' H' ⟨o7, o8, o9, oa, ob, oc, rfl, e⟩
        exact k H' ((s110.trans s11).trans e)
/-! ### _law_no_field -/
theorem kit5 {K : PySem.W.Frag} {t a b c d e : Value} (h1 : PySem.W.kitOne K t a = some false) (h2 : PySem.W.kitOne K t b = some false) (h3 : PySem.W.kitOne K t c = some false) (h4 : PySem.W.kitOne K t d = some false) (h5 : PySem.W.kitOne K t e = some false) : PySem.W.kitAny K t [a, b, c, d, e] = some false :=
  kitAny_cons h1 (fun _ => kitAny_cons h2 (fun _ => kit3 h3 h4 h5) (fun z => Bool.noConfusion z)) (fun z => Bool.noConfusion z)
def sp__law_no_field (K : PySem.W.Frag) : Sp := fun vs H Q _ => ∃ (nv : V) (P : Addr) (n : Tg) (xs : List V) (ds : List PyData) (i : Nat), vs = [nv, .ref P, .int (i : Int)] ∧ Dp K H nv n.d ∧ SqL K H P xs ∧ DpAll K H xs ds ∧ badPc 0 ds 0 = some i ∧ ∀ H', Same H H' → Q (.bl true) H'
theorem ok__law_no_field (T : Txt P K mg A') : FnOk P w K mg base CX0 7 A'.f__law_no_field A'.fd__law_no_field ["_law_none_here", "_law_pieces", "_law_place"] (sp__law_no_field K) := by
  refine Hk.okN T.F__law_no_field sc__law_no_field (fun vs H Q E h => ?_) (fun cdv A outer s H vs Q E hr h => ?_)
  · obtain ⟨nv, P, n, xs, ds, i, rfl, _⟩ := h
    rfl
  · obtain ⟨nv, P, n, xs, ds, i, rfl, hn, hP, hx, hb, k⟩ := h
    refine ⟨_, (pss_cons (ps_set (i := 3) sc__law_no_field.nd rfl (Or.inl rfl) pe_non)
    (pss_cons (ps_try_as (i := 4) (Wout := fun _ _ _ _ => False) rfl rfl sc__law_no_field.nd rfl rfl ⟨rfl, by decide, Or.inl T.m_BadField⟩ takes0
    (fun W pn xe tk _ => (pss_one (ps_expr (Mn.pe_makeS T.mi_Field (ok_Field____init__ T) (hr.mono (by decide)) rfl T.m_Field T.b_Field____init__ .nil (fun σ => passAt tk σ) (pa_cons (pv 0) (pa_cons (pv 1) pa_nil))))))
    (fun a oe cls d pn hz hf => (pss_cons (ps_set (i := 5) sc__law_no_field.nd rfl (Or.inl rfl) (pe_callB (Lk.call_isXT T.x_BadField hz hf) (by rfl) T.z_isinstance (by decide +kernel) (pa_cons (pv 4) (pa_cons (pe_tup (pa_cons (pe_glob (v := .ref A'.c_BadBatch) rfl T.m_BadBatch rfl) (pa_cons (pe_glob (v := .ref A'.c_BadEffect) rfl T.m_BadEffect rfl) (pa_cons (pe_glob (v := .ref A'.c_BadKey) rfl T.m_BadKey rfl) (pa_cons (pe_glob (v := .ref A'.c_BadStretch) rfl T.m_BadStretch rfl) (pa_cons (pe_glob (v := .ref A'.c_BadWord) rfl T.m_BadWord rfl) pa_nil)))))) pa_nil))))
    (pss_one (ps_set (i := 3) sc__law_no_field.nd rfl (Or.inl rfl) (pe_lst (pa_cons (pe_xf T.y_BadField T.s_BadField.nf hz hf (pv 4)) (pa_cons (pe_callB (Lk.call_isX T.x_BadField hz hf) (by rfl) T.z_isinstance (by decide +kernel) (pa_cons (pv 4) (pa_cons (pe_glob (v := .ref A'.c_StoreError) rfl T.m_StoreError rfl) pa_nil))) (pa_cons (pv 5) pa_nil)))))))))
    (pss_one (ps_ret (pe_and (pe_cmpR (op_eqD hr.units) (pv 3) (pe_lst (pa_cons (pv 2) (pa_cons pe_bl (pa_cons pe_bl pa_nil)))) (nomark _)) (pe_one (pe_call (ok__law_is_number T) (hr.mono (by decide)) rfl T.g__law_is_number T.F__law_is_number.kp T.b__law_is_number .nil pass0 (pa_cons (pe_ix ix_list (pv 3) pe_int (fun _ _ => rfl)) pa_nil)))))))), ?_⟩
    refine ⟨_, rfl, _, rfl, fun x dx nx nd ne => ?_⟩
    have s0 : Same H (upd (upd H dx (.own x)) x (.ins A'.c_Field dx [])) := same_mut (same_new nd) nx
    refine ⟨x, dx, P, nv, xs, ds, n, rfl, upd_same, dp_same s0 hn, .inl (s0.seq hP), dpa_same s0 hx, (fun z => by rw [hb] at z; cases z), fun j hj dx2 H1 e1 hx1 => ?_⟩
    rw [hb] at hj
    cases hj
    have e1 := s0.trans e1
    refine ⟨true, T.e_BadField, fun _ a _ => ?_, fun q => Bool.noConfusion q⟩
    refine ⟨_, rfl, (by show 5 ≤ sizeLine; decide), fun tp ntp => ?_⟩
    refine ⟨tp, _, _, _, dx2, _, rfl, upd_same, .cons (.own _) (.cons (.own _) (.cons (.own _) (.cons (.own _) (.cons (.own _) .nil)))), rfl, rfl, (by rw [upd_ne (ne_of_none hx1 ntp)]; exact hx1), kit5 T.k_BadField_BadBatch T.k_BadField_BadEffect T.k_BadField_BadKey T.k_BadField_BadStretch T.k_BadField_BadWord, ?_⟩
    have e2 := e1.trans (same_new (o := .tup [.ref A'.c_BadBatch, .ref A'.c_BadEffect, .ref A'.c_BadKey, .ref A'.c_BadStretch, .ref A'.c_BadWord]) ntp)
    have hx2 : upd H1 tp (.tup [.ref A'.c_BadBatch, .ref A'.c_BadEffect, .ref A'.c_BadKey, .ref A'.c_BadStretch, .ref A'.c_BadWord]) dx2 = some (.xd [("place", .int i)]) := by rw [upd_ne (ne_of_none hx1 ntp)]; exact hx1
    refine ⟨_, rfl, rfl, rfl, dx2, _, .int i, rfl, hx2, lk1, _, rfl, _, _, _, dx2, _, rfl, .own _, rfl, rfl, hx2, T.k_BadField_StoreError, _, rfl, (by show 3 ≤ sizeLine; decide), fun l nl => ?_⟩
    have e3 := e2.trans (same_new (o := .lst [.int i, .bl true, .bl false]) nl)
    refine ⟨_, rfl, _, rfl, (by show 3 ≤ sizeLine; decide), fun l2 nl2 => ?_⟩
    have e4 := e3.trans (same_new (o := .lst [.int i, .bl true, .bl false]) nl2)
    have hl : ∀ {H'}, SqL K (upd (upd (upd H1 tp (.tup [.ref A'.c_BadBatch, .ref A'.c_BadEffect, .ref A'.c_BadKey, .ref A'.c_BadStretch, .ref A'.c_BadWord])) l (.lst [.int i, .bl true, .bl false])) l2 H') l [.int i, .bl true, .bl false] := fun {_} => SqL.of (by rw [upd_ne (ne_of_none upd_same nl2)]; exact upd_same)
    have sh : SeqAt.shaped (.list [.int i, .bool true, .bool false]) = true := rfl
    refine ⟨_, _, .lst hl (.cons (.int i) (.cons (.bl true) (.cons (.bl false) .nil))), .lst (SqL.of upd_same) (.cons (.int i) (.cons (.bl true) (.cons (.bl false) .nil))), sh, sh, _, rfl, ?_⟩
    rw [eqv_self sh, if_pos rfl]
    refine ⟨_, rfl, l, _, _, .int i, rfl, rfl, hl, rfl, .int i, .int i, rfl, .int i, ?_⟩
    rw [isW_int]
    exact k _ e4
/-! ### _law_no_key_of -/
def sp__law_no_key_of (K : PySem.W.Frag) (A' : Ad) : Sp := fun vs H Q _ => ∃ (F : Addr) (v : V) (n : Tg) (ps : List Pt) (d : PyData) (way : Int), vs = [.ref F, v, .int way] ∧ Fd K A'.c_Field H F n ps ∧ Fm.Asc 0 ps ∧ Srt n.s ps ∧ Dp K H v d ∧ SeqAt.shaped (.list [d, .bool true, .bool false]) = true ∧ shOk d ∧ isKey d = false ∧ ∀ H', Same H H' → Q (.bl true) H'
theorem ok__law_no_key_of (T : Txt P K mg A') : FnOk P w K mg base CX0 7 A'.f__law_no_key_of A'.fd__law_no_key_of ["_law_field_here", "_law_key", "_law_way"] (sp__law_no_key_of K A') := by
  refine Hk.okN T.F__law_no_key_of sc__law_no_key_of (fun vs H Q E h => ?_) (fun cdv A outer s H vs Q E hr h => ?_)
  · obtain ⟨F, v, n, ps, d, way, rfl, _⟩ := h
    rfl
  · obtain ⟨F, v, n, ps, d, way, rfl, hF, hA, hS, hd, hsh, hs, hk, k⟩ := h
    refine ⟨_, (pss_cons (ps_set (i := 3) sc__law_no_key_of.nd rfl (Or.inl rfl) pe_non)
    (pss_cons (ps_try_as (i := 4) (Wout := fun _ _ _ _ => False) rfl rfl sc__law_no_key_of.nd rfl rfl ⟨rfl, by decide, Or.inl T.m_BadKey⟩ takes0
    (fun W pn xe tk _ => (pss_one (ps_if (pt_cmpR op_eq (pv 2) pe_int (nomark _)) (pss_one (ps_expr (Mn.pe_methS (pv 0) T.cl_Field T.me_Field__at (ok_Field__at T) (hr.mono (by decide)) T.b_Field__at .nil (fun σ => passAt tk σ) (pa_cons (pv 1) pa_nil)))) (pss_one (ps_set (i := 3) sc__law_no_key_of.nd rfl (Or.inl rfl) (Mn.pe_inS T.me_Field____contains__ (ok_Field____contains__ T) (hr.mono (by decide)) T.b_Field____contains__ (fun σ => passAt tk σ) (pv 1) (pv 0) (by rfl)))))))
    (fun a oe cls d pn hz hf => (pss_one (ps_set (i := 3) sc__law_no_key_of.nd rfl (Or.inl rfl) (pe_lst (pa_cons (pe_xf T.y_BadKey T.s_BadKey.nf hz hf (pv 4)) (pa_cons (pe_callB (Lk.call_isX T.x_BadKey hz hf) (by rfl) T.z_isinstance (by decide +kernel) (pa_cons (pv 4) (pa_cons (pe_glob (v := .ref A'.c_StoreError) rfl T.m_StoreError rfl) pa_nil))) (pa_cons (pe_callB (Lk.call_isXT T.x_BadKey hz hf) (by rfl) T.z_isinstance (by decide +kernel) (pa_cons (pv 4) (pa_cons (pe_tup (pa_cons (pe_glob (v := .ref A'.c_BadBatch) rfl T.m_BadBatch rfl) (pa_cons (pe_glob (v := .ref A'.c_BadField) rfl T.m_BadField rfl) (pa_cons (pe_glob (v := .ref A'.c_BadStretch) rfl T.m_BadStretch rfl) pa_nil)))) pa_nil))) pa_nil))))))))
    (pss_one (ps_ret (pe_cmpR (op_eqD hr.units) (pv 3) (pe_lst (pa_cons (pv 1) (pa_cons pe_bl (pa_cons pe_bl pa_nil)))) (nomark _)))))), ?_⟩
    obtain ⟨dx0, nv, L, vs, h⟩ := id hF
    refine ⟨_, rfl, rfl, _, rfl, ?_⟩
    refine if2 (fun c => ?_) (fun c => ?_)
    · refine ⟨_, rfl, F, dx0, _, rfl, h.at_, rfl, _, rfl, F, v, n, ps, d, rfl, hF, hA, hd, hs, (fun x e z => by rw [hk] at z; cases z), fun _ dx H1 e1 hx => ?_⟩
      refine ⟨true, T.e_BadKey, fun _ a _ => ?_, fun q => Bool.noConfusion q⟩
      refine ⟨_, rfl, rfl, rfl, dx, _, v, rfl, hx, lk1, _, rfl, _, _, _, dx, _, rfl, .own _, rfl, rfl, hx, T.k_BadKey_StoreError, ?_⟩
      refine ⟨_, rfl, (by show 3 ≤ sizeLine; decide), fun tp ntp => ?_⟩
      refine ⟨tp, _, _, _, dx, _, rfl, upd_same, .cons (.own _) (.cons (.own _) (.cons (.own _) .nil)), rfl, rfl, (by rw [upd_ne (ne_of_none hx ntp)]; exact hx), kit3 T.k_BadKey_BadBatch T.k_BadKey_BadField T.k_BadKey_BadStretch, ?_⟩
      refine ⟨(by show 3 ≤ sizeLine; decide), fun l nl => ?_⟩
      have e2 := (e1.trans (same_new ntp)).trans (same_new (o := .lst [v, .bl true, .bl false]) nl)
      refine ⟨_, rfl, _, rfl, (by show 3 ≤ sizeLine; decide), fun l2 nl2 => ?_⟩
      have e3 := e2.trans (same_new (o := .lst [v, .bl true, .bl false]) nl2)
      have hd3 := dp_same e3 hd
      have all3 := DpAll.cons hd3 (.cons (.bl true) (.cons (.bl false) .nil))
      refine ⟨_, _, .lst (SqL.of (by rw [upd_ne (ne_of_none upd_same nl2)]; exact upd_same)) all3, .lst (SqL.of upd_same) all3, hsh, hsh, ?_⟩
      exact q_eqv hsh (k _ e3)
    · refine ⟨_, rfl, _, rfl, F, dx0, _, rfl, h.at_, F, v, n, ps, d, rfl, hF, hA, hS, hd, hs, (fun x e z => by rw [hk] at z; cases z), fun _ dx H1 e1 hx => ?_⟩
      refine ⟨true, T.e_BadKey, fun _ a _ => ?_, fun q => Bool.noConfusion q⟩
      refine ⟨_, rfl, rfl, rfl, dx, _, v, rfl, hx, lk1, _, rfl, _, _, _, dx, _, rfl, .own _, rfl, rfl, hx, T.k_BadKey_StoreError, ?_⟩
      refine ⟨_, rfl, (by show 3 ≤ sizeLine; decide), fun tp ntp => ?_⟩
      refine ⟨tp, _, _, _, dx, _, rfl, upd_same, .cons (.own _) (.cons (.own _) (.cons (.own _) .nil)), rfl, rfl, (by rw [upd_ne (ne_of_none hx ntp)]; exact hx), kit3 T.k_BadKey_BadBatch T.k_BadKey_BadField T.k_BadKey_BadStretch, ?_⟩
      refine ⟨(by show 3 ≤ sizeLine; decide), fun l nl => ?_⟩
      have e2 := (e1.trans (same_new ntp)).trans (same_new (o := .lst [v, .bl true, .bl false]) nl)
      refine ⟨_, rfl, _, rfl, (by show 3 ≤ sizeLine; decide), fun l2 nl2 => ?_⟩
      have e3 := e2.trans (same_new (o := .lst [v, .bl true, .bl false]) nl2)
      have hd3 := dp_same e3 hd
      have all3 := DpAll.cons hd3 (.cons (.bl true) (.cons (.bl false) .nil))
      refine ⟨_, _, .lst (SqL.of (by rw [upd_ne (ne_of_none upd_same nl2)]; exact upd_same)) all3, .lst (SqL.of upd_same) all3, hsh, hsh, ?_⟩
      exact q_eqv hsh (k _ e3)
end
end Kx

set_option Elab.async false
set_option linter.all false
set_option maxRecDepth 100000
set_option maxHeartbeats 4000000
namespace Kx
open PySem PySem.Spec PyProof.Rows L2 Lk
section
variable {P : Program} {w : World} {K : PySem.W.Frag} {mg : Str → Option Value} {base : Heap} {A' : Ad}
/-! ### law -/
def sp_law (K : PySem.W.Frag) : Sp := fun vs H Q _ => ∃ (a : Addr) (ns : List Int), vs = [.ref a] ∧ SqL K H a (ns.map V.int) ∧ ns.length ≤ 63 ∧ ∀ H', Q (.bl true) H'
/-- a value that is no key -/
def NoK (K : PySem.W.Frag) (H : Hp) (v : V) : Prop := ∃ d, Dp K H v d ∧ SeqAt.shaped (.list [d, .bool true, .bool false]) = true ∧ shOk d ∧ isKey d = false
theorem NoK.same {K : PySem.W.Frag} {H H' : Hp} {v : V} (e : Same H H') (h : NoK K H v) : NoK K H' v := by
  obtain ⟨d, h1, h2⟩ := h
  exact ⟨d, dp_same e h1, h2⟩
theorem nok_int {K : PySem.W.Frag} {H : Hp} {i : Int} (h : isKey (.int i) = false) : NoK K H (.int i) := ⟨.int i, .int i, rfl, shOk_i9 i, h⟩
theorem shOk_of {d : PyData} (h : ∀ x, d ≠ .str x) : shOk d := ⟨fun x e => absurd e (h x), fun x e => absurd e (h x)⟩
/-- a value that is no piece -/
def NoP (K : PySem.W.Frag) (H : Hp) (v : V) : Prop := ∃ d, Dp K H v d ∧ ∀ e, okPc e d = none
theorem NoP.same {K : PySem.W.Frag} {H H' : Hp} {v : V} (e : Same H H') (h : NoP K H v) : NoP K H' v := by
  obtain ⟨d, h1, h2⟩ := h
  exact ⟨d, dp_same e h1, h2⟩
theorem alloc_t {K : PySem.W.Frag} {S c t : Addr} {H : Hp} {xs : List V} {ds : List PyData} (hS : Stm S c H) (n : H t = none) (hd : DpAll K (hid S H) xs ds) (hb : ∀ e, okPc e (.tuple ds) = none) : ∃ H2, upd H t (.tup xs) = H2 ∧ Same H H2 ∧ Stm S c H2 ∧ NoP K (hid S H2) (.ref t) :=
  ⟨_, rfl, same_new n, stm_new hS n, _, new_tupS hS n hd, hb⟩
theorem alloc_l {K : PySem.W.Frag} {S c t : Addr} {H : Hp} {xs : List V} {ds : List PyData} (hS : Stm S c H) (n : H t = none) (hd : DpAll K (hid S H) xs ds) : ∃ H2, upd H t (.lst xs) = H2 ∧ Same H H2 ∧ Stm S c H2 ∧ NoP K (hid S H2) (.ref t) :=
  ⟨_, rfl, same_new n, stm_new hS n, _, new_lstS hS n hd, fun e => rfl⟩
theorem alloc_o {S c t : Addr} {H : Hp} {xs : List V} (hS : Stm S c H) (n : H t = none) : ∃ H2, upd H t (.tup xs) = H2 ∧ Same H H2 ∧ Stm S c H2 ∧ H2 t = some (.tup xs) :=
  ⟨_, rfl, same_new n, stm_new hS n, upd_same⟩
theorem alloc_d {K : PySem.W.Frag} {S c t : Addr} {H : Hp} {xs : List V} {ds : List PyData} (hS : Stm S c H) (n : H t = none) (hd : DpAll K (hid S H) xs ds) : ∃ H2, upd H t (.tup xs) = H2 ∧ Same H H2 ∧ Stm S c H2 ∧ Dp K (hid S H2) (.ref t) (.tuple ds) ∧ H2 t = some (.tup xs) :=
  ⟨_, rfl, same_new n, stm_new hS n, new_tupS hS n hd, upd_same⟩
theorem alloc_dl {K : PySem.W.Frag} {S c t : Addr} {H : Hp} {xs : List V} {ds : List PyData} (hS : Stm S c H) (n : H t = none) (hd : DpAll K (hid S H) xs ds) : ∃ H2, upd H t (.lst xs) = H2 ∧ Same H H2 ∧ Stm S c H2 ∧ Dp K (hid S H2) (.ref t) (.list ds) ∧ H2 t = some (.lst xs) :=
  ⟨_, rfl, same_new n, stm_new hS n, new_lstS hS n hd, upd_same⟩
theorem cutV_take {xs : List V} {n : Nat} (h : n ≤ xs.length) : cutV xs none (some (n : Int)) = xs.take n := by
  unfold cutV
  rw [HT.sIx_nat, HT.sIx_none, List.drop_zero, Nat.sub_zero, Nat.min_eq_left h]
theorem cutV_drop {xs : List V} {n : Nat} (h : n ≤ xs.length) : cutV xs (some (n : Int)) none = xs.drop n := by
  unfold cutV
  rw [HT.sIx_nat, HT.sIx_none, Nat.min_eq_left h]
  exact List.take_of_length_le (by rw [List.length_drop]; omega)
theorem dpa_tk {K : PySem.W.Frag} {H : Hp} : ∀ {vs : List V} {ds : List PyData} {k : Nat}, DpAll K H vs ds → DpAll K H (vs.take k) (ds.take k)
  | _, _, 0, _ => .nil
  | _, _, _ + 1, .nil => .nil
  | _, _, _ + 1, .cons h r => .cons h (dpa_tk r)
theorem dpa_dr {K : PySem.W.Frag} {H : Hp} : ∀ {vs : List V} {ds : List PyData} {k : Nat}, DpAll K H vs ds → DpAll K H (vs.drop k) (ds.drop k)
  | _, _, 0, h => h
  | _, _, _ + 1, .nil => .nil
  | _, _, k + 1, .cons _ r => dpa_dr (k := k) r
theorem dpa_apd {K : PySem.W.Frag} {H : Hp} : ∀ {vs ws : List V} {ds es : List PyData}, DpAll K H vs ds → DpAll K H ws es → DpAll K H (vs ++ ws) (ds ++ es)
  | _, _, _, _, .nil, h => h
  | _, _, _, _, .cons a b, h => .cons a (dpa_apd b h)
theorem fdw_mut {K : PySem.W.Frag} {C : Addr} {H : Hp} {F : Addr} {n : Tg} {ps : List Pt} {dx : Addr} {nv : V} {L l : Addr} {vs xs zs : List V} (h : FdW K C H F n ps dx nv L vs) (hl : H l = some (.lst xs)) (ne : L ≠ l) : FdW K C (upd H l (.lst zs)) F n ps dx nv L vs :=
  ⟨by rw [upd_ne (fun z => by have y := h.at_; rw [z, hl] at y; cases y)]; exact h.at_, tg_mut hl h.neu, by rw [upd_ne ne]; exact h.lst, pcs_mut hl h.dat⟩
theorem alloc_n {t : Addr} {H : Hp} (o : HO) (n : H t = none) : ∃ H2, upd H t o = H2 ∧ Same H H2 ∧ H2 t = some o := ⟨_, rfl, same_new n, upd_same⟩
theorem asc_tk {ps : List Pt} : ∀ {lo : Int} {k : Nat}, Fm.Asc lo ps → Fm.Asc lo (ps.take k) := by
  induction ps with
  | nil => intro lo k h; rw [List.take_nil]; exact h
  | cons p r ih =>
    intro lo k h
    cases k with
    | zero => exact trivial
    | succ k => exact ⟨h.1, h.2.1, ih h.2.2⟩
theorem badPc_mid : ∀ {ps : List Pt} {e : Int} {i : Nat} {d : PyData} {rest : List PyData}, 0 ≤ e → Fm.Asc e ps → (∀ p ∈ ps, p.2.1 ≤ 1000000) → okPc (Fm.fin e ps) d = none → badPc e (ps.map pcD ++ d :: rest) i = some (i + ps.length)
  | [], e, i, d, rest, _, _, _, hd => by
    show (match okPc e d with | some b => badPc b rest (i + 1) | none => some i) = some (i + 0)
    have hd : okPc e d = none := hd
    rw [hd] <;> rfl
  | p :: r, e, i, d, rest, h0, h, hm, hd => by
    obtain ⟨h1, h2, h3⟩ := h
    have := hm p (by simp)
    show (match okPc e (pcD p) with | some b => badPc b (r.map pcD ++ d :: rest) (i + 1) | none => some i) = _
    have z : okPc e (pcD p) = some p.2.1 := by
      show (if decide (0 ≤ p.1) && (decide (p.1 < p.2.1) && decide (p.2.1 ≤ 1000000)) && decide (e ≤ p.1) then some p.2.1 else none) = _
      rw [if_pos (by simp; omega)]
    rw [z]
    show badPc p.2.1 (r.map pcD ++ d :: rest) (i + 1) = _
    rw [badPc_mid (by omega) h3 (fun q hq => hm q (List.mem_cons_of_mem _ hq)) hd]
    congr 1
    rw [List.length_cons]
    omega
theorem okPc_back {p : Pt} (h1 : p.1 < p.2.1) : okPc p.2.1 (pcD p) = none := by
  show (if decide (0 ≤ p.1) && (decide (p.1 < p.2.1) && decide (p.2.1 ≤ 1000000)) && decide (p.2.1 ≤ p.1) then some p.2.1 else none) = _
  rw [if_neg (by simp; omega)]
theorem atI_mem {xs : List V} {n : Nat} (h : n < xs.length) : ∃ v, atI xs (n : Int) = some v ∧ v ∈ xs := ⟨_, atI_nat (List.getElem?_eq_getElem h), List.getElem_mem h⟩
theorem ok_law (T : Txt P K mg A') : FnOk P w K mg base CX0 8 A'.f_law A'.fd_law ["_law_script"] (sp_law K) := by
  refine Hk.okN T.F_law sc_law (fun vs H Q E h => ?_) (fun cdv A outer s H vs Q E hr h => ?_)
  · obtain ⟨a, ns, rfl, _⟩ := h
    rfl
  · obtain ⟨a, ns, rfl, ha, hn, k⟩ := h
    obtain ⟨dfs, hbd, hvd⟩ := T.dd1_Field____init__
    refine ⟨_, (pss_cons (ps_set (i := 1) sc_law.nd rfl (Or.inl rfl) (pe_call (ok__law_stream T) (hr.mono (by decide)) rfl T.g__law_stream T.F__law_stream.kp T.b__law_stream .nil pass0 (pa_cons (pv 0) pa_nil)))
    (pss_cons (ps_set (i := 2) sc_law.nd rfl (Or.inl rfl) (pe_call (ok__law_kind T) (hr.mono (by decide)) rfl T.g__law_kind T.F__law_kind.kp T.b__law_kind .nil pass0 (pa_cons (pv 1) pa_nil)))
    (pss_cons (ps_set (i := 3) sc_law.nd rfl (Or.inl rfl) (pe_call (ok__law_letters T) (hr.mono (by decide)) rfl T.g__law_letters T.F__law_letters.kp T.b__law_letters .nil pass0 (pa_cons (pv 1) pa_nil)))
    (pss_cons (ps_set (i := 4) sc_law.nd rfl (Or.inl rfl) (pe_call (ok__law_grid T) (hr.mono (by decide)) rfl T.g__law_grid T.F__law_grid.kp T.b__law_grid .nil pass0 (pa_cons (pv 1) (pa_cons pe_int pa_nil))))
    (pss_cons (ps_set (i := 5) sc_law.nd rfl (Or.inl rfl) (pe_call (ok__law_pick T) (hr.mono (by decide)) rfl T.g__law_pick T.F__law_pick.kp T.b__law_pick .nil pass0 (pa_cons (pv 1) (pa_cons pe_int pa_nil))))
    (pss_cons (ps_set (i := 6) sc_law.nd rfl (Or.inl rfl) (pe_call (ok__law_none T) (hr.mono (by decide)) rfl T.g__law_none T.F__law_none.kp T.b__law_none .nil pass0 (pa_cons (pv 1) (pa_cons (pv 3) (pa_cons (pv 5) pa_nil)))))
    (pss_cons (ps_set (i := 7) sc_law.nd rfl (Or.inl rfl) (pe_call (ok__law_things T) (hr.mono (by decide)) rfl T.g__law_things T.F__law_things.kp T.b__law_things .nil pass0 (pa_cons (pv 1) (pa_cons (pv 2) (pa_cons (pv 3) (pa_cons (pv 5) (pa_cons (pv 6) (pa_cons (pe_op op_sub (pe_callB call_len_seq (by rfl) T.z_len (by decide +kernel) (pa_cons (pv 4) pa_nil)) pe_int) pa_nil))))))))
    (pss_cons (ps_set (i := 8) sc_law.nd rfl (Or.inl rfl) (pe_call (ok__law_loose_pieces T) (hr.mono (by decide)) rfl T.g__law_loose_pieces T.F__law_loose_pieces.kp T.b__law_loose_pieces .nil pass0 (pa_cons (pv 1) (pa_cons (pv 4) (pa_cons (pv 7) (pa_cons (pv 6) pa_nil))))))
    (pss_cons (ps_set (i := 9) sc_law.nd rfl (Or.inl rfl) (pe_call (ok__law_loose_pieces T) (hr.mono (by decide)) rfl T.g__law_loose_pieces T.F__law_loose_pieces.kp T.b__law_loose_pieces .nil pass0 (pa_cons (pv 1) (pa_cons (pv 4) (pa_cons (pv 7) (pa_cons (pv 6) pa_nil))))))
    (pss_cons (ps_set (i := 10) sc_law.nd rfl (Or.inl rfl) (pe_tup (pa_cons pe_non (pa_cons (pe_tup (pa_cons pe_int pa_nil)) (pa_cons (pe_lst (pa_cons pe_int (pa_cons pe_int (pa_cons (pv 6) pa_nil)))) (pa_cons (pe_tup (pa_cons pe_int (pa_cons pe_int (pa_cons (pv 6) pa_nil)))) (pa_cons (pe_tup (pa_cons pe_int (pa_cons pe_int (pa_cons (pv 6) pa_nil)))) (pa_cons (pe_tup (pa_cons (pe_un un_neg pe_int) (pa_cons pe_int (pa_cons (pv 6) pa_nil)))) (pa_cons (pe_tup (pa_cons pe_int (pa_cons pe_int (pa_cons (pv 6) pa_nil)))) (pa_cons (pe_tup (pa_cons pe_bl (pa_cons pe_int (pa_cons (pv 6) pa_nil)))) pa_nil))))))))))
    (pss_cons (ps_set (i := 11) sc_law.nd rfl (Or.inl rfl) (pe_ix ix_tup (pe_op op_catA (pv 10) (pe_tup (pa_cons (pe_tup (pa_cons pe_int (pa_cons pe_int pa_nil))) (pa_cons (pe_tup (pa_cons pe_int (pa_cons pe_int (pa_cons (pv 6) (pa_cons (pv 6) pa_nil))))) pa_nil)))) (pe_call (ok__law_pick T) (hr.mono (by decide)) rfl T.g__law_pick T.F__law_pick.kp T.b__law_pick .nil pass0 (pa_cons (pv 1) (pa_cons pe_int pa_nil))) (fun _ _ => rfl)))
    (pss_cons (ps_set (i := 12) sc_law.nd rfl (Or.inl rfl) (pe_call (ok__law_pick T) (hr.mono (by decide)) rfl T.g__law_pick T.F__law_pick.kp T.b__law_pick .nil pass0 (pa_cons (pv 1) (pa_cons (pe_op op_add (pe_callB call_len_seq (by rfl) T.z_len (by decide +kernel) (pa_cons (pv 8) pa_nil)) pe_int) pa_nil))))
    (Evl.pss_cut (ps_if (PW.pt (pw_and (pt_cmpR op_gt (pv 12) pe_int (nomark _)) (pw_and1 (pt_cmpR op_gt (pe_call (ok__law_pick T) (hr.mono (by decide)) rfl T.g__law_pick T.F__law_pick.kp T.b__law_pick .nil pass0 (pa_cons (pv 1) (pa_cons pe_int pa_nil))) pe_int (nomark _))))) (pss_one (ps_set (i := 11) sc_law.nd rfl (Or.inl rfl) (pe_ix ix_list (pv 8) (pe_op op_sub (pv 12) pe_int) (fun _ _ => rfl)))) pss_nil)
    (pss_cons (ps_set (i := 13) sc_law.nd rfl (Or.inl rfl) (pe_ix ix_tup (pe_tup (pa_cons (pe_un un_neg pe_int) (pa_cons pe_int (pa_cons pe_bl (pa_cons pe_bl (pa_cons pe_non (pa_cons pe_str (pa_cons (pe_tup (pa_cons pe_int pa_nil)) (pa_cons pe_int (pa_cons (pe_un un_neg pe_int) (pa_cons (pe_lst (pa_cons pe_int pa_nil)) pa_nil))))))))))) (pe_call (ok__law_pick T) (hr.mono (by decide)) rfl T.g__law_pick T.F__law_pick.kp T.b__law_pick .nil pass0 (pa_cons (pv 1) (pa_cons pe_int pa_nil))) (fun _ _ => rfl)))
    (pss_cons (ps_set (i := 14) sc_law.nd rfl (Or.inl rfl) (pe_callTy call_list_of (by rfl) T.z_list (by decide +kernel) (pa_cons (pv 8) pa_nil)))
    (pss_cons (ps_set (i := 15) sc_law.nd rfl (Or.inl rfl) (pe_make T.mi_Field (ok_Field____init__ T) (hr.mono (by decide)) rfl T.m_Field T.b_Field____init__ .nil passL (pa_cons (pv 6) (pa_cons (pv 14) pa_nil))))
    (pss_cons (ps_if (pt_cmpR (op_neD hr.units) (pv 14) (pv 8) (nomark _)) (pss_one (ps_ret pe_bl)) pss_nil)
    (pss_cons (ps_expr (pe_bm0 PySem.F.plainAttrs_list PySem.F.slot_list_clear PySem.F.type_list_clear mt_clear (pv 14)))
    (Evl.pss_cut (ps_if (pt_cmpR op_eq (pe_call (ok__law_pick T) (hr.mono (by decide)) rfl T.g__law_pick T.F__law_pick.kp T.b__law_pick .nil pass0 (pa_cons (pv 1) (pa_cons pe_int pa_nil))) pe_int (nomark _)) (pss_one (ps_set (i := 15) sc_law.nd rfl (Or.inl rfl) (pe_make T.mi_Field (ok_Field____init__ T) (hr.mono (by decide)) rfl T.m_Field T.b_Field____init__ .nil passL (pa_cons (pv 6) (pa_cons (pe_callTy call_tuple_of (by rfl) T.z_tuple (by decide +kernel) (pa_cons (pv 8) pa_nil)) pa_nil))))) pss_nil)
    (pss_cons (ps_set (i := 16) sc_law.nd rfl (Or.inl rfl) (pe_call (ok__law_field T) (hr.mono (by decide)) rfl T.g__law_field T.F__law_field.kp T.b__law_field .nil pass0 (pa_cons (pv 4) (pa_cons (pv 7) (pa_cons (pv 6) pa_nil)))))
    (pss_cons (ps_for PassesOwn.never rfl (pi_range1 (by rfl) T.z_range (pa_cons pe_int pa_nil)) (pg_name (i := 17) sc_law.nd rfl (Or.inl rfl)) (pss_cons (ps_if (pt_not (pt_val (pe_call (ok__law_field_told T) (hr.mono (by decide)) rfl T.g__law_field_told T.F__law_field_told.kp T.b__law_field_told .nil pass0 (pa_cons (pv 15) (pa_cons (pv 16) (pa_cons (pv 5) (pa_cons (pv 6) (pa_cons (pv 4) (pa_cons (pv 7) pa_nil))))))))) (pss_one (ps_ret pe_bl)) pss_nil)
    (pss_cons (ps_set (i := 18) sc_law.nd rfl (Or.inl rfl) (pe_meth0 (pv 15) T.cl_Field T.me_Field__pieces (ok_Field__pieces T) (hr.mono (by decide)) T.b_Field__pieces .nil pass0))
    (pss_one (ps_expr (pe_bm PySem.F.plainAttrs_list PySem.F.slot_list_append PySem.F.type_list_append mt_append (pv 18) (pa_cons (pe_tup (pa_cons pe_int (pa_cons pe_int (pa_cons (pv 6) pa_nil)))) pa_nil)))))))
    (pss_cons (ps_for PassesOwn.never rfl (pi_tup (pe_tup (pa_cons (pe_lst pa_nil) (pa_cons (pe_lst (pa_cons pe_non pa_nil)) pa_nil)))) (pg_name (i := 19) sc_law.nd rfl (Or.inl rfl)) (pss_one (ps_if (pt_not (pt_val (pe_call (ok__law_no_field T) (hr.mono (by decide)) rfl T.g__law_no_field T.F__law_no_field.kp T.b__law_no_field .nil pass0 (pa_cons (pv 6) (pa_cons (pe_op op_cat (pe_op op_cat (pe_op op_cat (pe_slice sl_list (pv 8) po_none (po_some (pv 12))) (pe_lst (pa_cons (pv 11) pa_nil))) (pe_slice sl_list (pv 8) (po_some (pv 12)) po_none)) (pv 19)) (pa_cons (pv 12) pa_nil)))))) (pss_one (ps_ret pe_bl)) pss_nil)))
    (pss_cons (ps_if (PW.pt (pw_or (pt_not (pt_val (pe_call (ok__law_no_key_of T) (hr.mono (by decide)) rfl T.g__law_no_key_of T.F__law_no_key_of.kp T.b__law_no_key_of .nil pass0 (pa_cons (pv 15) (pa_cons (pv 13) (pa_cons pe_int pa_nil)))))) (pw_or1 (pt_not (pt_val (pe_call (ok__law_no_key_of T) (hr.mono (by decide)) rfl T.g__law_no_key_of T.F__law_no_key_of.kp T.b__law_no_key_of .nil pass0 (pa_cons (pv 15) (pa_cons (pv 13) (pa_cons pe_int pa_nil))))))))) (pss_one (ps_ret pe_bl)) pss_nil)
    (pss_cons (ps_set (i := 20) sc_law.nd rfl (Or.inl rfl) (pe_cmpR (Mw.op_own T.me_Field____eq__ (ok_Field____eq__ T) (hr.mono (by decide)) T.b_Field____eq__ pass0) (pv 15) (pe_make T.mi_Field (ok_Field____init__ T) (hr.mono (by decide)) rfl T.m_Field T.b_Field____init__ .nil passL (pa_cons (pv 6) (pa_cons (pv 9) pa_nil))) (nomark _)))
    (pss_one (ps_ret (pe_cmpR op_isBl (pv 20) pe_bl (nomark _)))))))))))))))))))))))))))), ?_⟩
    refine ⟨_, rfl, a, ns, rfl, ha, hn, fun S c H1 nS s1 hS1 => ?_⟩
    refine ⟨_, rfl, S, c, rfl, hS1, fun k8 H2 e2 hS2 => ?_⟩
    refine ⟨_, rfl, S, c, rfl, hS2, fun G gs H3 nG e3 hS3 hG3 => ?_⟩
    refine ⟨_, rfl, S, c, 8, rfl, hS3, by decide, fun D ds H4 nD e4 hS4 hD4 ok => ?_⟩
    refine ⟨_, rfl, S, c, 4, rfl, hS4, by decide, fun sI H5 a5 b5 _ hS5 e5 => ?_⟩
    obtain ⟨s, rfl⟩ := Int.eq_ofNat_of_zero_le a5
    have hs4 : s < 4 := by omega
    have hG5 := (hG3.ext e4).ext e5
    have hD5 := hD4.ext e5
    refine ⟨_, rfl, _, rfl, _, rfl, S, c, G, gs, s, rfl, hS5, hG5, hs4, fun nv x0 H6 e6 hS6 hn6 => ?_⟩
    obtain ⟨ns_, nz⟩ := nonT_s (x := x0) hs4
    obtain ⟨n, en⟩ : ∃ n, n = nonT s x0 := ⟨_, rfl⟩
    rw [← en] at hn6 ns_ nz
    obtain ⟨m, hm⟩ : ∃ m, ds.length = m + 1 := ⟨ds.length - 1, by have := ok.two; omega⟩
    have hm10 : m ≤ 10 := by have := ok.most; omega
    have hD6 := hD5.ext e6
    refine ⟨_, rfl, _, rfl, _, rfl, _, rfl, _, rfl, _, rfl, D, _, rfl, .inl hD6.sq, _, _, rfl, rfl, S, c, G, gs, k8, s, nv, n, m, ?_, hS6, hG5.ext e6, hs4, hn6, ns_, nz, by omega, fun R r us H7 nR e7 hS7 hR7 lr gr => ?_⟩
    · show [V.ref S, .str (nm k8), .ref G, .int (s : Int), nv, .int (((ds.map V.int).length : Int) - 1)] = _
      rw [List.length_map, hm, show (((m + 1 : Nat) : Int) - 1) = (m : Int) by omega]
    have hn7 := tg_ext hn6 e7
    have hD7 := hD6.ext e7
    refine ⟨_, rfl, _, rfl, _, rfl, _, rfl, S, c, D, R, ds, r, us, nv, n, s, rfl, hS7, hD7, ok.asc, hR7, by omega, by omega, fun t ht => (gr t ht).1, hn7, ns_, fun P ps pv H8 nP e8 hS8 hP8 hL8 lp8 sp8 => ?_⟩
    have hn8 := tg_ext hn7 e8
    have hR8 := hR7.ext e8
    have hD8 := hD7.ext e8
    refine ⟨_, rfl, _, rfl, _, rfl, _, rfl, S, c, D, R, ds, r, us, nv, n, s, rfl, hS8, hD8, ok.asc, hR8, by omega, by omega, fun t ht => (gr t ht).1, hn8, ns_, fun P2 ps2 pv2 H9 nP2 e9 hS9 hP92 hL92 lp92 sp92 => ?_⟩
    have hn9 := tg_ext hn8 e9
    have hR9 := hR8.ext e9
    have hD9 := hD8.ext e9
    have hP9 := hP8.ext e9
    have dsr := ok.rng
    have ea : ∃ a0 g0, ds = a0 :: g0 := by
      cases ds with
      | nil => simp at hm
      | cons a0 g0 => exact ⟨a0, g0, rfl⟩
    obtain ⟨a0, g0, eds⟩ := ea
    have a00 : 0 ≤ a0 := (dsr a0 (by rw [eds]; simp)).1
    -- what a row of loose pieces makes
    have good : ∀ (ps : List Pt) (r : List Tg), Fm.Loose n ds r ps → Srt s ps → GoodR s r → badPc 0 (ps.map pcD) 0 = none ∧ Fm.Can n 0 none (Fm.form n ps) ∧ Fm.fin 0 (Fm.form n ps) ≤ 1000000 ∧ Srt s (Fm.form n ps) ∧ (∀ x, Fm.vl n (Fm.form n ps) x = Fm.rw_ n ds r x) := fun ps r hL sp g => by
      have asc : Fm.Asc 0 ps := (hL.asc eds).mono a00
      have mx := hL.max (fun x hx => (dsr x hx).2)
      obtain ⟨f1, f2⟩ := Fm.form_ok (n := n) asc
      exact ⟨badPc_pcs (n := 0) (Int.le_refl _) asc mx, f1.can, Int.le_trans f1.hi_ (Fm.fin_max (by decide) mx), form_srt sp, fun x => (f2 x).trans (hL.val x)⟩
    obtain ⟨bP, cP, fP, sP, vP⟩ := good ps r hL8 sp8 gr
    obtain ⟨bP2, cP2, fP2, sP2, vP2⟩ := good ps2 r hL92 sp92 gr
    -- what is no piece
    have hn := hn9
    have e10 : Ext S H9 H9 := .refl _ _
    have hS10 := hS9
    refine ⟨(by show 1 ≤ sizeLine; decide), fun t1 nt1 => ?_⟩
    obtain ⟨_, eq, z, hS10, bt1⟩ := alloc_t (K := K) hS10 nt1 (.cons (.int 3) .nil) (fun e => by simp [okPc])
    rw [eq]
    have hn := dp_same (hid_same z) hn
    have e10 := e10.trans (.of z)
    clear eq z nt1
    refine ⟨_, rfl, (by show 3 ≤ sizeLine; decide), fun t2 nt2 => ?_⟩
    obtain ⟨_, eq, z, hS10, bt2⟩ := alloc_l (K := K) hS10 nt2 (.cons (.int 0) (.cons (.int 1) (.cons hn .nil)))
    rw [eq]
    have bt1 := bt1.same (hid_same z)
    have hn := dp_same (hid_same z) hn
    have e10 := e10.trans (.of z)
    clear eq z nt2
    refine ⟨_, rfl, (by show 3 ≤ sizeLine; decide), fun t3 nt3 => ?_⟩
    obtain ⟨_, eq, z, hS10, bt3⟩ := alloc_t (K := K) hS10 nt3 (.cons (.int 5) (.cons (.int 5) (.cons hn .nil))) (fun e => by simp [okPc])
    rw [eq]
    have bt1 := bt1.same (hid_same z)
    have bt2 := bt2.same (hid_same z)
    have hn := dp_same (hid_same z) hn
    have e10 := e10.trans (.of z)
    clear eq z nt3
    refine ⟨_, rfl, (by show 3 ≤ sizeLine; decide), fun t4 nt4 => ?_⟩
    obtain ⟨_, eq, z, hS10, bt4⟩ := alloc_t (K := K) hS10 nt4 (.cons (.int 7) (.cons (.int 6) (.cons hn .nil))) (fun e => by simp [okPc])
    rw [eq]
    have bt1 := bt1.same (hid_same z)
    have bt2 := bt2.same (hid_same z)
    have bt3 := bt3.same (hid_same z)
    have hn := dp_same (hid_same z) hn
    have e10 := e10.trans (.of z)
    clear eq z nt4
    refine ⟨_, rfl, _, rfl, (by show 3 ≤ sizeLine; decide), fun t5 nt5 => ?_⟩
    obtain ⟨_, eq, z, hS10, bt5⟩ := alloc_t (K := K) hS10 nt5 (.cons (.int (-1)) (.cons (.int 2) (.cons hn .nil))) (fun e => by simp [okPc])
    rw [eq]
    have bt1 := bt1.same (hid_same z)
    have bt2 := bt2.same (hid_same z)
    have bt3 := bt3.same (hid_same z)
    have bt4 := bt4.same (hid_same z)
    have hn := dp_same (hid_same z) hn
    have e10 := e10.trans (.of z)
    clear eq z nt5
    refine ⟨_, rfl, (by show 3 ≤ sizeLine; decide), fun t6 nt6 => ?_⟩
    obtain ⟨_, eq, z, hS10, bt6⟩ := alloc_t (K := K) hS10 nt6 (.cons (.int 2) (.cons (.int 1000001) (.cons hn .nil))) (fun e => by simp [okPc])
    rw [eq]
    have bt1 := bt1.same (hid_same z)
    have bt2 := bt2.same (hid_same z)
    have bt3 := bt3.same (hid_same z)
    have bt4 := bt4.same (hid_same z)
    have bt5 := bt5.same (hid_same z)
    have hn := dp_same (hid_same z) hn
    have e10 := e10.trans (.of z)
    clear eq z nt6
    refine ⟨_, rfl, (by show 3 ≤ sizeLine; decide), fun t7 nt7 => ?_⟩
    obtain ⟨_, eq, z, hS10, bt7⟩ := alloc_t (K := K) hS10 nt7 (.cons (.bl true) (.cons (.int 3) (.cons hn .nil))) (fun e => by simp [okPc])
    rw [eq]
    have bt1 := bt1.same (hid_same z)
    have bt2 := bt2.same (hid_same z)
    have bt3 := bt3.same (hid_same z)
    have bt4 := bt4.same (hid_same z)
    have bt5 := bt5.same (hid_same z)
    have bt6 := bt6.same (hid_same z)
    have hn := dp_same (hid_same z) hn
    have e10 := e10.trans (.of z)
    clear eq z nt7
    refine ⟨(by show 8 ≤ sizeLine; decide), fun T1 nT1 => ?_⟩
    obtain ⟨_, eq, z, hS10, oT1⟩ := alloc_o (xs := [.non, .ref t1, .ref t2, .ref t3, .ref t4, .ref t5, .ref t6, .ref t7]) hS10 nT1
    rw [eq]
    have bt1 := bt1.same (hid_same z)
    have bt2 := bt2.same (hid_same z)
    have bt3 := bt3.same (hid_same z)
    have bt4 := bt4.same (hid_same z)
    have bt5 := bt5.same (hid_same z)
    have bt6 := bt6.same (hid_same z)
    have bt7 := bt7.same (hid_same z)
    have hn := dp_same (hid_same z) hn
    have e10 := e10.trans (.of z)
    clear eq z nT1
    refine ⟨_, rfl, (by show 2 ≤ sizeLine; decide), fun t8 nt8 => ?_⟩
    obtain ⟨_, eq, z, hS10, bt8⟩ := alloc_t (K := K) hS10 nt8 (.cons (.int 1) (.cons (.int 2) .nil)) (fun e => by simp [okPc])
    rw [eq]
    have bt1 := bt1.same (hid_same z)
    have bt2 := bt2.same (hid_same z)
    have bt3 := bt3.same (hid_same z)
    have bt4 := bt4.same (hid_same z)
    have bt5 := bt5.same (hid_same z)
    have bt6 := bt6.same (hid_same z)
    have bt7 := bt7.same (hid_same z)
    have oT1 := z _ _ oT1
    have hn := dp_same (hid_same z) hn
    have e10 := e10.trans (.of z)
    clear eq z nt8
    refine ⟨_, rfl, _, rfl, (by show 4 ≤ sizeLine; decide), fun t9 nt9 => ?_⟩
    obtain ⟨_, eq, z, hS10, bt9⟩ := alloc_t (K := K) hS10 nt9 (.cons (.int 0) (.cons (.int 1) (.cons hn (.cons hn .nil)))) (fun e => by simp [okPc])
    rw [eq]
    have bt1 := bt1.same (hid_same z)
    have bt2 := bt2.same (hid_same z)
    have bt3 := bt3.same (hid_same z)
    have bt4 := bt4.same (hid_same z)
    have bt5 := bt5.same (hid_same z)
    have bt6 := bt6.same (hid_same z)
    have bt7 := bt7.same (hid_same z)
    have bt8 := bt8.same (hid_same z)
    have oT1 := z _ _ oT1
    have hn := dp_same (hid_same z) hn
    have e10 := e10.trans (.of z)
    clear eq z nt9
    refine ⟨(by show 2 ≤ sizeLine; decide), fun T2 nT2 => ?_⟩
    obtain ⟨_, eq, z, hS10, oT2⟩ := alloc_o (xs := [.ref t8, .ref t9]) hS10 nT2
    rw [eq]
    have bt1 := bt1.same (hid_same z)
    have bt2 := bt2.same (hid_same z)
    have bt3 := bt3.same (hid_same z)
    have bt4 := bt4.same (hid_same z)
    have bt5 := bt5.same (hid_same z)
    have bt6 := bt6.same (hid_same z)
    have bt7 := bt7.same (hid_same z)
    have bt8 := bt8.same (hid_same z)
    have bt9 := bt9.same (hid_same z)
    have oT1 := z _ _ oT1
    have hn := dp_same (hid_same z) hn
    have e10 := e10.trans (.of z)
    clear eq z nT2
    refine ⟨T1, T2, _, _, rfl, rfl, .inl (.inl oT1), .inl (.inl oT2), (by show 10 ≤ sizeLine; decide), (fun z => by cases z), (fun _ z => by cases z), fun _ _ T3 nT3 => ?_⟩
    obtain ⟨_, eq, z, hS10, oT3⟩ := alloc_o (xs := [.non, .ref t1, .ref t2, .ref t3, .ref t4, .ref t5, .ref t6, .ref t7] ++ [.ref t8, .ref t9]) hS10 nT3
    rw [eq]
    have bt1 := bt1.same (hid_same z)
    have bt2 := bt2.same (hid_same z)
    have bt3 := bt3.same (hid_same z)
    have bt4 := bt4.same (hid_same z)
    have bt5 := bt5.same (hid_same z)
    have bt6 := bt6.same (hid_same z)
    have bt7 := bt7.same (hid_same z)
    have bt8 := bt8.same (hid_same z)
    have bt9 := bt9.same (hid_same z)
    have oT1 := z _ _ oT1
    have oT2 := z _ _ oT2
    have hn := dp_same (hid_same z) hn
    have e10 := e10.trans (.of z)
    clear eq z nT3
    have noP : ∀ v ∈ ([.non, .ref t1, .ref t2, .ref t3, .ref t4, .ref t5, .ref t6, .ref t7] ++ [.ref t8, .ref t9] : List V), NoP K _ v := fun v hv => by
      simp only [List.mem_cons, List.mem_append, List.not_mem_nil, or_false] at hv
      rcases hv with (rfl | rfl | rfl | rfl | rfl | rfl | rfl | rfl) | (rfl | rfl)
      · exact ⟨_, .non, fun e => rfl⟩
      · exact bt1
      · exact bt2
      · exact bt3
      · exact bt4
      · exact bt5
      · exact bt6
      · exact bt7
      · exact bt8
      · exact bt9
    clear bt1 bt2 bt3 bt4 bt5 bt6 bt7 bt8 bt9 oT1 oT2
    refine ⟨_, rfl, S, c, 10, rfl, hS10, by decide, fun ri H11 r0 r1 _ hS11 e11 => ?_⟩
    obtain ⟨ri, rfl⟩ := Int.eq_ofNat_of_zero_le r0
    have nT3 := tup_ne hS10 oT3
    obtain ⟨bv, hbv, mb⟩ := atI_mem (xs := [.non, .ref t1, .ref t2, .ref t3, .ref t4, .ref t5, .ref t6, .ref t7] ++ [.ref t8, .ref t9]) (n := ri) (by show ri < 10; omega)
    have hbad := (noP bv mb).same (hid_ext e11)
    refine ⟨T3, _, _, bv, rfl, rfl, .inl (.inl (e11 _ _ nT3 oT3)), hbv, ?_⟩
    have hn := tg_ext hn e11
    have e11 := e10.trans e11
    clear noP mb hbv oT3 e10 r0 r1
    have hP11 := hP9.ext e11
    refine ⟨_, rfl, _, rfl, P, _, rfl, .inl hP11.sq, _, _, rfl, rfl, S, c, _, rfl, hS11, (by omega), fun pl H12 p0 p1 _ hS12 e12 => ?_⟩
    obtain ⟨pl, rfl⟩ := Int.eq_ofNat_of_zero_le p0
    have hpl : pl ≤ ps.length := by
      have := hP11.len
      omega
    have hbad := hbad.same (hid_ext e12)
    have hn := tg_ext hn e12
    have e12 := e11.trans e12
    clear p0 p1 e11
    have ascP : Fm.Asc 0 ps := (hL8.asc eds).mono a00
    have mxP := hL8.max (fun x hx => (dsr x hx).2)
    refine ⟨fun σ' H' => ∃ (v : V) (d : PyData), σ' = [some (.ref a), some (.ref S), some (.str (nm k8)), some (.ref G), some (.ref D), some (.int (s : Int)), some nv, some (.ref R), some (.ref P), some (.ref P2), some (.ref T1), some v, some (.int (pl : Int)), none, none, none, none, none, none, none, none] ∧ Ext S H12 H' ∧ Stm S c H' ∧ Dp K (hid S H') v d ∧ okPc (Fm.fin 0 (ps.take pl)) d = none, ?_, ?_⟩
    · obtain ⟨d0, hd0, hb0⟩ := hbad
      refine ⟨_, rfl, _, _, rfl, rfl, _, rfl, ?_⟩
      refine if2 (fun c1 => ?_) (fun c1 => ⟨bv, d0, rfl, .refl _ _, hS12, hd0, hb0 _⟩)
      refine ⟨_, rfl, S, c, 10, rfl, hS12, by decide, fun x H13 _ _ _ hS13 e13 => ⟨_, _, rfl, rfl, _, rfl, ?_⟩⟩
      refine if2 (fun c2 => ?_) (fun c2 => ⟨bv, d0, rfl, e13, hS13, dp_same (hid_ext e13) hd0, hb0 _⟩)
      have c1' : 0 < pl := by have := of_decide_eq_true c1; omega
      have hp : ps[pl - 1]? = some (ps[pl - 1]'(by omega)) := List.getElem?_eq_getElem (by omega)
      have hP13 := (hP9.ext e12).ext e13
      obtain ⟨u, hu, hud⟩ := dpa_map hP13.dat hp
      refine ⟨_, rfl, _, rfl, _, _, rfl, rfl, P, _, _, u, rfl, rfl, hP13.sq, at_of (j := pl - 1) (by omega) hu, ?_⟩
      refine ⟨u, _, rfl, e13, hS13, hud, ?_⟩
      have et : ps.take pl = ps.take (pl - 1) ++ [ps[pl - 1]'(by omega)] := by
        have := take_map hp
        rw [show pl - 1 + 1 = pl by omega] at this
        exact this
      rw [et, Fm.fin_app]
      have := asc_tk (k := pl) ascP
      rw [et, Fm.asc_app] at this
      exact okPc_back this.2.2
    rintro σ' H13 ⟨bv, bd, rfl, e13, hS13, hbd, hok⟩
    clear hbad
    refine ⟨_, rfl, (by show 1 ≤ sizeLine; decide), fun u1 nu1 => ?_⟩
    obtain ⟨_, eq, z, hS14, g1, _⟩ := alloc_d (K := K) hS13 nu1 (.cons (.int 3) .nil)
    rw [eq]
    have e14 := z
    clear eq z nu1
    refine ⟨_, rfl, (by show 1 ≤ sizeLine; decide), fun u2 nu2 => ?_⟩
    obtain ⟨_, eq, z, hS14, g2, _⟩ := alloc_dl (K := K) hS14 nu2 (.cons (.int 4) .nil)
    rw [eq]
    have g1 := dp_same (hid_same z) g1
    have e14 := e14.trans z
    clear eq z nu2
    refine ⟨(by show 10 ≤ sizeLine; decide), fun T4 nT4 => ?_⟩
    obtain ⟨_, eq, z, hS14, oT4⟩ := alloc_o (xs := [.int (-1), .int 1000000, .bl true, .bl false, .non, .str "5", .ref u1, .int 1000001, .int (-1000000000000), .ref u2]) hS14 nT4
    rw [eq]
    have g1 := dp_same (hid_same z) g1
    have g2 := dp_same (hid_same z) g2
    have e14 := e14.trans z
    clear eq z nT4
    have nT4 := tup_ne hS14 oT4
    have keyOk : ∀ v ∈ ([.int (-1), .int 1000000, .bl true, .bl false, .non, .str "5", .ref u1, .int 1000001, .int (-1000000000000), .ref u2] : List V), NoK K _ v := fun v hv => by
      simp only [List.mem_cons, List.not_mem_nil, or_false] at hv
      rcases hv with rfl | rfl | rfl | rfl | rfl | rfl | rfl | rfl | rfl | rfl
      · exact nok_int rfl
      · exact nok_int rfl
      · exact ⟨_, .bl true, rfl, shOk_of (fun x e => by cases e), rfl⟩
      · exact ⟨_, .bl false, rfl, shOk_of (fun x e => by cases e), rfl⟩
      · exact ⟨_, .non, rfl, shOk_of (fun x e => by cases e), rfl⟩
      · exact ⟨_, .str "5", by decide +kernel, ⟨fun x e _ => by cases e; decide +kernel, fun x e => by cases e; decide +kernel⟩, rfl⟩
      · exact ⟨_, g1, rfl, shOk_of (fun x e => by cases e), rfl⟩
      · exact nok_int rfl
      · exact nok_int rfl
      · exact ⟨_, g2, rfl, shOk_of (fun x e => by cases e), rfl⟩
    clear g1 g2
    refine ⟨_, rfl, S, c, 10, rfl, hS14, by decide, fun ri H15 r0 r1 _ hS15 e15 => ?_⟩
    obtain ⟨ri, rfl⟩ := Int.eq_ofNat_of_zero_le r0
    obtain ⟨vk, hvk, mk⟩ := atI_mem (xs := [.int (-1), .int 1000000, .bl true, .bl false, .non, .str "5", .ref u1, .int 1000001, .int (-1000000000000), .ref u2]) (n := ri) (by show ri < 10; omega)
    have hNK := (keyOk vk mk).same (hid_ext e15)
    refine ⟨T4, _, _, vk, rfl, rfl, .inl (.inl (e15 _ _ nT4 oT4)), hvk, ?_⟩
    have e15 := (Ext.of e14).trans e15
    clear keyOk mk hvk oT4 nT4 e14 r0 r1
    have hbd := dp_same (hid_ext e15) hbd
    have hn := tg_ext (tg_ext hn e13) e15
    have e15 := (e12.trans e13).trans e15
    clear e12 e13 hS14 hS13
    have hP := hP9.ext e15
    have hP2 := hP92.ext e15
    have hR := hR9.ext e15
    have hDD := (hD9.ext e15).sq (K := K)
    -- the field
    refine ⟨_, rfl, P, pv, rfl, .inl hP.sq, fun l nl => ?_⟩
    have sl := same_new (o := .lst pv) nl
    have hl16 : upd H15 l (.lst pv) l = some (.lst pv) := upd_same
    have nlS := ext_ne hS15 nl
    have nlc := ext_nc hS15 nl
    have hS16 := stm_new (o := .lst pv) hS15 nl
    generalize upd H15 l (.lst pv) = H16 at *
    refine ⟨_, rfl, _, rfl, fun F dF nF ndF neF => ?_⟩
    have sF := same_init (C := A'.c_Field) (o := .own F) nF ndF
    refine ⟨F, dF, l, nv, pv, ps.map pcD, n, rfl, upd_same, dp_same (sl.trans sF) (tg_le hn), .inl (sF.seq (SqL.of hl16)), dpa_same (sl.trans sF) hP.le, fun _ => ⟨ps, rfl, by rw [ns_]; exact sp8, by omega, fun L lv H17 nL ex _ hF => ⟨rfl, ?_⟩⟩, fun i hb => by rw [bP] at hb; cases hb⟩
    have s17 := ext_init nF ndF ex
    have hl17 := s17 _ _ hl16
    have nLl : L ≠ l := fun z => by rw [z, sF _ _ hl16] at nL; cases nL
    have hS17 := stm_same hS16 s17
    have e17 := sl.trans s17
    clear ex sF nL nF ndF neF hl16 hS16 s17
    refine ⟨_, rfl, _, rfl, _, _, .lst (SqL.of hl17) (dpa_same e17 hP.le), .lst (e17.seq hP.sq) (dpa_same e17 hP.le), pcs_sh _, pcs_sh _, _, rfl, ?_⟩
    refine ifF (by rw [eqv_self (pcs_sh _)] <;> rfl) ?_
    refine ⟨_, rfl, .inl ⟨rfl, _, SqL.of hl17⟩, l, _, rfl, rfl, hl17, ?_⟩
    have hF18 : Fd K A'.c_Field (upd H17 l (.lst [])) F n (Fm.form n ps) := ⟨_, _, _, _, fdw_mut hF hl17 nLl⟩
    have hS18 : Stm S c (upd H17 l (.lst [])) := stm_put hS17 nlS nlc
    have e18 : Same H15 (upd H17 l (.lst [])) := same_mut e17 nl
    clear hF e17 sl hl17 hS17
    generalize upd H17 l (.lst []) = H18 at *
    have hF18 : Fd K A'.c_Field (hid S H18) F n (Fm.form n ps) := by
      obtain ⟨dx, nw, L, vs, h⟩ := hF18
      exact ⟨_, _, _, _, h.hid hS18⟩
    have hn18 := tg_ext hn (.of e18)
    refine ⟨fun σ' H' => ∃ (F : Addr), σ' = [some (.ref a), some (.ref S), some (.str (nm k8)), some (.ref G), some (.ref D), some (.int (s : Int)), some nv, some (.ref R), some (.ref P), some (.ref P2), some (.ref T1), some bv, some (.int (pl : Int)), some vk, some (.ref l), some (.ref F), none, none, none, none, none] ∧ Ext S H18 H' ∧ Fd K A'.c_Field (hid S H') F n (Fm.form n ps), ?_, ?_⟩
    · refine ⟨_, rfl, S, c, 2, rfl, hS18, by decide, fun x H19 _ _ _ hS19 e19 => ⟨rfl, _, rfl, ?_⟩⟩
      refine if2 (fun _ => ?_) (fun _ => ⟨F, rfl, e19, hF18.ext e19⟩)
      have eA := (Ext.of e18).trans e19
      have hPA := hP.ext eA
      refine ⟨_, rfl, _, rfl, P, pv, rfl, .inl ⟨hPA.sq, fun t nt => ?_⟩⟩
      have st := same_new (o := .tup pv) nt
      intro F dF nF ndF neF
      have sF := same_init (C := A'.c_Field) (o := .own F) nF ndF
      refine ⟨F, dF, t, nv, pv, ps.map pcD, n, rfl, upd_same, dp_same (st.trans sF) (tg_le (tg_ext hn18 e19)), .inr (seqT_same sF (.inl (.inl upd_same))), dpa_same (st.trans sF) hPA.le, fun _ => ⟨ps, rfl, by rw [ns_]; exact sp8, by omega, fun L lv H20 nL ex _ hF => ⟨rfl, ?_⟩⟩, fun i hb => by rw [bP] at hb; cases hb⟩
      have s20 := st.trans (ext_init nF ndF ex)
      exact ⟨F, rfl, e19.trans (.of s20), ⟨_, _, _, _, hF.hid (stm_same hS19 s20)⟩⟩
    rintro σ' H19 ⟨F, rfl, e19, hF19⟩
    have e19 := (Ext.of e18).trans e19
    clear hF18 hn18 e18
    have hF := hF19.same hid_le
    have hbd := dp_same hid_le (dp_same (hid_ext e19) hbd)
    have hNK := (hNK.same (hid_ext e19)).same hid_le
    have hn := tg_le (tg_ext hn e19)
    have hPd := (hP.ext e19).le
    have hPq := (hP.ext e19).sq (K := K)
    have hP2d := (hP2.ext e19).le
    have hP2q := (hP2.ext e19).sq (K := K)
    have hRq := (hR.ext e19).sq
    have hRd : DpAll K H19 us (r.map Tg.d) := dpa_same hid_le (hR.ext e19).dat
    have hDq := ((hD9.ext e15).ext e19).sq (K := K)
    clear hF19
    clear hP2 hP hR hDD e15 hS15 hS18
    refine ⟨_, rfl, _, rfl, _, rfl, D, R, ds, r, us, nv, n, s, rfl, hDq, hRq, hRd, hn, by omega, by omega, fun t ht => (gr t ht).1, ns_, fun E2 ws2 H20 nE2 s20 hE2 dE2 => ?_⟩
    have ascF : Fm.Asc 0 (Fm.full ds r) := ((Fm.full_loose (n := n) ok.asc (by omega)).asc eds).mono a00
    have eFull : Fm.form n (Fm.full ds r) = Fm.form n ps := by
      obtain ⟨f1, f2⟩ := Fm.form_ok (n := n) ascF
      exact Fm.can_ext f1.can cP fun x => by rw [f2, (Fm.full_loose (n := n) ok.asc (by omega)).val, vP]
    have eMore : Fm.form n ps = Fm.form n ps2 := Fm.can_ext cP cP2 fun x => by rw [vP, vP2]
    rw [eFull] at dE2
    have hF := hF.same s20
    have hbd := dp_same s20 hbd
    have hNK := hNK.same s20
    have hn := dp_same s20 hn
    have hPd := dpa_same s20 hPd
    have hPq := s20.seq hPq
    have hP2d := dpa_same s20 hP2d
    have hP2q := s20.seq hP2q
    have hRq := s20.seq hRq
    have hRd := dpa_same s20 hRd
    have hDq := s20.seq hDq
    have hE2 := SqL.of (K := K) hE2
    clear s20 nE2
    have smF : ∀ p ∈ Fm.form n ps, p.2.2.s = s ∧ p.2.2.small := by
      rw [← eFull]
      exact Fm.form_all (R := fun t : Tg => t.s = s ∧ t.small) (Fm.full_all (R := fun t : Tg => t.s = s ∧ t.small) gr)
    have fl900 : (Fm.form n ps).length ≤ 900 := by
      have := Fm.form_len n ps
      omega
    have hpl2 : pv.length = ps.length := dpa_lenM hPd
    refine ⟨_, rfl, by decide, by decide, for_range (lo := 0) (n := 2) (fun i σ' H' => ∃ o1 o2, σ' = [some (.ref a), some (.ref S), some (.str (nm k8)), some (.ref G), some (.ref D), some (.int (s : Int)), some nv, some (.ref R), some (.ref P), some (.ref P2), some (.ref T1), some bv, some (.int (pl : Int)), some vk, some (.ref l), some (.ref F), some (.ref E2), o1, o2, none, none] ∧ Same H20 H') ⟨_, _, rfl, .refl _⟩ ?_ ?_⟩
    · rintro i σ' H' hi ⟨o1, o2, rfl, e⟩
      refine ⟨_, rfl, _, rfl, _, rfl, _, rfl, _, rfl, _, rfl, F, E2, D, R, ds, r, us, ws2, nv, n, s, Fm.form n ps, rfl, hF.same e, e.seq hE2, dpa_same e dE2, dp_same e hn, e.seq hDq, e.seq hRq, dpa_same e hRd, by omega, by omega, ok.asc, cP.asc, fl900, ns_, nz, smF, gr, vP, fun H2 e2 => ⟨_, rfl, ?_⟩⟩
      refine ifF rfl ?_
      have e2 := e.trans e2
      have hF2 := hF.same e2
      obtain ⟨dx, nw, L, lv, hw⟩ := id hF2
      refine ⟨_, rfl, F, dx, _, rfl, hw.at_, rfl, F, n, _, rfl, hF2, fun q ws H3 nq s3 hq dq => ?_⟩
      have nq0 : H20 q = none := by
        cases z : H20 q with
        | none => rfl
        | some o => rw [e2 _ _ z] at nq; cases nq
      have e3 := e2.trans s3
      refine ⟨_, rfl, .inl ⟨rfl, _, SqL.of hq⟩, _, rfl, (by show 3 ≤ sizeLine; decide), fun t nt => ?_⟩
      have st := same_new (o := .tup [.int 0, .int 1, nv]) nt
      have lws := dpa_lenM dq
      exact ⟨q, ws, _, rfl, rfl, st _ _ hq, small1000 (by omega), _, _, rfl, same_mut (e3.trans st) nq0⟩
    rintro σ' H21 ⟨o1, o2, rfl, e21⟩
    refine ⟨Nat.zero_le _, fun l5 n5 => ⟨(by show 1 ≤ sizeLine; decide), fun l6 n6 => ⟨(by show 2 ≤ sizeLine; decide), fun T5 nT5 => ?_⟩⟩⟩
    have z5 := same_new (o := .lst []) n5
    have z6 := same_new (o := .lst [.non]) n6
    have zT := same_new (o := .tup [.ref l5, .ref l6]) nT5
    have h5 := zT _ _ (z6 _ _ (upd_same (a := l5) (o := .lst []) (H := H21)))
    have h6 := zT _ _ (upd_same (a := l6) (o := .lst [.non]) (H := upd H21 l5 (.lst [])))
    have hT : SqT K _ T5 [.ref l5, .ref l6] := .inl (.inl (upd_same (a := T5) (o := .tup [.ref l5, .ref l6]) (H := upd (upd H21 l5 (.lst [])) l6 (.lst [.non]))))
    have e22 := e21.trans ((z5.trans z6).trans zT)
    clear z5 z6 zT n5 n6 nT5 e21
    generalize upd (upd (upd H21 l5 (.lst [])) l6 (.lst [.non])) T5 (.tup [.ref l5, .ref l6]) = H22 at *
    have tails : ∀ v ∈ ([.ref l5, .ref l6] : List V), ∃ lt zs es, v = .ref lt ∧ H22 lt = some (.lst zs) ∧ zs.length ≤ 1 ∧ DpAll K H22 zs es := fun v hv => by
      simp only [List.mem_cons, List.not_mem_nil, or_false] at hv
      rcases hv with rfl | rfl
      · exact ⟨l5, [], [], rfl, h5, Nat.zero_le _, .nil⟩
      · exact ⟨l6, [.non], [.none], rfl, h6, Nat.le_refl _, .cons .non .nil⟩
    clear h5 h6
    refine ⟨T5, rfl, ⟨_, hT⟩, for_tup (K := K) (a := T5) (xs := [.ref l5, .ref l6]) (fun i σ' H' => ∃ o3, σ' = [some (.ref a), some (.ref S), some (.str (nm k8)), some (.ref G), some (.ref D), some (.int (s : Int)), some nv, some (.ref R), some (.ref P), some (.ref P2), some (.ref T1), some bv, some (.int (pl : Int)), some vk, some (.ref l), some (.ref F), some (.ref E2), o1, o2, o3, none] ∧ Same H22 H') ⟨_, rfl, .refl _⟩ (fun i σ' H' _ ⟨_, _, e⟩ => seqT_same e hT) ?_ ?_⟩
    · rintro i x σ' H' hi ⟨o3, rfl, e⟩
      obtain ⟨lt, zs, es, rfl, hlt, lz, dz⟩ := tails x (List.mem_of_getElem? hi)
      have e0 := e22.trans e
      refine ⟨_, rfl, _, rfl, _, rfl, _, rfl, P, pv, rfl, e0.seq hPq, fun p1 m1 => ?_⟩
      obtain ⟨J1, eq, e1, h1⟩ := alloc_n (.lst (cutV pv none (some (pl : Int)))) m1
      rw [eq]
      rw [cutV_take (by omega)] at h1
      clear eq m1
      refine ⟨_, rfl, (by show 1 ≤ sizeLine; decide), fun p2 m2 => ?_⟩
      obtain ⟨J2, eq, e2, h2⟩ := alloc_n (.lst [bv]) m2
      rw [eq]
      have h1 := e2 _ _ h1
      clear eq m2
      refine ⟨p1, p2, _, _, rfl, rfl, h1, h2, (Nat.le_trans (by rw [List.length_take, List.length_singleton]; omega) (show 1000 ≤ sizeLine by decide)), fun p3 m3 => ?_⟩
      obtain ⟨J3, eq, e3, h3⟩ := alloc_n (.lst (pv.take pl ++ [bv])) m3
      rw [eq]
      clear eq m3 h1 h2
      have e03 := ((e0.trans e1).trans e2).trans e3
      refine ⟨_, rfl, _, rfl, _, rfl, P, pv, rfl, e03.seq hPq, fun p4 m4 => ?_⟩
      obtain ⟨J4, eq, e4, h4⟩ := alloc_n (.lst (cutV pv (some (pl : Int)) none)) m4
      rw [eq]
      rw [cutV_drop (by omega)] at h4
      have h3 := e4 _ _ h3
      clear eq m4
      refine ⟨p3, p4, _, _, rfl, rfl, h3, h4, (Nat.le_trans (by rw [List.length_append, List.length_take, List.length_drop, List.length_singleton]; omega) (show 1000 ≤ sizeLine by decide)), fun p5 m5 => ?_⟩
      obtain ⟨J5, eq, e5, h5⟩ := alloc_n (.lst (pv.take pl ++ [bv] ++ pv.drop pl)) m5
      rw [eq]
      clear eq m5 h3 h4
      have e5' := ((((e.trans e1).trans e2).trans e3).trans e4).trans e5
      refine ⟨_, rfl, p5, lt, _, _, rfl, rfl, h5, e5' _ _ hlt, (Nat.le_trans (by rw [List.length_append, List.length_append, List.length_take, List.length_drop, List.length_singleton]; omega) (show 1000 ≤ sizeLine by decide)), fun p6 m6 => ?_⟩
      obtain ⟨J6, eq, e6, h6⟩ := alloc_n (.lst (pv.take pl ++ [bv] ++ pv.drop pl ++ zs)) m6
      rw [eq]
      clear eq m6 h5
      have e6' := e5'.trans e6
      have e06 := e22.trans e6'
      have hall : DpAll K J6 (pv.take pl ++ [bv] ++ pv.drop pl ++ zs) ((ps.take pl).map pcD ++ bd :: ((ps.drop pl).map pcD ++ es)) := by
        have hP6 := dpa_same e06 hPd
        have t1 := dpa_tk (k := pl) hP6
        have t2 := dpa_dr (k := pl) hP6
        rw [← List.map_take] at t1
        rw [← List.map_drop] at t2
        have := dpa_apd (dpa_apd (dpa_apd t1 (.cons (dp_same e06 hbd) .nil)) t2) (dpa_same e6' dz)
        rw [show (ps.take pl).map pcD ++ [bd] ++ (ps.drop pl).map pcD ++ es = (ps.take pl).map pcD ++ bd :: ((ps.drop pl).map pcD ++ es) by rw [List.append_assoc, List.append_assoc] <;> rfl] at this
        exact this
      have hbp : badPc 0 ((ps.take pl).map pcD ++ bd :: ((ps.drop pl).map pcD ++ es)) 0 = some pl := by
        rw [badPc_mid (Int.le_refl _) (asc_tk ascP) (fun p hp => mxP p (List.mem_of_mem_take hp)) hok]
        congr 1
        rw [List.length_take]
        omega
      refine ⟨_, rfl, nv, p6, n, _, _, pl, rfl, dp_same e06 hn, SqL.of h6, hall, hbp, fun H7 e7 => ⟨_, rfl, ?_⟩⟩
      refine ifF rfl ?_
      exact ⟨_, rfl, e6'.trans e7⟩
    rintro σ' H23 ⟨o3, rfl, e23⟩
    have e23 := e22.trans e23
    clear tails hT e22
    have hF := hF.same e23
    have hNK := hNK.same e23
    obtain ⟨kd, hk1, hk2, hk3, hk4⟩ := hNK
    have srF : Srt n.s (Fm.form n ps) := fun p hp => by rw [ns_]; exact (smF p hp).1
    refine ⟨_, rfl, _, rfl, F, vk, n, _, kd, 0, rfl, hF, cP.asc, srF, hk1, hk2, hk3, hk4, fun H24 e24 => ⟨_, rfl, ?_⟩⟩
    refine ifF rfl ?_
    refine ⟨_, rfl, _, rfl, F, vk, n, _, kd, 1, rfl, hF.same e24, cP.asc, srF, dp_same e24 hk1, hk2, hk3, hk4, fun H25 e25 => ⟨_, rfl, ?_⟩⟩
    refine ifF rfl ?_
    have e25 := e24.trans e25
    have e26 := e23.trans e25
    have hF := hF.same e25
    refine ⟨_, rfl, _, rfl, _, rfl, fun X dX nX ndX neX => ?_⟩
    have sX := same_init (C := A'.c_Field) (o := .own X) nX ndX
    refine ⟨X, dX, P2, nv, pv2, ps2.map pcD, n, rfl, upd_same, dp_same (e26.trans sX) hn, .inl (sX.seq (e26.seq hP2q)), dpa_same (e26.trans sX) hP2d, fun _ => ⟨ps2, rfl, by rw [ns_]; exact sp92, by omega, fun L4 ws4 H27 nL4 ex4 _ hX => ⟨rfl, ?_⟩⟩, fun i hb => by rw [bP2] at hb; cases hb⟩
    have s27 := ext_init nX ndX ex4
    have hF := hF.same s27
    obtain ⟨dx, nw, L, lv, hw⟩ := id hF
    have eb : (PyData.eqv n.d n.d && PyData.eqv (.list ((Fm.form n ps).map pcD)) (.list ((Fm.form n ps2).map pcD))) = true := by
      rw [← eMore, eqv_self (tg_sh _), eqv_self (pcs_sh _)] <;> rfl
    refine ⟨F, dx, _, _, rfl, hw.at_, T.ow_Field.ins.ty hX.at_, Hm.OwnT.nfC, F, .ref X, n, _, rfl, hF, true, .inl ⟨X, n, _, rfl, ⟨_, _, _, _, hX⟩, eb.symm⟩, ?_⟩
    exact ⟨_, rfl, _, _, rfl, rfl, k _⟩
end
end Kx

set_option Elab.async false
set_option linter.all false
set_option maxRecDepth 100000
set_option maxHeartbeats 4000000
namespace Kx
open PySem PySem.Spec PyProof.Rows L2 Lk
/-! ### the head: what the top has left, told by names -/
def fnD0 : List He.DefD := [⟨("shown", none), "shown", "shown", defArgs s_shown, defBody s_shown, defScope s_shown, [], []⟩,
  ⟨("is_whole", none), "is_whole", "is_whole", defArgs s_is_whole, defBody s_is_whole, defScope s_is_whole, [], []⟩,
  ⟨("in_one_form", none), "in_one_form", "in_one_form", defArgs s_in_one_form, defBody s_in_one_form, defScope s_in_one_form, [], []⟩,
  ⟨("Field", some "pieces"), "pieces", "Field.pieces", defArgs s_Field__pieces, defBody s_Field__pieces, defScope s_Field__pieces, [], []⟩,
  ⟨("Field", some "__eq__"), "__eq__", "Field.__eq__", defArgs s_Field____eq__, defBody s_Field____eq__, defScope s_Field____eq__, [], []⟩,
  ⟨("Field", some "__len__"), "__len__", "Field.__len__", defArgs s_Field____len__, defBody s_Field____len__, defScope s_Field____len__, [], []⟩,
  ⟨("Field", some "__iter__"), "__iter__", "Field.__iter__", defArgs s_Field____iter__, defBody s_Field____iter__, defScope s_Field____iter__, [], []⟩,
  ⟨("_law_stream", none), "_law_stream", "_law_stream", defArgs s__law_stream, defBody s__law_stream, defScope s__law_stream, [], []⟩,
  ⟨("_law_mixed", none), "_law_mixed", "_law_mixed", defArgs s__law_mixed, defBody s__law_mixed, defScope s__law_mixed, [], []⟩,
  ⟨("_law_plain", none), "_law_plain", "_law_plain", defArgs s__law_plain, defBody s__law_plain, defScope s__law_plain, [], []⟩,
  ⟨("_law_normal", none), "_law_normal", "_law_normal", defArgs s__law_normal, defBody s__law_normal, defScope s__law_normal, [], []⟩,
  ⟨("_law_field", none), "_law_field", "_law_field", defArgs s__law_field, defBody s__law_field, defScope s__law_field, [], []⟩,
  ⟨("_law_is_number", none), "_law_is_number", "_law_is_number", defArgs s__law_is_number, defBody s__law_is_number, defScope s__law_is_number, [], []⟩,
  ⟨("_law_thing_at", none), "_law_thing_at", "_law_thing_at", defArgs s__law_thing_at, defBody s__law_thing_at, defScope s__law_thing_at, [], []⟩,
  ⟨("_law_look_keys", none), "_law_look_keys", "_law_look_keys", defArgs s__law_look_keys, defBody s__law_look_keys, defScope s__law_look_keys, [], []⟩,
  ⟨("is_key", none), "is_key", "is_key", defArgs s_is_key, defBody s_is_key, defScope s_is_key, [], []⟩,
  ⟨("is_stretch", none), "is_stretch", "is_stretch", defArgs s_is_stretch, defBody s_is_stretch, defScope s_is_stretch, [], []⟩,
  ⟨("_law_draw", none), "_law_draw", "_law_draw", defArgs s__law_draw, defBody s__law_draw, defScope s__law_draw, [], []⟩,
  ⟨("_law_is_word", none), "_law_is_word", "_law_is_word", defArgs s__law_is_word, defBody s__law_is_word, defScope s__law_is_word, [], []⟩,
  ⟨("_law_pick", none), "_law_pick", "_law_pick", defArgs s__law_pick, defBody s__law_pick, defScope s__law_pick, [], []⟩,
  ⟨("_law_is_effect", none), "_law_is_effect", "_law_is_effect", defArgs s__law_is_effect, defBody s__law_is_effect, defScope s__law_is_effect, [], []⟩,
  ⟨("check_key", none), "check_key", "check_key", defArgs s_check_key, defBody s_check_key, defScope s_check_key, [], []⟩,
  ⟨("check_pieces", none), "check_pieces", "check_pieces", defArgs s_check_pieces, defBody s_check_pieces, defScope s_check_pieces, [], []⟩,
  ⟨("_law_kind", none), "_law_kind", "_law_kind", defArgs s__law_kind, defBody s__law_kind, defScope s__law_kind, [], []⟩,
  ⟨("_law_letters", none), "_law_letters", "_law_letters", defArgs s__law_letters, defBody s__law_letters, defScope s__law_letters, [], []⟩,
  ⟨("_law_raw", none), "_law_raw", "_law_raw", defArgs s__law_raw, defBody s__law_raw, defScope s__law_raw, [], []⟩,
  ⟨("_law_grid", none), "_law_grid", "_law_grid", defArgs s__law_grid, defBody s__law_grid, defScope s__law_grid, [], []⟩,
  ⟨("_law_none", none), "_law_none", "_law_none", defArgs s__law_none, defBody s__law_none, defScope s__law_none, [], []⟩,
  ⟨("_law_loose_pieces", none), "_law_loose_pieces", "_law_loose_pieces", defArgs s__law_loose_pieces, defBody s__law_loose_pieces, defScope s__law_loose_pieces, [], []⟩,
  ⟨("_law_good_thing", none), "_law_good_thing", "_law_good_thing", defArgs s__law_good_thing, defBody s__law_good_thing, defScope s__law_good_thing, [], []⟩]
def fnD1 : List He.DefD := [⟨("Field", some "__init__"), "__init__", "Field.__init__", defArgs s_Field____init__, defBody s_Field____init__, defScope s_Field____init__, [.adr (He.dflAt ("Field", some "__init__") 0)], []⟩,
  ⟨("Field", some "at"), "at", "Field.at", defArgs s_Field__at, defBody s_Field__at, defScope s_Field__at, [], []⟩,
  ⟨("_law_effect", none), "_law_effect", "_law_effect", defArgs s__law_effect, defBody s__law_effect, defScope s__law_effect, [], []⟩,
  ⟨("_law_told_pieces", none), "_law_told_pieces", "_law_told_pieces", defArgs s__law_told_pieces, defBody s__law_told_pieces, defScope s__law_told_pieces, [], []⟩,
  ⟨("Field", some "__contains__"), "__contains__", "Field.__contains__", defArgs s_Field____contains__, defBody s_Field____contains__, defScope s_Field____contains__, [], []⟩,
  ⟨("_law_thing", none), "_law_thing", "_law_thing", defArgs s__law_thing, defBody s__law_thing, defScope s__law_thing, [], []⟩,
  ⟨("_law_things", none), "_law_things", "_law_things", defArgs s__law_things, defBody s__law_things, defScope s__law_things, [], []⟩,
  ⟨("_law_field_told", none), "_law_field_told", "_law_field_told", defArgs s__law_field_told, defBody s__law_field_told, defScope s__law_field_told, [], []⟩,
  ⟨("_law_no_field", none), "_law_no_field", "_law_no_field", defArgs s__law_no_field, defBody s__law_no_field, defScope s__law_no_field, [], []⟩,
  ⟨("_law_no_key_of", none), "_law_no_key_of", "_law_no_key_of", defArgs s__law_no_key_of, defBody s__law_no_key_of, defScope s__law_no_key_of, [], []⟩,
  ⟨("law", none), "law", "law", defArgs s_law, defBody s_law, defScope s_law, [], []⟩]
def fnD : List He.DefD := fnD0 ++ fnD1
def faD0 : List He.Fa := [.glo "shown",
  .glo "is_whole",
  .glo "in_one_form",
  .glo "_law_stream",
  .glo "_law_mixed",
  .glo "_law_plain",
  .glo "_law_normal",
  .glo "_law_field",
  .glo "_law_is_number",
  .glo "_law_thing_at",
  .glo "_law_look_keys",
  .glo "is_key",
  .glo "is_stretch",
  .glo "_law_draw",
  .glo "_law_is_word",
  .glo "_law_pick",
  .glo "_law_is_effect",
  .glo "check_key",
  .glo "check_pieces",
  .glo "_law_kind",
  .glo "_law_letters",
  .glo "_law_raw",
  .glo "_law_grid",
  .glo "_law_none",
  .glo "_law_loose_pieces",
  .glo "_law_good_thing",
  .glo "_law_effect",
  .glo "_law_told_pieces",
  .glo "_law_thing",
  .glo "_law_things"]
def faD1 : List He.Fa := [.glo "_law_field_told",
  .glo "_law_no_field",
  .glo "_law_no_key_of",
  .glo "law",
  .glo "StoreError",
  .glo "KeyFault",
  .glo "PlaceFault",
  .glo "BadKey",
  .glo "BadWord",
  .glo "BadEffect",
  .glo "BadStretch",
  .glo "BadField",
  .glo "BadBatch",
  .glo "Field",
  .cls "Field",
  .meth "Field" "pieces",
  .meth "Field" "__eq__",
  .meth "Field" "__len__",
  .meth "Field" "__iter__",
  .meth "Field" "__init__",
  .meth "Field" "at",
  .meth "Field" "__contains__",
  .mkr "Field",
  .noat "Field" "_neutral",
  .noat "Field" "_pieces",
  .free "abs",
  .free "all",
  .free "bool",
  .free "enumerate",
  .free "int"]
def faD2 : List He.Fa := [.free "isinstance",
  .free "iter",
  .free "len",
  .free "list",
  .free "range",
  .free "repr",
  .free "set",
  .free "sorted",
  .free "str",
  .free "sum",
  .free "super",
  .free "tuple",
  .int "TOP" 1000000]
def faD : List He.Fa := faD0 ++ faD1 ++ faD2
def iniD : List Hk.IniD := [⟨"KeyFault", "KeyFault.__init__", defArgs si_KeyFault, defBody si_KeyFault, defScope si_KeyFault⟩,
  ⟨"PlaceFault", "PlaceFault.__init__", defArgs si_PlaceFault, defBody si_PlaceFault, defScope si_PlaceFault⟩]
def ceD : List Hk.Ce := [.sup "BadField" "PlaceFault" "place",
  .ini "BadField" "PlaceFault",
  .exd "BadField",
  .xf "BadField",
  .exm "BadField",
  .sup "BadKey" "KeyFault" "key",
  .ini "BadKey" "KeyFault",
  .exd "BadKey",
  .xf "BadKey",
  .exm "BadKey",
  .kit "BadField" "StoreError" true,
  .kit "BadField" "KeyFault" false,
  .kit "BadField" "PlaceFault" true,
  .kit "BadField" "BadKey" false,
  .kit "BadField" "BadWord" false,
  .kit "BadField" "BadEffect" false,
  .kit "BadField" "BadStretch" false,
  .kit "BadField" "BadBatch" false,
  .kit "BadKey" "StoreError" true,
  .kit "BadKey" "KeyFault" true,
  .kit "BadKey" "PlaceFault" false,
  .kit "BadKey" "BadWord" false,
  .kit "BadKey" "BadEffect" false,
  .kit "BadKey" "BadStretch" false,
  .kit "BadKey" "BadField" false,
  .kit "BadKey" "BadBatch" false]
def looseN0 : List Str := ["_wall",
  "shown",
  "is_whole",
  "is_key",
  "is_stretch",
  "check_key",
  "check_pieces",
  "in_one_form",
  "_law_stream",
  "_law_mixed",
  "_law_draw",
  "_law_pick",
  "_law_kind",
  "_law_letters",
  "_law_raw",
  "_law_plain",
  "_law_normal",
  "_law_effect",
  "_law_grid",
  "_law_field",
  "_law_is_number",
  "_law_is_word",
  "_law_is_effect",
  "_law_none",
  "_law_thing",
  "_law_things",
  "_law_loose_pieces",
  "_law_thing_at",
  "_law_look_keys",
  "_law_good_thing"]
def looseN1 : List Str := ["_law_told_pieces",
  "_law_field_told",
  "_law_no_field",
  "_law_no_key_of",
  "StoreError",
  "KeyFault",
  "PlaceFault",
  "BadKey",
  "BadWord",
  "BadEffect",
  "BadStretch",
  "BadField",
  "BadBatch",
  "Field",
  "TOP"]
def looseN : List Str := looseN0 ++ looseN1
def cfD : List Hm.Cf := [.own "Field",
  .nobool "Field",
  .prop "Field" "neutral",
  .prop "Field" "size",
  .emp "Field" "__init__" 0,
  .insT "Field",
  .kit "Field" "Field" true]
def tsD : List Hm.Tb := []
abbrev R : PySem.W.OpenRow := PySem.W.OpenLaw.row PySem.Challenge.rw_leastshelf_k10_field_one_form
def pdD : List Hq.PDef := [⟨"Field", "neutral", "Field.neutral", defArgs s_Field__neutral, defBody s_Field__neutral, defScope s_Field__neutral⟩,
  ⟨"Field", "size", "Field.size", defArgs s_Field__size, defBody s_Field__size, defScope s_Field__size⟩]
abbrev hk : PySem.W.Hook := Hq.hookP faD fnD "/claim/cut.py" iniD ceD cfD tsD pdD 5
def ob (s : PySem.W.SharedT) : Hq.AlP := Hq.obsPG faD fnD "/claim/cut.py" iniD ceD cfD tsD pdD 5 (HandSHeadRun.getT s)
theorem ob_eq (s : PySem.W.SharedT) : ob s = hk.obs s.abs := Hq.obsPG_eq _ _ _ _ _ _ _ _ (HandSHeadRun.getT_eq s)
theorem run (w : World) : HandSHeadRun.RunEq R (PySem.W.view R.prog [50]) hk ob 4000 looseN w := by
  intro os
  kernel_rfl
theorem facts {P : Program} {w : World} {K : PySem.W.Frag} {h : Heap} {mg : Str → Option Value} {f0 : Addr} (X : K.In h) (G : h.Ns mainGlobals mg) (hP : P.main.file = "/claim/cut.py") (hS : (P.main.scope.names.lookup ("super" : Str)).isSome = false) (hfa : mg ("law" : Str) = some (.ref f0)) (c : Hq.SaysP faD fnD "/claim/cut.py" iniD ceD cfD tsD pdD w K) :
    ∃ fd : FuncData, (∀ (s : Shared) (v : Value), BindsTo s fd ⟨[v], []⟩ [("_law_script", v)]) ∧ ∀ base : Heap, K.In base → base.Ns mainGlobals mg → FnOk P w K mg base CX0 8 f0 fd ["_law_script"] (sp_law K) := by
  have cP := c
  have cM := cP.m
  have c := cM.k
  have D := c.d
  obtain ⟨fd0, F0⟩ : ∃ fd, Hk.FnM K "shown" "shown" s_shown [] (He.ga K "shown") fd := D.def_ 0 rfl
  obtain ⟨fd1, F1⟩ : ∃ fd, Hk.FnM K "is_whole" "is_whole" s_is_whole [] (He.ga K "is_whole") fd := D.def_ 1 rfl
  obtain ⟨fd2, F2⟩ : ∃ fd, Hk.FnM K "in_one_form" "in_one_form" s_in_one_form [] (He.ga K "in_one_form") fd := D.def_ 2 rfl
  obtain ⟨fd3, F3⟩ : ∃ fd, Hk.FnM K "neutral" "Field.neutral" s_Field__neutral [] (Hm.propG K (He.ga K "Field") "neutral") fd := cP.get 0 rfl
  obtain ⟨fd4, F4⟩ : ∃ fd, Hk.FnM K "size" "Field.size" s_Field__size [] (Hm.propG K (He.ga K "Field") "size") fd := cP.get 1 rfl
  obtain ⟨fd5, F5⟩ : ∃ fd, Hk.FnM K "pieces" "Field.pieces" s_Field__pieces [] (He.fAd K ("Field", some "pieces")) fd := D.def_ 3 rfl
  obtain ⟨fd6, F6⟩ : ∃ fd, Hk.FnM K "__eq__" "Field.__eq__" s_Field____eq__ [] (He.fAd K ("Field", some "__eq__")) fd := D.def_ 4 rfl
  obtain ⟨fd7, F7⟩ : ∃ fd, Hk.FnM K "__len__" "Field.__len__" s_Field____len__ [] (He.fAd K ("Field", some "__len__")) fd := D.def_ 5 rfl
  obtain ⟨fd8, F8⟩ : ∃ fd, Hk.FnM K "__iter__" "Field.__iter__" s_Field____iter__ [] (He.fAd K ("Field", some "__iter__")) fd := D.def_ 6 rfl
  obtain ⟨fd9, F9⟩ : ∃ fd, Hk.FnM K "_law_stream" "_law_stream" s__law_stream [] (He.ga K "_law_stream") fd := D.def_ 7 rfl
  obtain ⟨fd10, F10⟩ : ∃ fd, Hk.FnM K "_law_mixed" "_law_mixed" s__law_mixed [] (He.ga K "_law_mixed") fd := D.def_ 8 rfl
  obtain ⟨fd11, F11⟩ : ∃ fd, Hk.FnM K "_law_plain" "_law_plain" s__law_plain [] (He.ga K "_law_plain") fd := D.def_ 9 rfl
  obtain ⟨fd12, F12⟩ : ∃ fd, Hk.FnM K "_law_normal" "_law_normal" s__law_normal [] (He.ga K "_law_normal") fd := D.def_ 10 rfl
  obtain ⟨fd13, F13⟩ : ∃ fd, Hk.FnM K "_law_field" "_law_field" s__law_field [] (He.ga K "_law_field") fd := D.def_ 11 rfl
  obtain ⟨fd14, F14⟩ : ∃ fd, Hk.FnM K "_law_is_number" "_law_is_number" s__law_is_number [] (He.ga K "_law_is_number") fd := D.def_ 12 rfl
  obtain ⟨fd15, F15⟩ : ∃ fd, Hk.FnM K "_law_thing_at" "_law_thing_at" s__law_thing_at [] (He.ga K "_law_thing_at") fd := D.def_ 13 rfl
  obtain ⟨fd16, F16⟩ : ∃ fd, Hk.FnM K "_law_look_keys" "_law_look_keys" s__law_look_keys [] (He.ga K "_law_look_keys") fd := D.def_ 14 rfl
  obtain ⟨fd17, F17⟩ : ∃ fd, Hk.FnM K "is_key" "is_key" s_is_key [] (He.ga K "is_key") fd := D.def_ 15 rfl
  obtain ⟨fd18, F18⟩ : ∃ fd, Hk.FnM K "is_stretch" "is_stretch" s_is_stretch [] (He.ga K "is_stretch") fd := D.def_ 16 rfl
  obtain ⟨fd19, F19⟩ : ∃ fd, Hk.FnM K "_law_draw" "_law_draw" s__law_draw [] (He.ga K "_law_draw") fd := D.def_ 17 rfl
  obtain ⟨fd20, F20⟩ : ∃ fd, Hk.FnM K "_law_is_word" "_law_is_word" s__law_is_word [] (He.ga K "_law_is_word") fd := D.def_ 18 rfl
  obtain ⟨fd21, F21⟩ : ∃ fd, Hk.FnM K "_law_pick" "_law_pick" s__law_pick [] (He.ga K "_law_pick") fd := D.def_ 19 rfl
  obtain ⟨fd22, F22⟩ : ∃ fd, Hk.FnM K "_law_is_effect" "_law_is_effect" s__law_is_effect [] (He.ga K "_law_is_effect") fd := D.def_ 20 rfl
  obtain ⟨fd23, F23⟩ : ∃ fd, Hk.FnM K "check_key" "check_key" s_check_key [] (He.ga K "check_key") fd := D.def_ 21 rfl
  obtain ⟨fd24, F24⟩ : ∃ fd, Hk.FnM K "check_pieces" "check_pieces" s_check_pieces [] (He.ga K "check_pieces") fd := D.def_ 22 rfl
  obtain ⟨fd25, F25⟩ : ∃ fd, Hk.FnM K "_law_kind" "_law_kind" s__law_kind [] (He.ga K "_law_kind") fd := D.def_ 23 rfl
  obtain ⟨fd26, F26⟩ : ∃ fd, Hk.FnM K "_law_letters" "_law_letters" s__law_letters [] (He.ga K "_law_letters") fd := D.def_ 24 rfl
  obtain ⟨fd27, F27⟩ : ∃ fd, Hk.FnM K "_law_raw" "_law_raw" s__law_raw [] (He.ga K "_law_raw") fd := D.def_ 25 rfl
  obtain ⟨fd28, F28⟩ : ∃ fd, Hk.FnM K "_law_grid" "_law_grid" s__law_grid [] (He.ga K "_law_grid") fd := D.def_ 26 rfl
  obtain ⟨fd29, F29⟩ : ∃ fd, Hk.FnM K "_law_none" "_law_none" s__law_none [] (He.ga K "_law_none") fd := D.def_ 27 rfl
  obtain ⟨fd30, F30⟩ : ∃ fd, Hk.FnM K "_law_loose_pieces" "_law_loose_pieces" s__law_loose_pieces [] (He.ga K "_law_loose_pieces") fd := D.def_ 28 rfl
  obtain ⟨fd31, F31⟩ : ∃ fd, Hk.FnM K "_law_good_thing" "_law_good_thing" s__law_good_thing [] (He.ga K "_law_good_thing") fd := D.def_ 29 rfl
  obtain ⟨fd32, F32⟩ : ∃ fd, Hk.FnM K "__init__" "Field.__init__" s_Field____init__ [.ref (He.dflAt ("Field", some "__init__") 0 K)] (He.fAd K ("Field", some "__init__")) fd := D.def_ 30 rfl
  obtain ⟨fd33, F33⟩ : ∃ fd, Hk.FnM K "at" "Field.at" s_Field__at [] (He.fAd K ("Field", some "at")) fd := D.def_ 31 rfl
  obtain ⟨fd34, F34⟩ : ∃ fd, Hk.FnM K "_law_effect" "_law_effect" s__law_effect [] (He.ga K "_law_effect") fd := D.def_ 32 rfl
  obtain ⟨fd35, F35⟩ : ∃ fd, Hk.FnM K "_law_told_pieces" "_law_told_pieces" s__law_told_pieces [] (He.ga K "_law_told_pieces") fd := D.def_ 33 rfl
  obtain ⟨fd36, F36⟩ : ∃ fd, Hk.FnM K "__contains__" "Field.__contains__" s_Field____contains__ [] (He.fAd K ("Field", some "__contains__")) fd := D.def_ 34 rfl
  obtain ⟨fd37, F37⟩ : ∃ fd, Hk.FnM K "_law_thing" "_law_thing" s__law_thing [] (He.ga K "_law_thing") fd := D.def_ 35 rfl
  obtain ⟨fd38, F38⟩ : ∃ fd, Hk.FnM K "_law_things" "_law_things" s__law_things [] (He.ga K "_law_things") fd := D.def_ 36 rfl
  obtain ⟨fd39, F39⟩ : ∃ fd, Hk.FnM K "_law_field_told" "_law_field_told" s__law_field_told [] (He.ga K "_law_field_told") fd := D.def_ 37 rfl
  obtain ⟨fd40, F40⟩ : ∃ fd, Hk.FnM K "_law_no_field" "_law_no_field" s__law_no_field [] (He.ga K "_law_no_field") fd := D.def_ 38 rfl
  obtain ⟨fd41, F41⟩ : ∃ fd, Hk.FnM K "_law_no_key_of" "_law_no_key_of" s__law_no_key_of [] (He.ga K "_law_no_key_of") fd := D.def_ 39 rfl
  obtain ⟨fd42, F42⟩ : ∃ fd, Hk.FnM K "law" "law" s_law [] (He.ga K "law") fd := D.def_ 40 rfl
  have j0 := c.i 0 rfl
  obtain ⟨fi0, S0, B0⟩ : ∃ fd, Sup.SupF P K (He.ga K "KeyFault") (He.fAd K ("KeyFault", some "__init__")) "KeyFault.__init__" (defArgs si_KeyFault) (defBody si_KeyFault) (defScope si_KeyFault) fd ∧ Binds K fd ["self", "key"] [] := Hk.ini_ok hP hS j0.1 j0.2 fun _ _ _ _ _ _ _ us hl => match us, hl with | [_, _], _ => rfl
  have j1 := c.i 1 rfl
  obtain ⟨fi1, S1, B1⟩ : ∃ fd, Sup.SupF P K (He.ga K "PlaceFault") (He.fAd K ("PlaceFault", some "__init__")) "PlaceFault.__init__" (defArgs si_PlaceFault) (defBody si_PlaceFault) (defScope si_PlaceFault) fd ∧ Binds K fd ["self", "place"] [] := Hk.ini_ok hP hS j1.1 j1.2 fun _ _ _ _ _ _ _ us hl => match us, hl with | [_, _], _ => rfl
  have b0 : Binds K fd0 ["value"] [] := FunD.bindsN F0 fun _ _ _ _ _ _ us hl => match us, hl with | [_], _ => rfl
  have b1 : Binds K fd1 ["thing"] [] := FunD.bindsN F1 fun _ _ _ _ _ _ us hl => match us, hl with | [_], _ => rfl
  have b2 : Binds K fd2 ["neutral", "pieces"] [] := FunD.bindsN F2 fun _ _ _ _ _ _ us hl => match us, hl with | [_, _], _ => rfl
  have b3 : Binds K fd3 ["self"] [] := FunD.bindsN F3 fun _ _ _ _ _ _ us hl => match us, hl with | [_], _ => rfl
  have b4 : Binds K fd4 ["self"] [] := FunD.bindsN F4 fun _ _ _ _ _ _ us hl => match us, hl with | [_], _ => rfl
  have b5 : Binds K fd5 ["self"] [] := FunD.bindsN F5 fun _ _ _ _ _ _ us hl => match us, hl with | [_], _ => rfl
  have b6 : Binds K fd6 ["self", "other"] [] := FunD.bindsN F6 fun _ _ _ _ _ _ us hl => match us, hl with | [_, _], _ => rfl
  have b7 : Binds K fd7 ["self"] [] := FunD.bindsN F7 fun _ _ _ _ _ _ us hl => match us, hl with | [_], _ => rfl
  have b8 : Binds K fd8 ["self"] [] := FunD.bindsN F8 fun _ _ _ _ _ _ us hl => match us, hl with | [_], _ => rfl
  have b9 : Binds K fd9 ["_law_script"] [] := FunD.bindsN F9 fun _ _ _ _ _ _ us hl => match us, hl with | [_], _ => rfl
  have b10 : Binds K fd10 ["_law_cell", "_law_place"] [] := FunD.bindsN F10 fun _ _ _ _ _ _ us hl => match us, hl with | [_, _], _ => rfl
  have b11 : Binds K fd11 ["_law_kind_here", "_law_word"] [] := FunD.bindsN F11 fun _ _ _ _ _ _ us hl => match us, hl with | [_, _], _ => rfl
  have b12 : Binds K fd12 ["_law_kind_here", "_law_effect_here"] [] := FunD.bindsN F12 fun _ _ _ _ _ _ us hl => match us, hl with | [_, _], _ => rfl
  have b13 : Binds K fd13 ["_law_grid_here", "_law_row", "_law_none_here"] [] := FunD.bindsN F13 fun _ _ _ _ _ _ us hl => match us, hl with | [_, _, _], _ => rfl
  have b14 : Binds K fd14 ["_law_thing_here"] [] := FunD.bindsN F14 fun _ _ _ _ _ _ us hl => match us, hl with | [_], _ => rfl
  have b15 : Binds K fd15 ["_law_grid_here", "_law_row", "_law_none_here", "_law_key"] [] := FunD.bindsN F15 fun _ _ _ _ _ _ us hl => match us, hl with | [_, _, _, _], _ => rfl
  have b16 : Binds K fd16 ["_law_grid_here"] [] := FunD.bindsN F16 fun _ _ _ _ _ _ us hl => match us, hl with | [_], _ => rfl
  have b17 : Binds K fd17 ["thing"] [] := FunD.bindsN F17 fun _ _ _ _ _ _ us hl => match us, hl with | [_], _ => rfl
  have b18 : Binds K fd18 ["thing"] [] := FunD.bindsN F18 fun _ _ _ _ _ _ us hl => match us, hl with | [_], _ => rfl
  have b19 : Binds K fd19 ["_law_stream_here", "_law_many"] [] := FunD.bindsN F19 fun _ _ _ _ _ _ us hl => match us, hl with | [_, _], _ => rfl
  have b20 : Binds K fd20 ["_law_thing_here"] [] := FunD.bindsN F20 fun _ _ _ _ _ _ us hl => match us, hl with | [_], _ => rfl
  have b21 : Binds K fd21 ["_law_stream_here", "_law_many"] [] := FunD.bindsN F21 fun _ _ _ _ _ _ us hl => match us, hl with | [_, _], _ => rfl
  have b22 : Binds K fd22 ["_law_thing_here"] [] := FunD.bindsN F22 fun _ _ _ _ _ _ us hl => match us, hl with | [_], _ => rfl
  have b23 : Binds K fd23 ["key"] [] := FunD.bindsN F23 fun _ _ _ _ _ _ us hl => match us, hl with | [_], _ => rfl
  have b24 : Binds K fd24 ["pieces"] [] := FunD.bindsN F24 fun _ _ _ _ _ _ us hl => match us, hl with | [_], _ => rfl
  have b25 : Binds K fd25 ["_law_stream_here"] [] := FunD.bindsN F25 fun _ _ _ _ _ _ us hl => match us, hl with | [_], _ => rfl
  have b26 : Binds K fd26 ["_law_stream_here"] [] := FunD.bindsN F26 fun _ _ _ _ _ _ us hl => match us, hl with | [_], _ => rfl
  have b27 : Binds K fd27 ["_law_stream_here", "_law_letters_here"] [] := FunD.bindsN F27 fun _ _ _ _ _ _ us hl => match us, hl with | [_, _], _ => rfl
  have b28 : Binds K fd28 ["_law_stream_here", "_law_upper"] [] := FunD.bindsN F28 fun _ _ _ _ _ _ us hl => match us, hl with | [_, _], _ => rfl
  have b29 : Binds K fd29 ["_law_stream_here", "_law_letters_here", "_law_sort"] [] := FunD.bindsN F29 fun _ _ _ _ _ _ us hl => match us, hl with | [_, _, _], _ => rfl
  have b30 : Binds K fd30 ["_law_stream_here", "_law_grid_here", "_law_row", "_law_none_here"] [] := FunD.bindsN F30 fun _ _ _ _ _ _ us hl => match us, hl with | [_, _, _, _], _ => rfl
  have b31 : Binds K fd31 ["_law_thing_here", "_law_sort"] [] := FunD.bindsN F31 fun _ _ _ _ _ _ us hl => match us, hl with | [_, _], _ => rfl
  have b32 : Binds K fd32 ["self", "neutral", "pieces"] [] := by
    obtain ⟨ds, hv, hb⟩ := FunD.binds1 (ps := ["self", "neutral", "pieces"]) F32 3 1 (by simp) (by rfl) fun _ _ _ _ _ _ _ us its hl hi => match us, its, hl, hi with | [_, _, _], [_], _, _ => ⟨_, rfl, rfl⟩
    cases hv
    exact hb
  have d32_1 : ∃ ds : List Value, Binds K fd32 ["self", "neutral", "pieces"] ds ∧ Vals [.ref (He.dflAt ("Field", some "__init__") 0 K)] ds := by
    obtain ⟨ds, hv, hb⟩ := FunD.binds1 (ps := ["self", "neutral", "pieces"]) F32 2 0 (by simp) (by rfl) fun _ _ _ _ _ _ _ us its hl hi => match us, its, hl, hi with | [_, _], [_], _, _ => ⟨_, rfl, rfl⟩
    exact ⟨ds, hb, hv⟩
  have b33 : Binds K fd33 ["self", "key"] [] := FunD.bindsN F33 fun _ _ _ _ _ _ us hl => match us, hl with | [_, _], _ => rfl
  have b34 : Binds K fd34 ["_law_stream_here", "_law_kind_here", "_law_letters_here"] [] := FunD.bindsN F34 fun _ _ _ _ _ _ us hl => match us, hl with | [_, _, _], _ => rfl
  have b35 : Binds K fd35 ["_law_told", "_law_due", "_law_sort"] [] := FunD.bindsN F35 fun _ _ _ _ _ _ us hl => match us, hl with | [_, _, _], _ => rfl
  have b36 : Binds K fd36 ["self", "key"] [] := FunD.bindsN F36 fun _ _ _ _ _ _ us hl => match us, hl with | [_, _], _ => rfl
  have b37 : Binds K fd37 ["_law_stream_here", "_law_kind_here", "_law_letters_here", "_law_sort"] [] := FunD.bindsN F37 fun _ _ _ _ _ _ us hl => match us, hl with | [_, _, _, _], _ => rfl
  have b38 : Binds K fd38 ["_law_stream_here", "_law_kind_here", "_law_letters_here", "_law_sort", "_law_none_here", "_law_many"] [] := FunD.bindsN F38 fun _ _ _ _ _ _ us hl => match us, hl with | [_, _, _, _, _, _], _ => rfl
  have b39 : Binds K fd39 ["_law_field_here", "_law_due", "_law_sort", "_law_none_here", "_law_grid_here", "_law_row"] [] := FunD.bindsN F39 fun _ _ _ _ _ _ us hl => match us, hl with | [_, _, _, _, _, _], _ => rfl
  have b40 : Binds K fd40 ["_law_none_here", "_law_pieces", "_law_place"] [] := FunD.bindsN F40 fun _ _ _ _ _ _ us hl => match us, hl with | [_, _, _], _ => rfl
  have b41 : Binds K fd41 ["_law_field_here", "_law_key", "_law_way"] [] := FunD.bindsN F41 fun _ _ _ _ _ _ us hl => match us, hl with | [_, _, _], _ => rfl
  have b42 : Binds K fd42 ["_law_script"] [] := FunD.bindsN F42 fun _ _ _ _ _ _ us hl => match us, hl with | [_], _ => rfl
  let A' : Ad := {
    f_shown := He.ga K "shown",
    fd_shown := fd0,
    f_is_whole := He.ga K "is_whole",
    fd_is_whole := fd1,
    f_in_one_form := He.ga K "in_one_form",
    fd_in_one_form := fd2,
    f_Field__neutral := Hm.propG K (He.ga K "Field") "neutral",
    fd_Field__neutral := fd3,
    f_Field__size := Hm.propG K (He.ga K "Field") "size",
    fd_Field__size := fd4,
    f_Field__pieces := He.fAd K ("Field", some "pieces"),
    fd_Field__pieces := fd5,
    f_Field____eq__ := He.fAd K ("Field", some "__eq__"),
    fd_Field____eq__ := fd6,
    f_Field____len__ := He.fAd K ("Field", some "__len__"),
    fd_Field____len__ := fd7,
    f_Field____iter__ := He.fAd K ("Field", some "__iter__"),
    fd_Field____iter__ := fd8,
    f__law_stream := He.ga K "_law_stream",
    fd__law_stream := fd9,
    f__law_mixed := He.ga K "_law_mixed",
    fd__law_mixed := fd10,
    f__law_plain := He.ga K "_law_plain",
    fd__law_plain := fd11,
    f__law_normal := He.ga K "_law_normal",
    fd__law_normal := fd12,
    f__law_field := He.ga K "_law_field",
    fd__law_field := fd13,
    f__law_is_number := He.ga K "_law_is_number",
    fd__law_is_number := fd14,
    f__law_thing_at := He.ga K "_law_thing_at",
    fd__law_thing_at := fd15,
    f__law_look_keys := He.ga K "_law_look_keys",
    fd__law_look_keys := fd16,
    f_is_key := He.ga K "is_key",
    fd_is_key := fd17,
    f_is_stretch := He.ga K "is_stretch",
    fd_is_stretch := fd18,
    f__law_draw := He.ga K "_law_draw",
    fd__law_draw := fd19,
    f__law_is_word := He.ga K "_law_is_word",
    fd__law_is_word := fd20,
    f__law_pick := He.ga K "_law_pick",
    fd__law_pick := fd21,
    f__law_is_effect := He.ga K "_law_is_effect",
    fd__law_is_effect := fd22,
    f_check_key := He.ga K "check_key",
    fd_check_key := fd23,
    f_check_pieces := He.ga K "check_pieces",
    fd_check_pieces := fd24,
    f__law_kind := He.ga K "_law_kind",
    fd__law_kind := fd25,
    f__law_letters := He.ga K "_law_letters",
    fd__law_letters := fd26,
    f__law_raw := He.ga K "_law_raw",
    fd__law_raw := fd27,
    f__law_grid := He.ga K "_law_grid",
    fd__law_grid := fd28,
    f__law_none := He.ga K "_law_none",
    fd__law_none := fd29,
    f__law_loose_pieces := He.ga K "_law_loose_pieces",
    fd__law_loose_pieces := fd30,
    f__law_good_thing := He.ga K "_law_good_thing",
    fd__law_good_thing := fd31,
    f_Field____init__ := He.fAd K ("Field", some "__init__"),
    fd_Field____init__ := fd32,
    f_Field__at := He.fAd K ("Field", some "at"),
    fd_Field__at := fd33,
    f__law_effect := He.ga K "_law_effect",
    fd__law_effect := fd34,
    f__law_told_pieces := He.ga K "_law_told_pieces",
    fd__law_told_pieces := fd35,
    f_Field____contains__ := He.fAd K ("Field", some "__contains__"),
    fd_Field____contains__ := fd36,
    f__law_thing := He.ga K "_law_thing",
    fd__law_thing := fd37,
    f__law_things := He.ga K "_law_things",
    fd__law_things := fd38,
    f__law_field_told := He.ga K "_law_field_told",
    fd__law_field_told := fd39,
    f__law_no_field := He.ga K "_law_no_field",
    fd__law_no_field := fd40,
    f__law_no_key_of := He.ga K "_law_no_key_of",
    fd__law_no_key_of := fd41,
    f_law := He.ga K "law",
    fd_law := fd42,
    c_StoreError := He.ga K "StoreError",
    c_KeyFault := He.ga K "KeyFault",
    c_PlaceFault := He.ga K "PlaceFault",
    c_BadKey := He.ga K "BadKey",
    c_BadWord := He.ga K "BadWord",
    c_BadEffect := He.ga K "BadEffect",
    c_BadStretch := He.ga K "BadStretch",
    c_BadField := He.ga K "BadField",
    c_BadBatch := He.ga K "BadBatch",
    c_Field := He.ga K "Field",
    pa_Field__neutral := Hm.propP K (He.ga K "Field") "neutral",
    pa_Field__size := Hm.propP K (He.ga K "Field") "size",
    e_Field____init___0 := He.dflAt ("Field", some "__init__") 0 K,
    i_KeyFault := He.fAd K ("KeyFault", some "__init__"),
    fdi_KeyFault := fi0,
    i_PlaceFault := He.fAd K ("PlaceFault", some "__init__"),
    fdi_PlaceFault := fi1 }
  have T : Txt P K mg A' := {
    F_shown := F0,
    g_shown := He.glo_ok X G (D.fact 0 (f := .glo "shown") rfl),
    b_shown := b0,
    F_is_whole := F1,
    g_is_whole := He.glo_ok X G (D.fact 1 (f := .glo "is_whole") rfl),
    b_is_whole := b1,
    F_in_one_form := F2,
    g_in_one_form := He.glo_ok X G (D.fact 2 (f := .glo "in_one_form") rfl),
    b_in_one_form := b2,
    F_Field__neutral := F3,
    pr_Field__neutral := Hm.propB_ok (cM.f 2 (e := .prop "Field" "neutral") rfl),
    b_Field__neutral := b3,
    F_Field__size := F4,
    pr_Field__size := Hm.propB_ok (cM.f 3 (e := .prop "Field" "size") rfl),
    b_Field__size := b4,
    F_Field__pieces := F5,
    me_Field__pieces := He.meth_ok (D.fact 45 (f := .meth "Field" "pieces") rfl),
    b_Field__pieces := b5,
    F_Field____eq__ := F6,
    me_Field____eq__ := He.meth_ok (D.fact 46 (f := .meth "Field" "__eq__") rfl),
    b_Field____eq__ := b6,
    F_Field____len__ := F7,
    me_Field____len__ := He.meth_ok (D.fact 47 (f := .meth "Field" "__len__") rfl),
    b_Field____len__ := b7,
    F_Field____iter__ := F8,
    me_Field____iter__ := He.meth_ok (D.fact 48 (f := .meth "Field" "__iter__") rfl),
    b_Field____iter__ := b8,
    F__law_stream := F9,
    g__law_stream := He.glo_ok X G (D.fact 3 (f := .glo "_law_stream") rfl),
    b__law_stream := b9,
    F__law_mixed := F10,
    g__law_mixed := He.glo_ok X G (D.fact 4 (f := .glo "_law_mixed") rfl),
    b__law_mixed := b10,
    F__law_plain := F11,
    g__law_plain := He.glo_ok X G (D.fact 5 (f := .glo "_law_plain") rfl),
    b__law_plain := b11,
    F__law_normal := F12,
    g__law_normal := He.glo_ok X G (D.fact 6 (f := .glo "_law_normal") rfl),
    b__law_normal := b12,
    F__law_field := F13,
    g__law_field := He.glo_ok X G (D.fact 7 (f := .glo "_law_field") rfl),
    b__law_field := b13,
    F__law_is_number := F14,
    g__law_is_number := He.glo_ok X G (D.fact 8 (f := .glo "_law_is_number") rfl),
    b__law_is_number := b14,
    F__law_thing_at := F15,
    g__law_thing_at := He.glo_ok X G (D.fact 9 (f := .glo "_law_thing_at") rfl),
    b__law_thing_at := b15,
    F__law_look_keys := F16,
    g__law_look_keys := He.glo_ok X G (D.fact 10 (f := .glo "_law_look_keys") rfl),
    b__law_look_keys := b16,
    F_is_key := F17,
    g_is_key := He.glo_ok X G (D.fact 11 (f := .glo "is_key") rfl),
    b_is_key := b17,
    F_is_stretch := F18,
    g_is_stretch := He.glo_ok X G (D.fact 12 (f := .glo "is_stretch") rfl),
    b_is_stretch := b18,
    F__law_draw := F19,
    g__law_draw := He.glo_ok X G (D.fact 13 (f := .glo "_law_draw") rfl),
    b__law_draw := b19,
    F__law_is_word := F20,
    g__law_is_word := He.glo_ok X G (D.fact 14 (f := .glo "_law_is_word") rfl),
    b__law_is_word := b20,
    F__law_pick := F21,
    g__law_pick := He.glo_ok X G (D.fact 15 (f := .glo "_law_pick") rfl),
    b__law_pick := b21,
    F__law_is_effect := F22,
    g__law_is_effect := He.glo_ok X G (D.fact 16 (f := .glo "_law_is_effect") rfl),
    b__law_is_effect := b22,
    F_check_key := F23,
    g_check_key := He.glo_ok X G (D.fact 17 (f := .glo "check_key") rfl),
    b_check_key := b23,
    F_check_pieces := F24,
    g_check_pieces := He.glo_ok X G (D.fact 18 (f := .glo "check_pieces") rfl),
    b_check_pieces := b24,
    F__law_kind := F25,
    g__law_kind := He.glo_ok X G (D.fact 19 (f := .glo "_law_kind") rfl),
    b__law_kind := b25,
    F__law_letters := F26,
    g__law_letters := He.glo_ok X G (D.fact 20 (f := .glo "_law_letters") rfl),
    b__law_letters := b26,
    F__law_raw := F27,
    g__law_raw := He.glo_ok X G (D.fact 21 (f := .glo "_law_raw") rfl),
    b__law_raw := b27,
    F__law_grid := F28,
    g__law_grid := He.glo_ok X G (D.fact 22 (f := .glo "_law_grid") rfl),
    b__law_grid := b28,
    F__law_none := F29,
    g__law_none := He.glo_ok X G (D.fact 23 (f := .glo "_law_none") rfl),
    b__law_none := b29,
    F__law_loose_pieces := F30,
    g__law_loose_pieces := He.glo_ok X G (D.fact 24 (f := .glo "_law_loose_pieces") rfl),
    b__law_loose_pieces := b30,
    F__law_good_thing := F31,
    g__law_good_thing := He.glo_ok X G (D.fact 25 (f := .glo "_law_good_thing") rfl),
    b__law_good_thing := b31,
    F_Field____init__ := F32,
    me_Field____init__ := He.meth_ok (D.fact 49 (f := .meth "Field" "__init__") rfl),
    b_Field____init__ := b32,
    F_Field__at := F33,
    me_Field__at := He.meth_ok (D.fact 50 (f := .meth "Field" "at") rfl),
    b_Field__at := b33,
    F__law_effect := F34,
    g__law_effect := He.glo_ok X G (D.fact 26 (f := .glo "_law_effect") rfl),
    b__law_effect := b34,
    F__law_told_pieces := F35,
    g__law_told_pieces := He.glo_ok X G (D.fact 27 (f := .glo "_law_told_pieces") rfl),
    b__law_told_pieces := b35,
    F_Field____contains__ := F36,
    me_Field____contains__ := He.meth_ok (D.fact 51 (f := .meth "Field" "__contains__") rfl),
    b_Field____contains__ := b36,
    F__law_thing := F37,
    g__law_thing := He.glo_ok X G (D.fact 28 (f := .glo "_law_thing") rfl),
    b__law_thing := b37,
    F__law_things := F38,
    g__law_things := He.glo_ok X G (D.fact 29 (f := .glo "_law_things") rfl),
    b__law_things := b38,
    F__law_field_told := F39,
    g__law_field_told := He.glo_ok X G (D.fact 30 (f := .glo "_law_field_told") rfl),
    b__law_field_told := b39,
    F__law_no_field := F40,
    g__law_no_field := He.glo_ok X G (D.fact 31 (f := .glo "_law_no_field") rfl),
    b__law_no_field := b40,
    F__law_no_key_of := F41,
    g__law_no_key_of := He.glo_ok X G (D.fact 32 (f := .glo "_law_no_key_of") rfl),
    b__law_no_key_of := b41,
    F_law := F42,
    g_law := He.glo_ok X G (D.fact 33 (f := .glo "law") rfl),
    b_law := b42,
    dd1_Field____init__ := d32_1,
    z_abs := He.free_ok X G (D.fact 55 (f := .free "abs") rfl),
    z_all := He.free_ok X G (D.fact 56 (f := .free "all") rfl),
    z_bool := He.free_ok X G (D.fact 57 (f := .free "bool") rfl),
    z_enumerate := He.free_ok X G (D.fact 58 (f := .free "enumerate") rfl),
    z_int := He.free_ok X G (D.fact 59 (f := .free "int") rfl),
    z_isinstance := He.free_ok X G (D.fact 60 (f := .free "isinstance") rfl),
    z_iter := He.free_ok X G (D.fact 61 (f := .free "iter") rfl),
    z_len := He.free_ok X G (D.fact 62 (f := .free "len") rfl),
    z_list := He.free_ok X G (D.fact 63 (f := .free "list") rfl),
    z_range := He.free_ok X G (D.fact 64 (f := .free "range") rfl),
    z_repr := He.free_ok X G (D.fact 65 (f := .free "repr") rfl),
    z_set := He.free_ok X G (D.fact 66 (f := .free "set") rfl),
    z_sorted := He.free_ok X G (D.fact 67 (f := .free "sorted") rfl),
    z_str := He.free_ok X G (D.fact 68 (f := .free "str") rfl),
    z_sum := He.free_ok X G (D.fact 69 (f := .free "sum") rfl),
    z_super := He.free_ok X G (D.fact 70 (f := .free "super") rfl),
    z_tuple := He.free_ok X G (D.fact 71 (f := .free "tuple") rfl),
    c_TOP := He.int_ok X G (D.fact 72 (f := .int "TOP" 1000000) rfl),
    m_StoreError := He.glo_ok X G (D.fact 34 (f := .glo "StoreError") rfl),
    m_KeyFault := He.glo_ok X G (D.fact 35 (f := .glo "KeyFault") rfl),
    m_PlaceFault := He.glo_ok X G (D.fact 36 (f := .glo "PlaceFault") rfl),
    m_BadKey := He.glo_ok X G (D.fact 37 (f := .glo "BadKey") rfl),
    m_BadWord := He.glo_ok X G (D.fact 38 (f := .glo "BadWord") rfl),
    m_BadEffect := He.glo_ok X G (D.fact 39 (f := .glo "BadEffect") rfl),
    m_BadStretch := He.glo_ok X G (D.fact 40 (f := .glo "BadStretch") rfl),
    m_BadField := He.glo_ok X G (D.fact 41 (f := .glo "BadField") rfl),
    m_BadBatch := He.glo_ok X G (D.fact 42 (f := .glo "BadBatch") rfl),
    m_Field := He.glo_ok X G (D.fact 43 (f := .glo "Field") rfl),
    cl_Field := He.cls_ok (D.fact 44 (f := .cls "Field") rfl),
    mi_Field := He.mkr_ok (D.fact 52 (f := .mkr "Field") rfl),
    ow_Field := Hm.ownTB_ok (Hm.insTB_ok (He.cls_ok (D.fact 44 (f := .cls "Field") rfl)) (cM.f 5 (e := .insT "Field") rfl)) (cM.f 0 (e := .own "Field") rfl),
    nb_Field := He.eqO_ok (cM.f 1 (e := .nobool "Field") rfl),
    na_Field__neutral := He.noat_ok (D.fact 53 (f := .noat "Field" "_neutral") rfl),
    na_Field__pieces := He.noat_ok (D.fact 54 (f := .noat "Field" "_pieces") rfl),
    em_Field____init___0 := Hm.emp_ok (cM.f 4 (e := .emp "Field" "__init__" 0) rfl),
    it_Field := Hm.insTB_ok (He.cls_ok (D.fact 44 (f := .cls "Field") rfl)) (cM.f 5 (e := .insT "Field") rfl),
    ki_Field_Field := of_decide_eq_true (cM.f 6 (e := .kit "Field" "Field" true) rfl),
    S_KeyFault := S0,
    bi_KeyFault := B0,
    S_PlaceFault := S1,
    bi_PlaceFault := B1,
    s_BadField := Hk.supB_ok (c.cls 0 (e := .sup "BadField" "PlaceFault" "place") rfl),
    i_BadField := He.eqO_ok (c.cls 1 (e := .ini "BadField" "PlaceFault") rfl),
    x_BadField := Hk.exdB_ok (c.cls 2 (e := .exd "BadField") rfl),
    y_BadField := xfB_ok (c.cls 3 (e := .xf "BadField") rfl),
    e_BadField := of_decide_eq_true (c.cls 4 (e := .exm "BadField") rfl),
    s_BadKey := Hk.supB_ok (c.cls 5 (e := .sup "BadKey" "KeyFault" "key") rfl),
    i_BadKey := He.eqO_ok (c.cls 6 (e := .ini "BadKey" "KeyFault") rfl),
    x_BadKey := Hk.exdB_ok (c.cls 7 (e := .exd "BadKey") rfl),
    y_BadKey := xfB_ok (c.cls 8 (e := .xf "BadKey") rfl),
    e_BadKey := of_decide_eq_true (c.cls 9 (e := .exm "BadKey") rfl),
    k_BadField_StoreError := of_decide_eq_true (c.cls 10 (e := .kit "BadField" "StoreError" true) rfl),
    k_BadField_KeyFault := of_decide_eq_true (c.cls 11 (e := .kit "BadField" "KeyFault" false) rfl),
    k_BadField_PlaceFault := of_decide_eq_true (c.cls 12 (e := .kit "BadField" "PlaceFault" true) rfl),
    k_BadField_BadKey := of_decide_eq_true (c.cls 13 (e := .kit "BadField" "BadKey" false) rfl),
    k_BadField_BadWord := of_decide_eq_true (c.cls 14 (e := .kit "BadField" "BadWord" false) rfl),
    k_BadField_BadEffect := of_decide_eq_true (c.cls 15 (e := .kit "BadField" "BadEffect" false) rfl),
    k_BadField_BadStretch := of_decide_eq_true (c.cls 16 (e := .kit "BadField" "BadStretch" false) rfl),
    k_BadField_BadBatch := of_decide_eq_true (c.cls 17 (e := .kit "BadField" "BadBatch" false) rfl),
    k_BadKey_StoreError := of_decide_eq_true (c.cls 18 (e := .kit "BadKey" "StoreError" true) rfl),
    k_BadKey_KeyFault := of_decide_eq_true (c.cls 19 (e := .kit "BadKey" "KeyFault" true) rfl),
    k_BadKey_PlaceFault := of_decide_eq_true (c.cls 20 (e := .kit "BadKey" "PlaceFault" false) rfl),
    k_BadKey_BadWord := of_decide_eq_true (c.cls 21 (e := .kit "BadKey" "BadWord" false) rfl),
    k_BadKey_BadEffect := of_decide_eq_true (c.cls 22 (e := .kit "BadKey" "BadEffect" false) rfl),
    k_BadKey_BadStretch := of_decide_eq_true (c.cls 23 (e := .kit "BadKey" "BadStretch" false) rfl),
    k_BadKey_BadField := of_decide_eq_true (c.cls 24 (e := .kit "BadKey" "BadField" false) rfl),
    k_BadKey_BadBatch := of_decide_eq_true (c.cls 25 (e := .kit "BadKey" "BadBatch" false) rfl) }
  have e := hfa.symm.trans (He.glo_ok X G (D.fact 33 (f := .glo "law") rfl))
  cases e
  have b := FunD.bindsA (ps := ["_law_script"]) F42 fun _ _ _ _ _ _ us hl => match us, hl with | [_], _ => rfl
  exact ⟨fd42, fun s v => b s [v] rfl, fun base _ _ => ok_law T⟩
end Kx
set_option maxHeartbeats 0
open PySem PySem.W PySem.Calls PyProof.Rows
theorem PySem.Challenge.cw_leastshelf_k10_field_one_form_holds : PySem.Challenge.rw_leastshelf_k10_field_one_form.Holds := by
  w_on; o_law
  refine HandSHeadRun.head_any (r := OpenLaw.row PySem.Challenge.rw_leastshelf_k10_field_one_form) (q := view (OpenLaw.row PySem.Challenge.rw_leastshelf_k10_field_one_form).prog [50]) (H := Kx.hk) (ob := Kx.ob) (M := 4000) (loose := Kx.looseN) (d := HandSHeadRun.topDef (OpenLaw.row PySem.Challenge.rw_leastshelf_k10_field_one_form).prog 50) (kwd := []) Kx.ob_eq
    (by kernel_rfl) (fun s => by kernel_rfl) Kx.run (by kernel_rfl) (by kernel_rfl) (by kernel_rfl) (by rfl) (by first | assumption | decide +kernel) (by decide +kernel) ⟨rfl, rfl, rfl, rfl, rfl, by decide +kernel⟩ ?hw ?hc
  case hw => w_witness2
  case hc =>
    refine L2.walk_ofE (l := PySem.Challenge.rw_leastshelf_k10_field_one_form) (n := 63) (k := 8) (x := "_law_script") (CX := L2.CX0) rfl (by decide) (by kernel_rfl) ⟨rfl, by decide, by decide⟩ ?F (fun _ _ _ _ z => z)
    intro w mg fa h Y G hmg0
    obtain ⟨K, KX, c⟩ := Y
    have hmg : mg ("law" : PySem.Str) = some (.ref fa) := by
      have e : (HandSHeadRun.topDef (OpenLaw.row PySem.Challenge.rw_leastshelf_k10_field_one_form).prog 50).name = ("law" : PySem.Str) := by kernel_rfl
      rw [← e]
      exact hmg0
    obtain ⟨fd, hb, hF⟩ := Kx.facts (P := (PySem.Challenge.rw_leastshelf_k10_field_one_form).prog) (w := w) KX G (by kernel_rfl) (by kernel_rfl) hmg c
    exact ⟨K, fd, Kx.sp_law K, KX, hb, fun H a ns hl _ hS => ⟨a, ns, rfl, hS, hl, fun _ => rfl⟩, hF⟩
