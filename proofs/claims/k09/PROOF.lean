import PyProof.Rows.All
import Wide.All
import OpenK.AllK
import Wide.FinOn
import KE.KExcSuper
import KE.KSuper
import HandS.Base
import HandS.Call
import HandS.Exc
import HandS.ExcInit
import HandS.Nested
import KE.KExcIs
import HandS.ForMost
import HandS.ForExc
import HandS.IsInst
import HandS.FStr
import HandS.RaiseMore
import HandS.Style
import HandS.ExcField
import HandS.Wide
import HandS.Evl
import HandS.CallSlots
import KE.KStateDown
import KE.KExcInit
import HandS.Defaults
import HandS.Head0
import HandS.Head1
import HandS.Head2
import HandS.HeadEnd
import HandS.HeadHook1
import HandS.HeadHook2
import PySem.Challenge.RW_leastshelf_k09_stretches
set_option Elab.async false
set_option linter.all false
set_option maxRecDepth 100000
set_option maxHeartbeats 4000000
/-! own error classes whose __init__ says super().__init__(text) and then stores its one field -/
namespace Sup
open PySem PySem.Spec PyProof.Rows L2 NdefX PySem.W
/-- what the class C (own or inheriting the __init__ of D) says -/
structure SupC (K : Frag) (C D : Addr) (fld : Str) : Prop where
  ox : OexC K C
  sub : subIn K (.ref C) (.type "ValueError") = some true
  sD : mroIn K C (.ref D) = some true
  al : ks_superIn K C D "__init__" = some (some (.builtin "ValueError.__init__"))
  nf : findIn K (.ref C) fld = some none
/-- what the written part says of the __init__ at f, of D -/
structure SupF (P : Program) (K : Frag) (D f : Addr) (qual : Str) (params : Arguments) (body : List Stmt) (scope : Scope) (fd : FuncData) : Prop where
  ex : ∃ (oc : Value) (od : Option Addr) (dV kV doc pm : Value) (an : Option Addr) (c cc : Addr) (ct : Value) (osl : Array (Option Value)) (ccl : Value) (cdd : Option Addr) (vs : Array Value) (ccs : Array (Option Value)) (file : Str) (tf : Tok) (cl : Value) (cld : Option Addr) (csl : Array (Option Value)),
    fd = fnX "__init__" qual params body scope [("__class__", cc)] dV kV doc pm an (.ref c) ct ∧
    K.lookup f = some ⟨oc, od, .func fd, osl⟩ ∧ codeIn K (.ref c) qual = true ∧
    K.lookup c = some ⟨ccl, cdd, .fields vs, ccs⟩ ∧ vs[2]? = some (.str file tf) ∧ ((P.main.file : Str) == file) = true ∧
    K.lookup cc = some ⟨cl, cld, .cell (some (.ref D)), csl⟩
  top : (P.main.scope.names.lookup ("super" : Str)).isSome = false
  cD : (clsIn K D).isSome = true
  op : nsIn K cStatics "thirdparty.any" = some none
  fn : typeIn K (.ref f) = some (.type "function")
/-- the promise: the field holds the argument -/
def spSup (K : Frag) (D : Addr) (fld : Str) (Pre : V → Hp → Prop) : Sp := fun vs H Q _ => ∃ (a C : Addr) (v : V), vs = [.ref a, v] ∧ H a = some (exo a C none) ∧ SupC K C D fld ∧ Pre v H ∧
  ∀ dx, H dx = none → dx ≠ a → Q .non (upd (upd H dx (exd dx [(fld, v)])) a (exo a C (some dx)))
theorem look1 {α : Type} {x y : Str} {a b : α} (h : List.lookup y [(x, a)] = some b) : y = x ∧ b = a := by
  by_cases e : y = x
  · subst e
    simp [List.lookup] at h
    exact ⟨rfl, h.symm⟩
  · have q : (y == x) = false := by simpa using e
    simp [List.lookup, q] at h
theorem fn_sup {CX : CXT} {P : Program} {w : World} {K : Frag} {mg : Str → Option Value} {base : Heap} {k : Nat} {f D : Addr} {qual : Str} {params : Arguments} {scope : Scope} {fd : FuncData} {fld : Str} {e : Expr} {te : TE} {Pre : V → Hp → Prop}
    {p0 p1 p2 p3 p4 p5 p6 p7 p8 : Pos} {ar : Arg} {pl : Sem Bool}
    (F : SupF P K D f qual params [.Expr (.Call (.Attribute (.Call (.Name "super" p0) [] [] p1) "__init__" p2) [e] [] p3) p4, .Assign [.Attribute (.Name "self" p5) fld p6] (.Name fld p7) p8] scope fd)
    (S : NScope [("self" : Str), fld, ("__class__" : Str)] [("self" : Str), fld] [("__class__" : Str)] scope) (hks : scope.names.lookup ("super" : Str) = some .globalImplicit) (hsm : mg ("super" : Str) = none)
    (hp : (params.posonlyargs ++ params.args).head? = some ar) (har : ar.arg = ("self" : Str))
    (hd1 : (fld == ("__debug__" : Str)) = false) (hd2 : (fld == ("__classdict__" : Str)) = false)
    (hsw : ∀ env : Env, swapsWith (.Name fld p7) (some (.Attribute (.Name "self" p5) fld p6)) p8.line env = pure false)
    (hsw2 : ∀ env : Env, swapsWith (.Call (.Attribute (.Call (.Name "super" p0) [] [] p1) "__init__" p2) [e] [] p3) none p4.line env = pure false)
    (hst : ∀ env : Env, starEach [e] env = (false, eval e env) :: starEach [] env)
    (hev : ∀ env : Env, eval (.Call (.Attribute (.Call (.Name "super" p0) [] [] p1) "__init__" p2) [e] [] p3) env = (do
      let ov ← attributeBase (.Call (.Name "super" p0) [] [] p1) "__init__" env (eval (.Call (.Name "super" p0) [] [] p1) env)
      standAt p2.atName
      let (f, first) ← holding [ov] (getMethod ov "__init__" pl)
      callWith p3 f first (backTo p3 (starEach [e] env)) []))
    (he : ∀ X : Cx, X.prog = P → X.w = w → X.K = K → X.mg = mg → X.base = base → X.N = [("self" : Str), fld, ("__class__" : Str)] → X.env.scope = scope → X.calm = true → Room k X.A → PE X e te)
    (hte : ∀ (a : Addr) (v : V) (H : Hp) (Q : VK), Pre v H → (∀ y : Str, y.length ≤ sizeLine → Q (.str y) H) → te [some (.ref a), some v, some (.ref D)] H Q) :
    FnOk P w K mg base CX (k + 1) f fd [("self" : Str), fld] (spSup K D fld Pre) := by
  obtain ⟨⟨oc, od, dV, kV, doc, pm, an, c, cc, ct, osl, ccl, cdd, vs, ccs, file, tf, cl, cld, csl, rfl, lk, hcd, hcode, hvs, hfile, hcell⟩, htop, hcD, hop, hfn⟩ := F
  refine ⟨fun vs H Q E ⟨a, C, v, e1, _⟩ => by rw [e1] <;> rfl, fun A outer s H args us vs' Q E hr e0 hb r hsp => ?_⟩
  obtain ⟨a, C, v, rfl, ha, SC, hpre, hq⟩ := hsp
  let NFF : NF := ⟨"__init__", qual, params, [.Expr (.Call (.Attribute (.Call (.Name "super" p0) [] [] p1) "__init__" p2) [e] [] p3) p4, .Assign [.Attribute (.Name "self" p5) fld p6] (.Name fld p7) p8], scope, [("__class__", cc)], c⟩
  have KX : K.In s.heap := e0.mod.kin.keeps fun b o e => (e0.bs b o e).1
  have lim : s.heap.NoLimit := e0.mod.nolimit.keeps fun b o e => (e0.bs b o e).1
  have hcn : H cc = none := (e0.bs _ _ (e0.mod.kin _ _ hcell)).2
  have CA : CellsAt NFF.cl [("__class__" : Str)] [some (.ref D)] s.heap H := by
    refine ⟨rfl, fun y q h => ?_, fun x y q h1 h2 => ?_, fun i y h => ?_⟩
    · obtain ⟨rfl, rfl⟩ := look1 (show List.lookup y [(("__class__" : Str), cc)] = some q from h)
      exact ⟨hcn, some (.ref D), _, KX _ _ hcell, rfl⟩
    · obtain ⟨e1, _⟩ := look1 (show List.lookup x [(("__class__" : Str), cc)] = some q from h1)
      obtain ⟨e2, _⟩ := look1 (show List.lookup y [(("__class__" : Str), cc)] = some q from h2)
      rw [e1, e2]
    · cases i with
      | zero =>
        have ey : ("__class__" : Str) = y := Option.some.inj h
        subst ey
        refine ⟨cc, ?_, fun v hv => ?_⟩
        · show List.lookup ("__class__" : Str) [(("__class__" : Str), cc)] = some cc
          simp [List.lookup]
        · have ev : V.ref D = v := Option.some.inj (Option.some.inj hv)
          subst ev
          exact ⟨.ref D, rfl, _, KX _ _ hcell, rfl⟩
      | succ i => simp at h
  have hnoc : ∀ x ∈ scope.names, x.2 ≠ .cell := S.nocell
  have hloc : ∀ y ∈ ([("self" : Str), fld].zip us), scope.names.lookup y.1 = some .local := fun ⟨n, u⟩ hy => S.par n (List.of_mem_zip hy).1
  refine ks_codeAny_call_defAt (fd := fnX "__init__" qual params _ scope [("__class__", cc)] dV kV doc pm an (.ref c) ct) (args := args) (binds := [("self" : Str), fld].zip us) hr.depth (KX _ _ lk) rfl lim (codeRec_of KX hcd) rfl hb hnoc hloc (fun h₁ hns kp => ?_) S.co S.gen S.kind
  have I : Inv (ncx CX P w K mg base [("self" : Str), fld, ("__class__" : Str)] NFF f A outer s H E) [] (startF [("self" : Str), fld, ("__class__" : Str)] [.ref a, v] [some (.ref D)]) H { s with heap := h₁, toks := s.toks + ([("self" : Str), fld].zip us).length } := inv_startN S hr.hd e0 rfl r CA hns kp
  let X : Cx := ncx CX P w K mg base [("self" : Str), fld, ("__class__" : Str)] NFF f A outer s H E
  have hr0 : Room k X.A := hr.deeper _
  have hka : scope.names.lookup ("self" : Str) = some .local := S.par _ (by simp)
  have hkf : scope.names.lookup fld = some .local := S.par _ (by simp)
  have hkc : scope.names.lookup ("__class__" : Str) = some .free := S.frk _ (by simp)
  obtain ⟨u0, u1, rfl, r0, r1⟩ : ∃ u0 u1, us = [u0, u1] ∧ RelV (.ref a) u0 ∧ RelV v u1 := by
    cases r with
    | cons p q =>
      cases q with
      | cons p' q' =>
        cases q'
        exact ⟨_, _, rfl, p, p'⟩
  cases (show u0 = Value.ref a from r0)
  have ndP : ([("self" : Str), fld] : List Str).Nodup := by
    have q := S.nd
    simp only [List.nodup_cons, List.mem_cons, List.not_mem_nil, or_false, not_or] at q ⊢
    exact ⟨q.1.1, by simp, List.nodup_nil⟩
  have hself : ([("self" : Str), fld].zip [Value.ref a, u1]).reverse.lookup ("self" : Str) = some (.ref a) := zip_look (i := 0) ndP rfl rfl
  obtain ⟨cdD, hD⟩ := Option.isSome_iff_exists.mp hcD
  obtain ⟨t1, hx⟩ := exo_at I.hok ha
  show _root_.PySem.wpAt (model P w) X.A (.func NFF.body X.env) (execs (.Expr (.Call (.Attribute (.Call (.Name "super" p0) [] [] p1) "__init__" p2) [e] [] p3) p4 :: [.Assign [.Attribute (.Name "self" p5) fld p6] (.Name fld p7) p8]) X.env) _ _ _
  refine ks_wpAt_execs_cons (ks_wpAt_Expr_any (ks_wpAt_MethodCall (pl := pl) ?_ (hev _)) (by first | rfl | (unfold interactive; rw [show X.env.scope.kind = .function from S.kind] <;> rfl) | (unfold interactive; simp [show X.env.scope.kind = .function from S.kind])) (hsw2 _))
  refine ks_wpAt_super_base (f := f) (cc := c) (ar := ar) hks hkc (by decide) rfl (I.kIn _ _ lk) rfl hp rfl (I.kIn _ _ hcode) rfl hvs hfile htop ?_
  obtain ⟨mb, hb1, hb2⟩ := I.mod.blt
  refine ks_loadName_global S.kind hks (Calls.loadGlobal_builtin (env := X.env) (by rw [I.ok.glob]; exact I.mod.glob.keeps I.bk) hsm (by rw [I.ok.blt]; exact hb1.keeps I.bk) ((hb2 ("super" : Str) (by decide)).trans Boot.«super») ⟨rfl, ?_⟩)
  refine wpAny_loadName_free S.kind hkc rfl ⟨_, I.kIn _ _ hcell, rfl⟩ ?_
  rw [har]
  refine wpAny_loadName_local S.kind hka hns hself ?_
  obtain ⟨oD, hD1, hD2⟩ : ∃ oD, K.lookup D = some oD ∧ oD.data = .cls cdD := by
    unfold clsIn at hD
    split at hD
    · rename_i c' d' cd' sl' ho
      cases hD
      exact ⟨_, ho, rfl⟩
    · cases hD
  have hD1' := I.kIn _ _ hD1
  refine ks_wpAny_isType_cls hD1' hD2 ⟨rfl, ?_⟩
  obtain ⟨nm, q, NN, bs, bm, sn, sub, ab, col, dd, k0, k1, k2, k3, k5, hC, hbm⟩ := SC.ox.cls
  refine ks_wpAny_call_super hD1' hD2 hx rfl (fun c e => by cases e) (looks_mroIn I.kIn SC.sD) (fun h' e1 kp1 => ?_)
  have I1 : Inv X [] (startF [("self" : Str), fld, ("__class__" : Str)] [.ref a, v] [some (.ref D)]) H { s with heap := h', toks := s.toks + ([("self" : Str), fld].zip [Value.ref a, u1]).length } := I.kept kp1
  have hcC : ∃ cd, clsIn K C = some cd := by
    unfold clsIn
    rw [hC]
    exact ⟨_, rfl⟩
  obtain ⟨cdC, hcC⟩ := hcC
  have hx1 := kp1 _ _ hx
  have hxC : a ≠ C := fun z => by
    have y := I1.kIn _ _ hC
    rw [← z, hx1] at y
    cases y
  have IA : InstAt h' a ({ cls := .ref C, dict := none, data := .fields #[.ref t1, .none, .none, .none, .bool false, .none] } : Obj) C none := ⟨hx1, rfl, rfl, trivial⟩
  have hal := SC.al
  unfold ks_superIn at hal
  rw [hcC] at hal
  refine kxs_getMethod kxs_ValueError (l₀ := cdC.mro) e1 (looks_opaque I1.kIn hop) (fun A Q E s k q => wpAny_bind ((looks_clsIn I1.kIn hcC) A _ E s k (wpAny_pure q))) rfl I1.kIn hal (IA.type.andThen (looks_subIn I1.kIn SC.sub)) hxC (by decide) ?_
  show wpAny (model P w) X.A (callWith p3 (.ref h'.objs.size) [] (backTo p3 (starEach [e] X.env)) []) _ _ _
  have hmw : (h'.push (kxs_mw "ValueError.__init__" a)).get? h'.objs.size = some (kxs_mw "ValueError.__init__" a) := Heap.get?_push_size h' rfl
  have I2 : Inv X [(h'.objs.size, kxs_mw "ValueError.__init__" a)] (startF [("self" : Str), fld, ("__class__" : Str)] [.ref a, v] [some (.ref D)]) H
      { s with heap := h'.push (kxs_mw "ValueError.__init__" a), toks := s.toks + ([("self" : Str), fld].zip [Value.ref a, u1]).length + 1 } := by
    have J : Inv X [] (startF [("self" : Str), fld, ("__class__" : Str)] [.ref a, v] [some (.ref D)]) H { s with heap := h'.push (kxs_mw "ValueError.__init__" a), toks := s.toks + ([("self" : Str), fld].zip [Value.ref a, u1]).length + 1 } :=
      I1.kept (t' := s.toks + ([("self" : Str), fld].zip [Value.ref a, u1]).length + 1) fun b o z => Heap.get?_push_of_some _ z
    refine J.pins_of fun p hp => ?_
    have ep : p = (h'.objs.size, kxs_mw "ValueError.__init__" a) := List.mem_singleton.mp hp
    subst ep
    have hlt := I1.lt
    refine ⟨hmw, I1.hok.fresh (Nat.le_refl _), Nat.ne_of_gt hlt, I1.nofs (Nat.le_refl _), fun v z => by cases z⟩
  have hPA : PA X [e] (tCons te tNil) := pa_cons (he X rfl rfl rfl rfl rfl rfl rfl rfl hr0) pa_nil (hs := hst X.env)
  refine kxs_callWith (i := "ValueError.__init__") (x := a) (by rw [hst]; rfl) ?_
  rw [hst]
  refine Calls.evalArgs_plain ?_
  show wpAny _ _ (spliced (backTo p3 ((false, eval e X.env) :: starEach [] X.env))) _ _ _
  rw [← hst]
  refine thn (hPA.run p3 _ _ _ H (fun vs H' => H' = H ∧ ∃ y, vs = [.str y]) I2 ?_) fun us s2 ⟨vs2, H2, I3, r3, eH, y, ev⟩ => ?_
  · refine hte a v H _ hpre fun y hy => ?_
    exact ⟨rfl, y, rfl⟩
  subst eH ev
  obtain ⟨hu, _⟩ := I3.pin (h'.objs.size, kxs_mw "ValueError.__init__" a) (by simp)
  refine ⟨hu, ?_⟩
  obtain ⟨t2, hx3⟩ := exo_at I3.hok ha
  have hlen : us.length ≤ sizeLine := by
    have q := r3.length
    simp at q
    rw [← q]
    decide
  obtain ⟨h3, g3, d3, t3, os3⟩ := s2
  refine wpAny_call (codeAny_of_tree ?_)
  show wpAny _ X.A.in1 (callAny (.ref h'.objs.size) ⟨us, []⟩) _ _ _
  simp only [callAny]
  refine wpAny_bind (wpAny_load hu ?_)
  simp only [kxs_mw, show (Value.type "method-wrapper" == Value.type "method" || Value.type "method-wrapper" == Value.type "builtin_function_or_method" || Value.type "method-wrapper" == Value.type "method-wrapper") = true by decide, if_true]
  refine KFB.if_so (by decide) ?_
  refine wpAny_bind (check_bound_init F.excBase_ValueError.toExcCallFacts (I3.kIn _ _ hC) hx3 rfl ?_)
  refine wpAny_bind (wpAny_pure (wpAny_pure ?_))
  refine ⟨plainId_quiet F.excBase_ValueError.init.plain _, codeAny_builtin F.excBase_ValueError.initEntry ?_⟩
  refine exc_init_tree (cls := .ref C) (t0 := t2) (dv := none) (c2 := .none) (c3 := .none) (b4 := .bool false) hx3 hlen fun h4 kp4 hx4 _ => ?_
  have I4 : Inv X [(h'.objs.size, kxs_mw "ValueError.__init__" a)] (startF [("self" : Str), fld, ("__class__" : Str)] [.ref a, v] [some (.ref D)]) H2 ⟨h4, g3, d3, t3, os3⟩ := by
    have J := I3.write (t' := t3) (x := a) (e := a) (o := exo a C none) (by rw [ha]; exact True.intro) (.inl rfl) kp4 ⟨_, hx4⟩ (exo_ok hx4)
    have eu : upd H2 a (exo a C none) = H2 := by
      funext b
      by_cases hb : b = a
      · rw [hb, upd_same, ha]
      · rw [upd_ne hb]
    rw [eu] at J
    exact J
  have I5 : Inv X [] (startF [("self" : Str), fld, ("__class__" : Str)] [.ref a, v] [some (.ref D)]) H2 ⟨h4, g3, d3, t3, os3⟩ := I4.pins_of fun p hp => by cases hp
  have hPS : PSs X [.Assign [.Attribute (.Name "self" p5) fld p6] (.Name fld p7) p8] (tOst X.K fld (tVar 0) (tVar 1)) := by
    refine pss_one (ps_ost (pe_var (i := 0) rfl (.inl hka)) (pe_var (i := 1) rfl (.inl hkf) hd1 hd2) (hsw _))
  show _root_.PySem.wpAt (model P w) X.A (.func NFF.body X.env) (execs [.Assign [.Attribute (.Name "self" p5) fld p6] (.Name fld p7) p8] X.env) _ _ _
  refine wpAt_of_wpAny ?_
  refine wpAny_mono (hPS.run [] _ _ H2 { nx := fun _ H' => Q .non H', rt := Q } I5 ?_) (fun fl s' hs => ?_) fun e s' hs => hs
  · refine ⟨v, rfl, .ref a, rfl, a, C, rfl, SC.ox, SC.nf, .inl ⟨ha, fun dx n ne => ?_⟩⟩
    exact hq dx n ne
  · cases fl with
    | ret u =>
      obtain ⟨v', σ', H', J, rv, q⟩ := hs
      exact ⟨v', H', J.os, J.bare, J.base, J.hok, rv, q⟩
    | next =>
      obtain ⟨σ', H', J, q⟩ := hs
      exact ⟨V.non, H', J.os, J.bare, J.base, J.hok, rfl, q⟩
    | brk =>
      obtain ⟨_, _, _, q⟩ := hs
      exact False.elim q
    | cont =>
      obtain ⟨_, _, _, q⟩ := hs
      exact False.elim q
end Sup

set_option Elab.async false
set_option linter.all false
set_option maxRecDepth 100000
set_option maxHeartbeats 4000000
namespace Lk
open PySem PySem.Spec PyProof.Rows L2
/-! ### more calls -/
section
variable {X : Cx}
theorem call_str_none : CallR X (.type "str") (fun xs H Q => xs = [.non] ∧ Q (.str "None") H) := by
  intro pins s σ H xs us Q I r h
  obtain ⟨rfl, q⟩ := h
  obtain ⟨u, rfl, r1⟩ := vals1 r
  cases (show u = Value.none from r1)
  exact PySem.P.str_of_none ⟨.str _, H, I.tok _, ⟨_, rfl⟩, q⟩
theorem call_str_bool : CallR X (.type "str") (fun xs H Q => ∃ b, xs = [.bl b] ∧ Q (.str (if b then "True" else "False")) H) := by
  intro pins s σ H xs us Q I r h
  obtain ⟨b, rfl, q⟩ := h
  obtain ⟨u, rfl, r1⟩ := vals1 r
  cases (show u = Value.bool b from r1)
  exact PySem.P.str_of_bool ⟨.str _, H, I.tok _, ⟨_, rfl⟩, q⟩
theorem CallR.or {f : Value} {r r' : List V → Hp → VK → Prop} (h : CallR X f r) (h' : CallR X f r') : CallR X f (fun xs H Q => r xs H Q ∨ r' xs H Q) := by
  intro pins s σ H xs us Q I rx q
  rcases q with q | q
  · exact h pins s σ H xs us Q I rx q
  · exact h' pins s σ H xs us Q I rx q
theorem call_repr_str : CallR X (.builtin "repr") (fun xs H Q => ∃ a, xs = [.str a] ∧ (reprText a).length ≤ sizeLine ∧ Q (.str (reprText a)) H) := by
  intro pins s σ H xs us Q I r h
  obtain ⟨a, rfl, hz, q⟩ := h
  obtain ⟨u, rfl, t, rfl⟩ := vals1 r
  exact PySem.P.repr_of_str ⟨.str _, H, I.tok _, ⟨_, rfl⟩, q⟩ hz
end
/-! ### a op b op c op d -/
section
variable {X : Cx} {a b c d : Expr} {ta tb tc td : TE} {pos : Pos}
def tChain3 (r r' r'' : R2) (ta tb tc td : TE) : TE := fun σ H Q => ta σ H fun x H1 => tb σ H1 fun y H2 => r x y H2 fun z H3 => ∃ k, z = .bl k ∧
  (if k = true then tc σ H3 fun w' H4 => r' y w' H4 fun z' H5 => ∃ k', z' = .bl k' ∧ (if k' = true then td σ H5 fun w2 H6 => r'' w' w2 H6 Q else Q (.bl false) H5) else Q (.bl false) H3)
theorem pe_chain3 {op op' op'' : CmpOp} {r r' r'' : R2} (ho : OpR X (compareOp op) r) (ho' : OpR X (compareOp op') r') (ho'' : OpR X (compareOp op'') r'') (ha : PE X a ta) (hb : PE X b tb) (hc : PE X c tc) (hd : PE X d td)
    (hm : lastMarks [op, op', op''] [b, c, d] = false := by with_unfolding_all rfl) : PE X (.Compare a [op, op', op''] [b, c, d] pos) (tChain3 r r' r'' ta tb tc td) := by
  refine ⟨fun pins s σ H Q I h => ?_⟩
  refine Compare_chain (thn (ha.run pins s σ H _ I h) fun v s1 ⟨x, H1, I1, r1, q1⟩ => chain_link (thn (hb.run pins s1 σ H1 _ I1 q1) fun u s2 ⟨y, H2, I2, r2, q2⟩ =>
    thn (ho pins s2 σ H2 x y v u _ I2 r1 r2 q2) fun d s3 ⟨z, H3, I3, r3, k, e, q3⟩ => ?_)) hm
  subst e
  cases r3
  refine wpAny_truthy_bool ?_
  cases k with
  | false => exact ite_ff ⟨.bl false, H3, I3, rfl, q3⟩
  | true =>
    refine ite_tt (chain_link (thn (hc.run pins s3 σ H3 _ I3 q3) fun w' s4 ⟨z', H4, I4, r4, q4⟩ => thn (ho' pins s4 σ H4 y z' u w' _ I4 r2 r4 q4) fun d' s5 ⟨z2, H5, I5, r5, k', e', q5⟩ => ?_))
    subst e'
    cases r5
    refine wpAny_truthy_bool ?_
    cases k' with
    | false => exact ite_ff ⟨.bl false, H5, I5, rfl, q5⟩
    | true => exact ite_tt (chain_last (thn (hd.run pins s5 σ H5 _ I5 q5) fun w2 s6 ⟨z3, H6, I6, r6, q6⟩ => ho'' pins s6 σ H6 z' z3 w' w2 Q I6 r4 r6 q6))
end
/-! ### data and their types -/
def tname : PyData → String
  | .none => "NoneType"
  | .bool _ => "bool"
  | .int _ => "int"
  | .str _ => "str"
  | .list _ => "list"
  | .tuple _ => "tuple"
  | .dict _ => "dict"
theorem ty_of {K : PySem.W.Frag} {H : Hp} {v : V} {d : PyData} (h : Dp K H v d) : TyX K H v (.type (tname d)) := by
  cases h with
  | non => exact .base .non
  | bl b => exact .base (.bl b)
  | int i => exact .base (.int i)
  | str x => exact .base (.str x)
  | lst h _ =>
    rcases h with (h | ⟨o, h⟩) | h
    · exact .base (.lst h)
    · exact .base (.frz h)
    · obtain ⟨o, its, n, e, c, _⟩ := h
      exact .kList e c
  | tup h _ =>
    rcases h with (h | ⟨o, h⟩) | h
    · exact .base (.tup h)
    · exact .fTuple h
    · obtain ⟨o, its, n, e, c, _⟩ := h
      exact .kTuple e c
/-- isinstance(data, T), T a built-in class -/
def isI (T : String) (d : PyData) : Bool := (kitB (tname d) T).getD false
def okT (T : String) : Bool := ["NoneType", "bool", "int", "str", "list", "tuple", "dict"].all fun t => (kitB t T).isSome
theorem kit_isI {T : String} (h : okT T = true) (d : PyData) : kitB (tname d) T = some (isI T d) := by
  have q : ∀ t ∈ ["NoneType", "bool", "int", "str", "list", "tuple", "dict"], (kitB t T).isSome = true := by
    unfold okT at h
    rw [List.all_eq_true] at h
    exact h
  have m : tname d ∈ ["NoneType", "bool", "int", "str", "list", "tuple", "dict"] := by cases d <;> simp [tname]
  obtain ⟨b, hb⟩ := Option.isSome_iff_exists.mp (q _ m)
  unfold isI
  rw [hb] <;> rfl
theorem okT_int : okT "int" = true := by decide +kernel
theorem okT_bool : okT "bool" = true := by decide +kernel
theorem okT_str : okT "str" = true := by decide +kernel
theorem okT_list : okT "list" = true := by decide +kernel
theorem okT_tuple : okT "tuple" = true := by decide +kernel
theorem okT_dict : okT "dict" = true := by decide +kernel
def rIsD (K : PySem.W.Frag) : List V → Hp → VK → Prop := fun xs H Q => ∃ (x : V) (T : String) (d : PyData), xs = [x, .ty T] ∧ okT T = true ∧ Dp K H x d ∧ Q (.bl (isI T d)) H
theorem call_isD {X : Cx} : CallR X (.builtin "isinstance") (rIsD X.K) := by
  intro pins s σ H xs us Q I r h
  obtain ⟨x, T, d, rfl, hT, hd, q⟩ := h
  exact call_isi pins s σ H _ us Q I r ⟨x, .ty T, .type (tname d), .type T, isI T d, rfl, .ty T, ty_of hd, kit_ty (kit_isI hT d), q⟩
theorem isI_int_int (i : Int) : isI "int" (.int i) = true := by show (kitB "int" "int").getD false = true; decide +kernel
theorem isI_int_bool (i : Bool) : isI "int" (.bool i) = true := by show (kitB "bool" "int").getD false = true; decide +kernel
theorem isI_int_none : isI "int" .none = false := by show (kitB "NoneType" "int").getD false = false; decide +kernel
theorem isI_int_str (i : Str) : isI "int" (.str i) = false := by show (kitB "str" "int").getD false = false; decide +kernel
theorem isI_int_list (i : List PyData) : isI "int" (.list i) = false := by show (kitB "list" "int").getD false = false; decide +kernel
theorem isI_int_tuple (i : List PyData) : isI "int" (.tuple i) = false := by show (kitB "tuple" "int").getD false = false; decide +kernel
theorem isI_bool_int (i : Int) : isI "bool" (.int i) = false := by show (kitB "int" "bool").getD false = false; decide +kernel
theorem isI_bool_bool (i : Bool) : isI "bool" (.bool i) = true := by show (kitB "bool" "bool").getD false = true; decide +kernel
theorem isI_bool_none : isI "bool" .none = false := by show (kitB "NoneType" "bool").getD false = false; decide +kernel
theorem isI_bool_str (i : Str) : isI "bool" (.str i) = false := by show (kitB "str" "bool").getD false = false; decide +kernel
theorem isI_bool_list (i : List PyData) : isI "bool" (.list i) = false := by show (kitB "list" "bool").getD false = false; decide +kernel
theorem isI_bool_tuple (i : List PyData) : isI "bool" (.tuple i) = false := by show (kitB "tuple" "bool").getD false = false; decide +kernel
theorem isI_str_int (i : Int) : isI "str" (.int i) = false := by show (kitB "int" "str").getD false = false; decide +kernel
theorem isI_str_bool (i : Bool) : isI "str" (.bool i) = false := by show (kitB "bool" "str").getD false = false; decide +kernel
theorem isI_str_none : isI "str" .none = false := by show (kitB "NoneType" "str").getD false = false; decide +kernel
theorem isI_str_str (i : Str) : isI "str" (.str i) = true := by show (kitB "str" "str").getD false = true; decide +kernel
theorem isI_str_list (i : List PyData) : isI "str" (.list i) = false := by show (kitB "list" "str").getD false = false; decide +kernel
theorem isI_str_tuple (i : List PyData) : isI "str" (.tuple i) = false := by show (kitB "tuple" "str").getD false = false; decide +kernel
theorem isI_tuple_int (i : Int) : isI "tuple" (.int i) = false := by show (kitB "int" "tuple").getD false = false; decide +kernel
theorem isI_tuple_bool (i : Bool) : isI "tuple" (.bool i) = false := by show (kitB "bool" "tuple").getD false = false; decide +kernel
theorem isI_tuple_none : isI "tuple" .none = false := by show (kitB "NoneType" "tuple").getD false = false; decide +kernel
theorem isI_tuple_str (i : Str) : isI "tuple" (.str i) = false := by show (kitB "str" "tuple").getD false = false; decide +kernel
theorem isI_tuple_list (i : List PyData) : isI "tuple" (.list i) = false := by show (kitB "list" "tuple").getD false = false; decide +kernel
theorem isI_tuple_tuple (i : List PyData) : isI "tuple" (.tuple i) = true := by show (kitB "tuple" "tuple").getD false = true; decide +kernel
theorem isI_list_int (i : Int) : isI "list" (.int i) = false := by show (kitB "int" "list").getD false = false; decide +kernel
theorem isI_list_bool (i : Bool) : isI "list" (.bool i) = false := by show (kitB "bool" "list").getD false = false; decide +kernel
theorem isI_list_none : isI "list" .none = false := by show (kitB "NoneType" "list").getD false = false; decide +kernel
theorem isI_list_str (i : Str) : isI "list" (.str i) = false := by show (kitB "str" "list").getD false = false; decide +kernel
theorem isI_list_list (i : List PyData) : isI "list" (.list i) = true := by show (kitB "list" "list").getD false = true; decide +kernel
theorem isI_list_tuple (i : List PyData) : isI "list" (.tuple i) = false := by show (kitB "tuple" "list").getD false = false; decide +kernel
/-! ### heaps: what stands, but for one object -/
/-- all that was tracked, but at S, is as it was -/
def Ext (S : Addr) (H H' : Hp) : Prop := ∀ b o, b ≠ S → H b = some o → H' b = some o
theorem Ext.refl (S : Addr) (H : Hp) : Ext S H H := fun _ _ _ h => h
theorem Ext.trans {S : Addr} {H H1 H2 : Hp} (a : Ext S H H1) (b : Ext S H1 H2) : Ext S H H2 := fun c o n h => b c o n (a c o n h)
theorem Ext.of {S : Addr} {H H' : Hp} (e : Same H H') : Ext S H H' := fun b o _ h => e b o h
theorem Ext.new {S : Addr} {H : Hp} {p : Addr} {o : HO} (h : H p = none) : Ext S H (upd H p o) := fun a u _ e => by
  rw [upd_ne (ne_of_none e h)]
  exact e
theorem Ext.at {S : Addr} {H : Hp} {o : HO} : Ext S H (upd H S o) := fun a u n e => by
  rw [upd_ne n]
  exact e
theorem same_new {H : Hp} {p : Addr} {o : HO} (h : H p = none) : Same H (upd H p o) := fun a u e => by
  rw [upd_ne (ne_of_none e h)]
  exact e
theorem same_mut {H H' : Hp} {p : Addr} {o : HO} (e : Same H H') (h : H p = none) : Same H (upd H' p o) := fun a u ha => by
  rw [upd_ne (ne_of_none ha h)]
  exact e a u ha
/-- the heap without S -/
def hid (S : Addr) (H : Hp) : Hp := fun b => if b = S then none else H b
theorem hid_le {S : Addr} {H : Hp} : Same (hid S H) H := fun b o h => by
  unfold hid at h
  split at h
  · cases h
  · exact h
theorem hid_ext {S : Addr} {H H' : Hp} (e : Ext S H H') : Same (hid S H) (hid S H') := fun b o h => by
  unfold hid at h ⊢
  split at h
  · cases h
  · rename_i n
    rw [if_neg n]
    exact e b o n h
theorem hid_same {S : Addr} {H H' : Hp} (e : Same H H') : Same (hid S H) (hid S H') := hid_ext (.of e)
theorem hid_at {S b : Addr} {H : Hp} (n : b ≠ S) : hid S H b = H b := if_neg n
theorem seqT_same {K : PySem.W.Frag} {H H' : Hp} {a : Addr} {xs : List V} (e : Same H H') (h : SqT K H a xs) : SqT K H' a xs := by
  rcases h with (h | ⟨o, h⟩) | h
  · exact .inl (.inl (e _ _ h))
  · exact .inl (.inr ⟨o, e _ _ h⟩)
  · exact .inr h
mutual
theorem dp_same {K : PySem.W.Frag} {H H' : Hp} (e : Same H H') : ∀ {d : PyData} {v : V}, Dp K H v d → Dp K H' v d
  | .none, _, h => by cases h; exact .non
  | .bool b, _, h => by cases h; exact .bl b
  | .int i, _, h => by cases h; exact .int i
  | .str x, _, h => by cases h; exact .str x
  | .list ds, _, h => by cases h with | lst h1 h2 => exact .lst (e.seq h1) (dpa_same e h2)
  | .tuple ds, _, h => by cases h with | tup h1 h2 => exact .tup (seqT_same e h1) (dpa_same e h2)
  | .dict _, _, h => by cases h
theorem dpa_same {K : PySem.W.Frag} {H H' : Hp} (e : Same H H') : ∀ {ds : List PyData} {vs : List V}, DpAll K H vs ds → DpAll K H' vs ds
  | [], _, h => by cases h; exact .nil
  | _ :: _, _, h => by cases h with | cons h1 h2 => exact .cons (dp_same e h1) (dpa_same e h2)
end
theorem dpa_ints {K : PySem.W.Frag} {H : Hp} : ∀ (ns : List Int), DpAll K H (ns.map V.int) (ns.map PyData.int)
  | [] => .nil
  | n :: r => .cons (.int n) (dpa_ints r)
/-! ### isinstance of a caught error (its own dict told), one class or a written tuple of classes -/
/-- what the class D must say -/
structure ExD (K : PySem.W.Frag) (D : Addr) : Prop where
  hc : (PySem.W.clsIn K D).isSome = true
  hg : PySem.W.findIn K (.ref D) "__getattribute__" = some (some (.builtin "BaseException.__getattribute__"))
  hk : PySem.W.findIn K (.ref D) "__getattr__" = some none
  hs : PySem.W.subIn K (.ref D) (.type "BaseException") = some true
  ha : PySem.W.findIn K (.ref D) "__class__" = some (some (.builtin "object.__class__"))
  hn : PySem.W.specialIn K (.builtin "object.__class__") "__get__" = some (some (.builtin "getset_descriptor.__get__"))
  ht : PySem.W.takesIn K (.builtin "object.__class__") = some true
  hm : PySem.W.mroIn K D (.type "object") = some true
section
variable {X : Cx} {a D : Addr} {d : Option Addr} {oe : Obj} {pn : List (Addr × Obj)}
theorem inst_of {pins : List (Addr × Obj)} {σ : L2.St} {H : Hp} {s : Shared} {dd : Addr} {fs : List (Str × V)} (I : Inv (X.suite a ((a, oe) :: pn)) pins σ H s) (hz : Zc (.ref D) d oe) (hf : ∃ vs, oe.data = .fields vs) (ed : d = some dd) (hd : H dd = some (.xd fs)) :
    ∃ od, PySem.W.InstAt s.heap a oe D (some od) := by
  obtain ⟨hget, _⟩ := I.pin (a, oe) (List.mem_append_left _ List.mem_cons_self)
  obtain ⟨vs, hv⟩ := hf
  have hx : ObjOk X.prog X.w H s.heap dd (.xd fs) := I.hok dd _ hd
  obtain ⟨mA, hns, _⟩ := hx
  obtain ⟨od, ho, _⟩ := lookIn_ns hns
  exact ⟨od, hget, hz.1, by unfold PySem.W.notCls; rw [hv] <;> rfl, by rw [hz.2, ed]; exact ho⟩
def rIsX (K : PySem.W.Frag) (D a : Addr) (cls : Value) (d : Option Addr) : List V → Hp → VK → Prop := fun xs H Q => ∃ (c : V) (cv : Value) (b : Bool) (dd : Addr) (fs : List (Str × V)), xs = [.ref a, c] ∧ ClsV c cv ∧ cls = .ref D ∧ d = some dd ∧ H dd = some (.xd fs) ∧ PySem.W.kitOne K (.ref D) cv = some b ∧ Q (.bl b) H
theorem call_isX {cls : Value} (C : ExD X.K D) (hz : Zc cls d oe) (hf : ∃ vs, oe.data = .fields vs) : CallR (X.suite a ((a, oe) :: pn)) (.builtin "isinstance") (rIsX X.K D a cls d) := by
  intro pins s σ H xs us Q I r h
  obtain ⟨c, cv, b, dd, fs, rfl, hcv, ecl, ed, hd, e, q⟩ := h
  subst ecl
  obtain ⟨u1, u2, rfl, r1, r2⟩ := vals2 r
  cases (show u1 = Value.ref a from r1)
  have ec := hcv.eq r2
  subst ec
  obtain ⟨od, J⟩ := inst_of I hz hf ed hd
  exact PySem.W.kia_one (PySem.W.kitx_exc C.hc C.hg C.hk C.hs C.ha C.hn C.ht C.hm) I.kIn J e (fun z => nomatch z) fun tk => ⟨.bl b, H, I.tok tk, rfl, q⟩
def rIsXT (K : PySem.W.Frag) (D a : Addr) (cls : Value) (d : Option Addr) : List V → Hp → VK → Prop := fun xs H Q => ∃ (tp : Addr) (cs : List V) (us : List Value) (b : Bool) (dd : Addr) (fs : List (Str × V)), xs = [.ref a, .ref tp] ∧ H tp = some (.tup cs) ∧ Paired ClsV cs us ∧
  cls = .ref D ∧ d = some dd ∧ H dd = some (.xd fs) ∧ PySem.W.kitAny K (.ref D) us = some b ∧ Q (.bl b) H
theorem call_isXT {cls : Value} (C : ExD X.K D) (hz : Zc cls d oe) (hf : ∃ vs, oe.data = .fields vs) : CallR (X.suite a ((a, oe) :: pn)) (.builtin "isinstance") (rIsXT X.K D a cls d) := by
  intro pins s σ H xs us Q I r h
  obtain ⟨tp, cs, ws, b, dd, fs, rfl, hT, k, ecl, ed, hd, e, q⟩ := h
  subst ecl
  obtain ⟨u1, u2, rfl, r1, r2⟩ := vals2 r
  cases (show u1 = Value.ref a from r1)
  cases (show u2 = Value.ref tp from r2)
  obtain ⟨od, J⟩ := inst_of I hz hf ed hd
  obtain ⟨_, its, rv, o, h1, h2, n, h3⟩ := (show ObjOk X.prog X.w H s.heap tp (.tup cs) from I.hok tp _ hT)
  have e3 := ClsV.all k rv
  subst e3
  obtain ⟨oc, od', dt, sl⟩ := o
  simp only at h2 h3
  subst h2 h3
  exact PySem.W.kia_tup (PySem.W.kitx_exc C.hc C.hg C.hk C.hs C.ha C.hn C.ht C.hm) I.kIn J h1 e (fun z => nomatch z) fun tk => ⟨.bl b, H, I.tok tk, rfl, q⟩
end
/-! ### tests whose answer is known -/
theorem ifT {c : Bool} {A B : Prop} (hc : c = true) (h : A) : if c = true then A else B := by
  rw [if_pos hc]
  exact h
theorem ifF {c : Bool} {A B : Prop} (hc : c = false) (h : B) : if c = true then A else B := by
  rw [hc, if_neg Bool.false_ne_true]
  exact h
theorem if2 {c : Bool} {A B : Prop} (h1 : c = true → A) (h2 : c = false → B) : if c = true then A else B := by
  cases c with
  | true => exact iteT (h1 rfl)
  | false => exact iteF (h2 rfl)
theorem len_int {i : Int} {k : Nat} (hk : 0 < k) (h : i.natAbs < 10 ^ k) : (Str.ofString (toString i)).length ≤ k + 1 := by
  rw [PySem.ofString_length]
  exact int_text_length_le10 hk h
theorem log_int {i : Int} (h : i.natAbs < 10 ^ 18) : i.natAbs.log2 < 1920 := by
  by_cases h0 : i.natAbs = 0
  · rw [h0]; decide
  · rw [Nat.log2_lt h0]
    exact Nat.lt_of_lt_of_le h (by decide +kernel)
theorem tup_of {d : PyData} (h : isI "tuple" d = true) : ∃ ds, d = .tuple ds := by
  cases d with
  | tuple ds => exact ⟨ds, rfl⟩
  | none => rw [isI_tuple_none] at h; cases h
  | bool b => rw [isI_tuple_bool] at h; cases h
  | int b => rw [isI_tuple_int] at h; cases h
  | str b => rw [isI_tuple_str] at h; cases h
  | list b => rw [isI_tuple_list] at h; cases h
  | dict b =>
    have e : isI "tuple" (.dict b) = false := by show (kitB "dict" "tuple").getD false = false; decide +kernel
    rw [e] at h; cases h
theorem lst_of {d : PyData} (h : isI "list" d = true) : ∃ ds, d = .list ds := by
  cases d with
  | list ds => exact ⟨ds, rfl⟩
  | none => rw [isI_list_none] at h; cases h
  | bool b => rw [isI_list_bool] at h; cases h
  | int b => rw [isI_list_int] at h; cases h
  | str b => rw [isI_list_str] at h; cases h
  | tuple b => rw [isI_list_tuple] at h; cases h
  | dict b =>
    have e : isI "list" (.dict b) = false := by show (kitB "dict" "list").getD false = false; decide +kernel
    rw [e] at h; cases h
theorem isW_aux (d : PyData) (h : isI "int" d = true) : (∃ i, d = .int i) ∨ ∃ b, d = .bool b := by
  cases d with
  | int ds => exact .inl ⟨ds, rfl⟩
  | bool b => exact .inr ⟨b, rfl⟩
  | none => rw [isI_int_none] at h; cases h
  | list b => rw [isI_int_list] at h; cases h
  | str b => rw [isI_int_str] at h; cases h
  | tuple b => rw [isI_int_tuple] at h; cases h
  | dict b =>
    have e : isI "int" (.dict b) = false := by show (kitB "dict" "int").getD false = false; decide +kernel
    rw [e] at h; cases h
theorem dpa_len {K : PySem.W.Frag} {H : Hp} : ∀ {vs : List V} {ds : List PyData}, DpAll K H vs ds → vs.length = ds.length
  | _, [], h => by cases h; rfl
  | _, _ :: _, h => by cases h with | cons _ h2 => simp [dpa_len h2]
/-- the heap behind the making of an own error -/
theorem same_exc {H : Hp} {a dx : Addr} {o1 o2 o3 o4 : HO} (na : H a = none) (nd : upd H a o1 dx = none) (ne : dx ≠ a) : Same H (upd (del (upd (upd (upd H a o1) dx o2) a o3) a) dx o4) := fun b o h => by
  have hba : b ≠ a := ne_of_none h na
  have hbd : b ≠ dx := by
    rw [upd_ne ne] at nd
    exact ne_of_none h nd
  rw [upd_ne hbd, del_ne hba, upd_ne hba, upd_ne hbd, upd_ne hba]
  exact h
theorem eqv_self {d : PyData} (h : SeqAt.shaped d = true) : PyData.eqv d d = true := SeqAt.eqv_refl d (SeqAt.canLay_of_shaped h)
/-- of equal data == says True -/
theorem q_eqv {d : PyData} {Q : VK} {H : Hp} (h : SeqAt.shaped d = true) (q : Q (.bl true) H) : Q (.bl (PyData.eqv d d)) H := by
  rw [eqv_self h]
  exact q
/-! ### rules whose readings name K alone (for the block of a comprehension) -/
section
variable {X : Cx} {K : PySem.W.Frag}
theorem ixTK (h : X.K = K) : IxR X (rIxT K) := by subst h; exact ix_tup
theorem ixLK (h : X.K = K) : IxR X (rIxL K) := by subst h; exact ix_list
theorem lenK (h : X.K = K) : CallR X (.builtin "len") (fun xs H Q => ∃ p ys, xs = [.ref p] ∧ (SqL K H p ys ∨ SqT K H p ys) ∧ Q (.int ys.length) H) := by subst h; exact call_len_seq
theorem isDK (h : X.K = K) : CallR X (.builtin "isinstance") (rIsD K) := by subst h; exact call_isD
theorem eqDK (h : X.K = K) (hu : X.A.units + 64 < cLine) : OpR X (compareOp .Eq) (rEqD K) := by subst h; exact op_eqD hu
theorem neDK (h : X.K = K) (hu : X.A.units + 64 < cLine) : OpR X (compareOp .NotEq) (rNeD K) := by subst h; exact op_neD hu
end
/-! ### what evaluates to a value and leaves the heap as it is -/
def Vl (te : TE) (σ : L2.St) (H : Hp) (v : V) : Prop := ∀ Q : VK, Q v H → te σ H Q
section
variable {K : PySem.W.Frag} {σ : L2.St} {H : Hp} {ta tb tc : TE} {v u : V} {D : Ends} {i : Nat}
theorem vl_var (h : σ[i]? = some (some v)) : Vl (tVar i) σ H v := fun _ q => ⟨v, h, q⟩
theorem vl_c : Vl (tC v) σ H v := fun _ q => q
theorem vl_op {r : R2} {x y z : V} (ha : Vl ta σ H x) (hb : Vl tb σ H y) (hr : ∀ Q : VK, Q z H → r x y H Q) : Vl (tOp r ta tb) σ H z := fun Q q => ha _ (hb _ (hr Q q))
theorem vl_I0 {g : Int → Int → V} {x y : Int} (ha : Vl ta σ H (.int x)) (hb : Vl tb σ H (.int y)) : Vl (tOp (rI0 g) ta tb) σ H (g x y) := vl_op ha hb fun _ q => ⟨x, y, rfl, rfl, q⟩
theorem vl_ixT {p : Addr} {xs : List V} {j : Int} (ha : Vl ta σ H (.ref p)) (hb : Vl tb σ H (.int j)) (h : SqT K H p xs) (hj : atI xs j = some v) : Vl (tOp (rIxT K) ta tb) σ H v := vl_op ha hb fun _ q => ⟨p, xs, j, v, rfl, rfl, h, hj, q⟩
theorem vl_ixL {p : Addr} {xs : List V} {j : Int} (ha : Vl ta σ H (.ref p)) (hb : Vl tb σ H (.int j)) (h : SqL K H p xs) (hj : atI xs j = some v) : Vl (tOp (rIxL K) ta tb) σ H v := vl_op ha hb fun _ q => ⟨p, xs, j, v, rfl, rfl, h, hj, q⟩
theorem vl_eq (ha : Vl ta σ H v) (hb : Vl tb σ H u) (hs : scal v u = true) : Vl (tOp rEq ta tb) σ H (.bl (decide (v = u))) := vl_op ha hb fun _ q => ⟨hs, q⟩
theorem vl_ne (ha : Vl ta σ H v) (hb : Vl tb σ H u) (hs : scal v u = true) : Vl (tOp rNe ta tb) σ H (.bl (!decide (v = u))) := vl_op ha hb fun _ q => ⟨hs, q⟩
theorem vl_and {a b : Bool} (ha : Vl ta σ H (.bl a)) (hb : a = true → Vl tb σ H (.bl b)) : Vl (tAndV ta tb) σ H (.bl (a && b)) := fun Q q => ha _ ⟨a, rfl, by
  cases a with
  | true => exact iteT (hb rfl Q q)
  | false => exact iteF q⟩
theorem vl_or {a b : Bool} (ha : Vl ta σ H (.bl a)) (hb : a = false → Vl tb σ H (.bl b)) : Vl (tOrV ta tb) σ H (.bl (a || b)) := fun Q q => ha _ ⟨a, rfl, by
  cases a with
  | true => exact iteT q
  | false => exact iteF (hb rfl Q q)⟩
theorem vl_not {a : Bool} (ha : Vl ta σ H (.bl a)) : Vl (tNotV ta) σ H (.bl (!a)) := fun Q q => ha _ ⟨a, rfl, q⟩
theorem vl_is {w : V} (h : Vl ta σ H v) (e : v = w) : Vl ta σ H w := e ▸ h
/-- two comparisons of ints in a chain -/
theorem vl_chain {f g : Int → Int → Bool} {x y z : Int} (ha : Vl ta σ H (.int x)) (hb : Vl tb σ H (.int y)) (hc : Vl tc σ H (.int z)) :
    Vl (tChain (rI0 fun i j => .bl (f i j)) (rI0 fun i j => .bl (g i j)) ta tb tc) σ H (.bl (f x y && g y z)) := fun Q q => ha _ (hb _ ⟨x, y, rfl, rfl, f x y, rfl, by
  cases e : f x y with
  | true =>
    rw [e] at q
    exact iteT (hc _ ⟨y, z, rfl, rfl, q⟩)
  | false =>
    rw [e] at q
    exact iteF q⟩)
theorem st_set (h : Vl ta σ H v) (q : D.nx (σ.set i (some v)) H) : tAsg ta (gName i) D σ H := h _ q
theorem st_ret (h : Vl ta σ H v) (q : D.rt v H) : tRet ta D σ H := h _ q
/-- a test by its value -/
theorem tt_val {b : Bool} {Q : Bool → Hp → Prop} (h : Vl ta σ H (.bl b)) (q : Q b H) : tTest ta σ H Q := h _ ⟨b, rfl, q⟩
theorem tb_val {b : Bool} {Q : Bool → Hp → Prop} (h : Vl ta σ H (.bl b)) (q : Q b H) : tB ta σ H Q := h _ ⟨b, rfl, q⟩
theorem sif_test {b : Bool} {t1 t2 : TS} (h : Vl ta σ H (.bl b)) (h1 : b = true → t1 D σ H) (h2 : b = false → t2 D σ H) : tIfS (tTest ta) t1 t2 D σ H := by
  refine tt_val h ?_
  cases b with
  | true => exact iteT (h1 rfl)
  | false => exact iteF (h2 rfl)
end
theorem lk1 {x : Str} {v : V} : List.lookup x [(x, v)] = some v := by simp [List.lookup]
theorem kit3 {K : PySem.W.Frag} {t a b c : Value} (h1 : PySem.W.kitOne K t a = some false) (h2 : PySem.W.kitOne K t b = some false) (h3 : PySem.W.kitOne K t c = some false) : PySem.W.kitAny K t [a, b, c] = some false :=
  kitAny_cons h1 (fun _ => kitAny_cons h2 (fun _ => kitAny_cons h3 (fun _ => kitAny_nil) (fun z => Bool.noConfusion z)) (fun z => Bool.noConfusion z)) (fun z => Bool.noConfusion z)
end Lk

set_option Elab.async false
set_option linter.all false
set_option maxRecDepth 100000
set_option maxHeartbeats 4000000
/-! the stream that a law draws from; lists of numbers; grids -/
namespace Kx
open PySem PySem.Spec PyProof.Rows L2 Lk
/-- the stream of a script, at S: its cells (at c), the next place, what is left of the last number -/
def Stm (S c : Addr) (H : Hp) : Prop := ∃ (ns : List Int) (p : Nat) (v : Int), H S = some (.lst [.ref c, .int (p : Int), .int v]) ∧ H c = some (.lst (ns.map V.int)) ∧ ns.length ≤ 63 ∧ p ≤ ns.length ∧ 0 ≤ v
theorem take_map {α : Type} {l : List α} {i : Nat} {x : α} (h : l[i]? = some x) : l.take (i + 1) = l.take i ++ [x] := by
  rw [List.take_succ, h]
  rfl
theorem map_get {gs : List Int} {i : Nat} (h : i < gs.length) : (gs.map V.int)[i]? = some (V.int gs[i]) := by
  rw [List.getElem?_map, List.getElem?_eq_getElem h] <;> rfl
theorem map_some {gs : List Int} {i : Nat} {x : V} (h : (gs.map V.int)[i]? = some x) : ∃ n, gs[i]? = some n ∧ x = V.int n := by
  rw [List.getElem?_map] at h
  cases e : gs[i]? with
  | none => rw [e] at h; cases h
  | some n => rw [e] at h; exact ⟨n, rfl, (Option.some.inj h).symm⟩
section
variable {S c p : Addr} {H H' : Hp} {o : HO}
theorem Stm.ne (h : Stm S c H) : c ≠ S := fun e => by
  obtain ⟨ns, q, v, hS, hC, _⟩ := h
  rw [e, hS] at hC
  cases ns with
  | nil => cases hC
  | cons n r =>
    have z := HO.lst.inj (Option.some.inj hC)
    cases (List.cons.inj z).1
theorem ext_ne (hS : Stm S c H) (hp : H p = none) : p ≠ S := fun e => by
  obtain ⟨_, _, _, h, _⟩ := hS
  rw [e, h] at hp
  cases hp
theorem ext_nc (hS : Stm S c H) (hp : H p = none) : p ≠ c := fun e => by
  obtain ⟨_, _, _, _, h, _⟩ := hS
  rw [e, h] at hp
  cases hp
theorem ext_free (hS' : Stm S c H') (e : Ext S H H') (hp : H' p = none) : H p = none := by
  cases h : H p with
  | none => rfl
  | some o =>
    rw [e p o (ext_ne hS' hp) h] at hp
    cases hp
theorem stm_put (hS : Stm S c H) (n1 : p ≠ S) (n2 : p ≠ c) : Stm S c (upd H p o) := by
  obtain ⟨ns, q, v, h1, h2, h3⟩ := hS
  exact ⟨ns, q, v, by rw [upd_ne n1.symm]; exact h1, by rw [upd_ne n2.symm]; exact h2, h3⟩
theorem stm_new (hS : Stm S c H) (hp : H p = none) : Stm S c (upd H p o) := stm_put hS (ext_ne hS hp) (ext_nc hS hp)
theorem stm_same (hS : Stm S c H) (e : Same H H') : Stm S c H' := by
  obtain ⟨ns, q, v, h1, h2, h3⟩ := hS
  exact ⟨ns, q, v, e _ _ h1, e _ _ h2, h3⟩
end
/-- at G a list of these numbers, which is not the stream -/
def Lst (S c G : Addr) (gs : List Int) (H : Hp) : Prop := G ≠ S ∧ G ≠ c ∧ H G = some (.lst (gs.map V.int))
theorem Lst.ext {S c G : Addr} {gs : List Int} {H H' : Hp} (e : Ext S H H') (h : Lst S c G gs H) : Lst S c G gs H' := ⟨h.1, h.2.1, e _ _ h.1 h.2.2⟩
theorem Lst.sq {K : PySem.W.Frag} {S c G : Addr} {gs : List Int} {H : Hp} (h : Lst S c G gs H) : SqL K H G (gs.map V.int) := SqL.of h.2.2
/-- a mutated list that H did not know -/
theorem ext_mut {S p : Addr} {H H' : Hp} {o : HO} (e : Ext S H H') (h : H p = none) : Ext S H (upd H' p o) := fun a u n ha => by
  rw [upd_ne (ne_of_none ha h)]
  exact e a u n ha
/-- a grid of points -/
structure GridOk (gs : List Int) : Prop where
  two : 2 ≤ gs.length
  most : gs.length ≤ 11
  rng : ∀ x ∈ gs, 0 ≤ x ∧ x ≤ 1000000
  asc : gs.Pairwise (· < ·)
theorem grid_first {gs : List Int} (h : gs.Pairwise (· < ·)) (h0 : ∀ x ∈ gs, 0 ≤ x) : (gs.set 0 0).Pairwise (· < ·) := by
  cases gs with
  | nil => exact h
  | cons a r =>
    rw [List.pairwise_cons] at h
    show (0 :: r).Pairwise (· < ·)
    rw [List.pairwise_cons]
    refine ⟨fun x hx => ?_, h.2⟩
    have h1 := h.1 x hx
    have h2 := h0 a (by simp)
    omega
theorem grid_last {B : Int} : ∀ {gs : List Int} {j : Nat}, gs.Pairwise (· < ·) → (∀ x ∈ gs, x < B) → gs.length = j + 1 → (gs.set j B).Pairwise (· < ·)
  | [], j, _, _, hl => by simp at hl
  | a :: r, 0, _, _, hl => by
    have e : r = [] := by simpa using hl
    subst e
    exact List.pairwise_singleton _ _
  | a :: r, j + 1, h, hb, hl => by
    rw [List.pairwise_cons] at h
    show (a :: r.set j B).Pairwise (· < ·)
    rw [List.pairwise_cons]
    refine ⟨fun x hx => ?_, grid_last h.2 (fun x hx => hb x (List.mem_cons_of_mem _ hx)) (by simpa using hl)⟩
    rcases List.mem_or_eq_of_mem_set hx with hx | rfl
    · exact h.1 x hx
    · exact hb a (by simp)
/-- a tuple that is not the stream -/
theorem tup_ne {S c t : Addr} {H : Hp} {xs : List V} (hS : Stm S c H) (h : H t = some (.tup xs)) : t ≠ S := fun e => by
  obtain ⟨ns, q, v, h1, _⟩ := hS
  rw [e, h1] at h
  cases h
/-- data of which the stream is no part -/
theorem dp_hid {K : PySem.W.Frag} {S : Addr} {H : Hp} {v : V} {d : PyData} (h : Dp K (hid S H) v d) : Dp K H v d := dp_same hid_le h
theorem dp_ext {K : PySem.W.Frag} {S : Addr} {H H' : Hp} {v : V} {d : PyData} (e : Ext S H H') (h : Dp K (hid S H) v d) : Dp K (hid S H') v d := dp_same (hid_ext e) h
theorem new_tupS {K : PySem.W.Frag} {S c p : Addr} {H : Hp} {xs : List V} {ds : List PyData} (hS : Stm S c H) (np : H p = none) (h : DpAll K (hid S H) xs ds) : Dp K (hid S (upd H p (.tup xs))) (.ref p) (.tuple ds) := by
  have n := ext_ne hS np
  exact .tup (.inl (.inl (by rw [hid_at n]; exact upd_same))) (dpa_same (hid_same (same_new np)) h)
theorem new_lstS {K : PySem.W.Frag} {S c p : Addr} {H : Hp} {xs : List V} {ds : List PyData} (hS : Stm S c H) (np : H p = none) (h : DpAll K (hid S H) xs ds) : Dp K (hid S (upd H p (.lst xs))) (.ref p) (.list ds) := by
  have n := ext_ne hS np
  exact .lst (.inl (.inl (by rw [hid_at n]; exact upd_same))) (dpa_same (hid_same (same_new np)) h)
theorem keepS {K : PySem.W.Frag} {S p : Addr} {H : Hp} {o : HO} {v : V} {d : PyData} (np : H p = none) (h : Dp K (hid S H) v d) : Dp K (hid S (upd H p o)) v d := dp_same (hid_same (same_new np)) h
end Kx

set_option Elab.async false
set_option linter.all false
set_option maxRecDepth 100000
set_option maxHeartbeats 4000000
/-! what the top has left, told by a Hook: defs, own error classes, their one field's def -/
namespace Hk
open PySem PySem.Spec PyProof.Rows L2 He
/-! ### a def, its defaults told -/
abbrev Fn (K : PySem.W.Frag) (x : Str) (st : Stmt) (dvs : List V) (f : Addr) (fd : FuncData) : Prop := FunD K x x (defArgs st) (defBody st) (defScope st) dvs [] f fd
section
variable {P : Program} {w : World} {K : PySem.W.Frag} {mg : Str → Option Value} {base : Heap} {x : Str} {st : Stmt} {dvs : List V} {f : Addr} {fd : FuncData} {N ps : List Str} {k : Nat} {sp : Sp}
theorem okN (F : Fn K x st dvs f fd) (S : FnScope N ps (defScope st)) (len : ∀ vs H Q E, sp vs H Q E → vs.length = ps.length)
    (hbody : ∀ (cdv : Value) (A : Around) (outer : List Env) (s : Shared) (H : Hp) (vs : List V) (Q : VK) (E : XK), Room k (A.deeper (envOfC x (defScope st) s.heap.objs.size f cdv)) → sp vs H Q E →
      ∃ t, PSs (cxOf CX0 P w K mg base N x (defScope st) f cdv A outer s H E).nox (defBody st) t ∧ t { nx := fun _ H' => Q .non H', rt := Q } (start N vs) H) : FnOk P w K mg base CX0 (k + 1) f fd ps sp :=
  F.ok S len fun cdv A outer s H vs Q E hr hsp => by
    obtain ⟨t, h, q⟩ := hbody cdv A outer s H vs Q E hr hsp
    exact ⟨t, h.nox, q⟩
theorem okX (F : Fn K x st dvs f fd) (S : FnScope N ps (defScope st)) (len : ∀ vs H Q E, sp vs H Q E → vs.length = ps.length)
    (hbody : ∀ (cdv : Value) (A : Around) (outer : List Env) (s : Shared) (H : Hp) (vs : List V) (Q : VK) (E : XK), Room k (A.deeper (envOfC x (defScope st) s.heap.objs.size f cdv)) → sp vs H Q E →
      ∃ t, PSs (cxOf (L2.CX P w) P w K mg base N x (defScope st) f cdv A outer s H E) (defBody st) t ∧ t { nx := fun _ H' => Q .non H', rt := Q } (start N vs) H) : FnOk P w K mg base (L2.CX P w) (k + 1) f fd ps sp :=
  F.ok S len hbody
end
/-! ### own error classes -/
def oexB (K : PySem.W.Frag) (C : Addr) : Bool := (match K.lookup C with
  | some ⟨.type "type", _, .cls cd, sl⟩ => (match cd.mro, sl.toList with
    | .ref C' :: bm, [_, _, _, _, some (.builtin n), _] => C' == C && n == "ValueError.__new__" && !cd.hasDel && cd.hasDict && PySem.HandSPX.refsVE bm
    | _, _ => false)
  | _ => false) && (eqO (PySem.W.findIn K (.ref C) "__setattr__") (some (some (.builtin "object.__setattr__"))) && (decide (PySem.W.subIn K (.ref C) (.type "BaseException") = some true) && (decide (PySem.W.typeIn K (.ref C) = some (.type "type")) && PySem.W.keepIn K (.ref C))))
theorem oexB_ok {K : PySem.W.Frag} {C : Addr} (h : oexB K C = true) : OexC K C := by
  obtain ⟨q, h⟩ := ba h
  obtain ⟨h1, h⟩ := ba h
  obtain ⟨h2, h⟩ := ba h
  obtain ⟨h3, h4⟩ := ba h
  refine ⟨?_, eqO_ok h1, of_decide_eq_true h2, of_decide_eq_true h3, h4⟩
  split at q
  · rename_i dd cd sl ho
    split at q
    · rename_i C' bm k0 k1 k2 k3 n k5 hm hs
      simp only [Bool.and_eq_true, beq_iff_eq, Bool.not_eq_true'] at q
      obtain ⟨⟨⟨⟨rfl, rfl⟩, hdel⟩, hdic⟩, ht⟩ := q
      obtain ⟨nm, bs, mro, ns, qn, hd, sn, sub, ab, col, del⟩ := cd
      dsimp only at hm hdel hdic
      subst hm hdel hdic
      have hsl : sl = #[k0, k1, k2, k3, some (.builtin "ValueError.__new__"), k5] := by
        obtain ⟨l⟩ := sl
        simp only at hs
        rw [hs]
      subst hsl
      exact ⟨nm, qn, ns, bs, bm, sn, sub, ab, col, dd, k0, k1, k2, k3, k5, ho, ht⟩
    · cases q
  · cases q
def supB (K : PySem.W.Frag) (C D : Addr) (fld : Str) : Bool := oexB K C && (decide (PySem.W.subIn K (.ref C) (.type "ValueError") = some true) && (decide (PySem.W.mroIn K C (.ref D) = some true) && (eqO (PySem.W.ks_superIn K C D "__init__") (some (some (.builtin "ValueError.__init__"))) && eqO (PySem.W.findIn K (.ref C) fld) (some none))))
theorem supB_ok {K : PySem.W.Frag} {C D : Addr} {fld : Str} (h : supB K C D fld = true) : Sup.SupC K C D fld := by
  obtain ⟨h0, h⟩ := ba h
  obtain ⟨h1, h⟩ := ba h
  obtain ⟨h2, h⟩ := ba h
  obtain ⟨h3, h4⟩ := ba h
  exact ⟨oexB_ok h0, of_decide_eq_true h1, of_decide_eq_true h2, eqO_ok h3, eqO_ok h4⟩
def exdB (K : PySem.W.Frag) (D : Addr) : Bool := (PySem.W.clsIn K D).isSome && (eqO (PySem.W.findIn K (.ref D) "__getattribute__") (some (some (.builtin "BaseException.__getattribute__"))) && (eqO (PySem.W.findIn K (.ref D) "__getattr__") (some none) && (decide (PySem.W.subIn K (.ref D) (.type "BaseException") = some true) &&
  (eqO (PySem.W.findIn K (.ref D) "__class__") (some (some (.builtin "object.__class__"))) && (eqO (PySem.W.specialIn K (.builtin "object.__class__") "__get__") (some (some (.builtin "getset_descriptor.__get__"))) && (decide (PySem.W.takesIn K (.builtin "object.__class__") = some true) && decide (PySem.W.mroIn K D (.type "object") = some true)))))))
theorem exdB_ok {K : PySem.W.Frag} {D : Addr} (h : exdB K D = true) : Lk.ExD K D := by
  obtain ⟨h0, h⟩ := ba h
  obtain ⟨h1, h⟩ := ba h
  obtain ⟨h2, h⟩ := ba h
  obtain ⟨h3, h⟩ := ba h
  obtain ⟨h4, h⟩ := ba h
  obtain ⟨h5, h⟩ := ba h
  obtain ⟨h6, h7⟩ := ba h
  exact ⟨h0, eqO_ok h1, eqO_ok h2, of_decide_eq_true h3, eqO_ok h4, eqO_ok h5, of_decide_eq_true h6, of_decide_eq_true h7⟩
/-- what of the classes is asked, by names -/
inductive Ce where
  | sup (C D fld : Str)
  | ini (C D : Str)
  | exd (C : Str)
  | xf (C : Str)
  | exm (C : Str)
  | kit (C E : Str) (b : Bool)
def Ce.ok (K : PySem.W.Frag) : Ce → Bool
  | .sup C D fld => supB K (ga K C) (ga K D) fld
  | .ini C D => eqO (PySem.W.findIn K (.ref (ga K C)) "__init__") (some (some (.ref (fAd K (D, some "__init__")))))
  | .exd C => exdB K (ga K C)
  | .xf C => xfB K (ga K C)
  | .exm C => decide (PySem.W.exmOne K (.ref (ga K C)) (.ref (ga K C)) = some true)
  | .kit C E b => decide (PySem.W.kitOne K (.ref (ga K C)) (.ref (ga K E)) = some b)
/-! ### the __init__ of an own error class -/
abbrev FnI : Type := Option (Str × Str × Arguments × FuncBody × Scope × Addr × List Str × Addr)
structure IniD where
  cls : Str
  qual : Str
  params : Arguments
  body : List Stmt
  scope : Scope
def IniD.at_ (d : IniD) : Str × Option Str := (d.cls, some "__init__")
def IniD.val (d : IniD) : FnI := some ("__init__", d.qual, d.params, .stmts d.body, d.scope, mainGlobals, ["__class__"], builtinsNs)
def fnI (K : PySem.W.Frag) (p : Str × Option Str) : FnI := match K.lookup (fAd K p) with
  | some ⟨_, _, .func fd, _⟩ => some (fd.name, fd.qualname, fd.params, fd.body, fd.scope, fd.globals, fd.closure.map (·.1), fd.builtins)
  | _ => none
def cellB (K : PySem.W.Frag) (D : Addr) : List (Str × Addr) → Bool
  | [(_, cc)] => (match K.lookup cc with
    | some ⟨_, _, .cell (some (.ref D')), _⟩ => decide (D' = D)
    | _ => false)
  | _ => false
def fileB (K : PySem.W.Frag) (file : Str) : Value → Bool
  | .ref c => (match K.lookup c with
    | some ⟨_, _, .fields vs, _⟩ => (match (vs[2]? : Option Value) with
      | some (.str f _) => file == f
      | _ => false)
    | _ => false)
  | _ => false
def noneB : Value → Bool
  | .none => true
  | _ => false
def IniD.ok (file : Str) (K : PySem.W.Frag) (d : IniD) : Bool := (match K.lookup (fAd K d.at_) with
  | some ⟨_, _, .func fd, _⟩ => PySem.W.codeIn K fd.code d.qual && (fileB K file fd.code && (cellB K (ga K d.cls) fd.closure && noneB fd.defaults))
  | _ => false) && ((PySem.W.clsIn K (ga K d.cls)).isSome && (eqO (PySem.W.nsIn K cStatics "thirdparty.any") (some none) && decide (PySem.W.typeIn K (.ref (fAd K d.at_)) = some (.type "function"))))
theorem cellB_ok {K : PySem.W.Frag} {D : Addr} {cl : List (Str × Addr)} (h : cellB K D cl = true) : ∃ x cc o od sl, cl = [(x, cc)] ∧ K.lookup cc = some ⟨o, od, .cell (some (.ref D)), sl⟩ := by
  unfold cellB at h
  split at h
  · rename_i x cc
    split at h
    · rename_i o od D' sl e
      have q : D' = D := of_decide_eq_true h
      subst q
      exact ⟨_, _, _, _, _, rfl, e⟩
    · cases h
  · cases h
theorem fileB_ok {K : PySem.W.Frag} {file : Str} {cd : Value} (h : fileB K file cd = true) : ∃ c o od vs sl f t, cd = .ref c ∧ K.lookup c = some ⟨o, od, .fields vs, sl⟩ ∧ vs[2]? = some (.str f t) ∧ ((file : Str) == f) = true := by
  unfold fileB at h
  split at h
  · rename_i c
    split at h
    · rename_i o od vs sl e
      split at h
      · rename_i f t e2
        exact ⟨_, _, _, _, _, _, _, rfl, e, e2, h⟩
      · cases h
    · cases h
  · cases h
/-- the __init__: what Sup.SupF asks, its binding -/
theorem ini_ok {P : Program} {K : PySem.W.Frag} {file : Str} {d : IniD} (hf : P.main.file = file) (top : (P.main.scope.names.lookup ("super" : Str)).isSome = false) (e : fnI K d.at_ = d.val) (c : d.ok file K = true) {ps : List Str}
    (hb : ∀ (cc : Addr) (kV doc pm : Value) (an : Option Addr) (cdv ct : Value) (us : List Value), us.length = ps.length → bindArgs (PySem.W.fnX "__init__" d.qual d.params d.body d.scope [("__class__", cc)] .none kV doc pm an cdv ct) ⟨us, []⟩ = pure (ps.zip us)) :
    ∃ fd, Sup.SupF P K (ga K d.cls) (fAd K d.at_) d.qual d.params d.body d.scope fd ∧ Binds K fd ps [] := by
  obtain ⟨c1, c2⟩ := ba c
  obtain ⟨c3, c4⟩ := ba c2
  obtain ⟨c5, c6⟩ := ba c4
  unfold fnI at e
  split at c1
  · rename_i oc od fd osl lk
    rw [lk] at e
    obtain ⟨n1, n2, n3, n4, n5, n6, n7, n8, n9, n10, n11, n12, n13, n14, n15⟩ := fd
    have e2 : (some (n1, n2, n3, n4, n5, n6, n7.map (·.1), n15) : FnI) = d.val := e
    unfold IniD.val at e2
    simp only [Option.some.injEq, Prod.mk.injEq] at e2
    obtain ⟨h1, h2, h3, h4, h5, h6, h7, h8⟩ := e2
    subst h1 h2 h3 h4 h5 h6 h8
    obtain ⟨k1, c1⟩ := ba (show (PySem.W.codeIn K n13 d.qual && (fileB K file n13 && (cellB K (ga K d.cls) n7 && noneB n8))) = true from c1)
    obtain ⟨k2, c1⟩ := ba c1
    obtain ⟨k3, k4⟩ := ba c1
    obtain ⟨x, cc, cl, cld, csl, rfl, lcc⟩ := cellB_ok k3
    obtain ⟨cA, ccl, cdd, vs, ccs, fl, tf, rfl, lc, hv, hff⟩ := fileB_ok k2
    have hx : x = "__class__" := by
      have q : [x] = [("__class__" : Str)] := h7
      exact (List.cons.inj q).1
    subst hx
    have hn : n8 = .none := by
      cases n8 with
      | none => rfl
      | _ => cases k4
    subst hn
    exact ⟨_, ⟨⟨oc, od, _, n9, n10, n11, n12, cA, cc, n14, osl, ccl, cdd, vs, ccs, fl, tf, cl, cld, csl, rfl, lk, k1, lc, hv, by rw [hf]; exact hff, lcc⟩, top, c3, eqO_ok c5, of_decide_eq_true c6⟩, .all (fun us hl => hb cc n9 n10 n11 n12 (.ref cA) n14 us hl)⟩
  · cases c1
/-! ### the Hook -/
abbrev AlK : Type := AlD × (Bool × List FnI)
def obsK (fa : List Fa) (fn : List DefD) (file : Str) (ini : List IniD) (ce : List Ce) (K : PySem.W.Frag) : AlK := (obsD fa fn K, ((ini.all fun d => d.ok file K) && ce.all fun e => e.ok K, ini.map fun d => fnI K d.at_))
def valK (fn : List DefD) (ini : List IniD) : AlK := (valD fn, (true, ini.map IniD.val))
def Says (fa : List Fa) (fn : List DefD) (file : Str) (ini : List IniD) (ce : List Ce) (K : PySem.W.Frag) : Prop := obsK fa fn file ini ce K = valK fn ini
/-- what is looked at: what the module's names reach in n steps, and the model's own marks -/
def asK (g : Addr → Option Obj) (n : Nat) : List Addr := cStatics :: asD g n
def obsKG (n : Nat) (fa : List Fa) (fn : List DefD) (file : Str) (ini : List IniD) (ce : List Ce) (g : Addr → Option Obj) : AlK := obsK fa fn file ini ce (frG g (asK g n))
def hookK (n : Nat) (fa : List Fa) (fn : List DefD) (file : Str) (ini : List IniD) (ce : List Ce) : PySem.W.Hook where
  α := AlK
  obs := fun s => obsKG n fa fn file ini ce s.heap.get?
  val := fun _ => valK fn ini
  says := fun _ h => ∃ K : PySem.W.Frag, K.In h ∧ Says fa fn file ini ce K
  of := fun _ _ e => ⟨_, frG_in, e⟩
  keeps := fun _ _ _ ⟨K, hK, c⟩ k => ⟨K, PySem.W.Frag.In.keeps hK k, c⟩
theorem obsKG_eq {n : Nat} {fa : List Fa} {fn : List DefD} {file : Str} {ini : List IniD} {ce : List Ce} {g : Addr → Option Obj} {s : Shared} (h : ∀ a, g a = s.heap.get? a) : obsKG n fa fn file ini ce g = (hookK n fa fn file ini ce).obs s := by
  have e : g = s.heap.get? := funext h
  rw [e] <;> rfl
section
variable {fa : List Fa} {fn : List DefD} {file : Str} {ini : List IniD} {ce : List Ce} {K : PySem.W.Frag}
theorem Says.d (c : Says fa fn file ini ce K) : SaysD fa fn K := congrArg (fun z : AlK => z.1) c
theorem Says.i (c : Says fa fn file ini ce K) (i : Nat) {d : IniD} (h : ini[i]? = some d := by rfl) : fnI K d.at_ = d.val ∧ d.ok file K = true := by
  have c2 := (ba (show ((ini.all fun d => d.ok file K) && ce.all fun e => e.ok K) = true from congrArg (fun z : AlK => z.2.1) c)).1
  have e : ini.map (fun d => fnI K d.at_) = ini.map IniD.val := congrArg (fun z : AlK => z.2.2) c
  have e2 : (ini.map fun d => fnI K d.at_)[i]? = (ini.map IniD.val)[i]? := by rw [e]
  rw [List.getElem?_map, List.getElem?_map, h] at e2
  exact ⟨Option.some.inj e2, List.all_eq_true.mp c2 d (List.mem_of_getElem? h)⟩
theorem Says.cls (c : Says fa fn file ini ce K) (i : Nat) {e : Ce} (h : ce[i]? = some e := by rfl) : e.ok K = true := by
  have c2 := (ba (show ((ini.all fun d => d.ok file K) && ce.all fun e => e.ok K) = true from congrArg (fun z : AlK => z.2.1) c)).2
  exact List.all_eq_true.mp c2 e (List.mem_of_getElem? h)
end
end Hk

set_option Elab.async false
set_option linter.all false
set_option maxRecDepth 100000
set_option maxHeartbeats 4000000
namespace Kx
open PySem PySem.Spec PyProof.Rows L2 Lk
/-! ### the text by places -/
def top (i : Nat) : Stmt := PySem.Challenge.pw_leastshelf_k09_stretches.main.body.getD i (.Pass ⟨0, 0, 0, 0⟩)
abbrev s_shown : Stmt := top 1
abbrev s_is_whole : Stmt := top 10
abbrev s_common_stretch : Stmt := top 17
abbrev s_lies_within : Stmt := top 18
abbrev s_cut_at : Stmt := top 19
abbrev s__law_stream : Stmt := top 21
abbrev s__law_mixed : Stmt := top 22
abbrev s__law_is_number : Stmt := top 27
abbrev s__law_look_keys : Stmt := top 28
abbrev s_is_key : Stmt := top 13
abbrev s_is_stretch : Stmt := top 14
abbrev s__law_draw : Stmt := top 23
abbrev s__law_same_stretch : Stmt := top 29
abbrev s__law_pick : Stmt := top 24
abbrev s__law_two : Stmt := top 32
abbrev s__law_cut_there : Stmt := top 33
abbrev s_check_key : Stmt := top 15
abbrev s_check_stretch : Stmt := top 16
abbrev s__law_grid : Stmt := top 25
abbrev s__law_stretch : Stmt := top 26
abbrev s__law_no_key : Stmt := top 30
abbrev s__law_no_stretch : Stmt := top 31
abbrev s_law : Stmt := top 34
abbrev si_KeyFault : Stmt := inClass (top 3) 0
abbrev si_PlaceFault : Stmt := inClass (top 4) 0
theorem sc_shown : FnScope ["value"] ["value"] (defScope s_shown) := ⟨rfl, rfl, rfl, by decide +kernel, rfl, by decide +kernel, by decide +kernel⟩
theorem sc_is_whole : FnScope ["thing"] ["thing"] (defScope s_is_whole) := ⟨rfl, rfl, rfl, by decide +kernel, rfl, by decide +kernel, by decide +kernel⟩
theorem sc_common_stretch : FnScope ["one", "other", "a", "b"] ["one", "other"] (defScope s_common_stretch) := ⟨rfl, rfl, rfl, by decide +kernel, rfl, by decide +kernel, by decide +kernel⟩
theorem sc_lies_within : FnScope ["one", "other"] ["one", "other"] (defScope s_lies_within) := ⟨rfl, rfl, rfl, by decide +kernel, rfl, by decide +kernel, by decide +kernel⟩
theorem sc_cut_at : FnScope ["stretch", "border", "a", "b"] ["stretch", "border"] (defScope s_cut_at) := ⟨rfl, rfl, rfl, by decide +kernel, rfl, by decide +kernel, by decide +kernel⟩
theorem sc__law_stream : FnScope ["_law_script", "_law_cell"] ["_law_script"] (defScope s__law_stream) := ⟨rfl, rfl, rfl, by decide +kernel, rfl, by decide +kernel, by decide +kernel⟩
theorem sc__law_mixed : FnScope ["_law_cell", "_law_place", "_law_one"] ["_law_cell", "_law_place"] (defScope s__law_mixed) := ⟨rfl, rfl, rfl, by decide +kernel, rfl, by decide +kernel, by decide +kernel⟩
theorem sc__law_is_number : FnScope ["_law_thing"] ["_law_thing"] (defScope s__law_is_number) := ⟨rfl, rfl, rfl, by decide +kernel, rfl, by decide +kernel, by decide +kernel⟩
theorem sc__law_look_keys : FnScope ["_law_grid_here", "_law_keys", "_law_point", "_law_key"] ["_law_grid_here"] (defScope s__law_look_keys) := ⟨rfl, rfl, rfl, by decide +kernel, rfl, by decide +kernel, by decide +kernel⟩
theorem sc_is_key : FnScope ["thing"] ["thing"] (defScope s_is_key) := ⟨rfl, rfl, rfl, by decide +kernel, rfl, by decide +kernel, by decide +kernel⟩
theorem sc_is_stretch : FnScope ["thing", "a", "b"] ["thing"] (defScope s_is_stretch) := ⟨rfl, rfl, rfl, by decide +kernel, rfl, by decide +kernel, by decide +kernel⟩
theorem sc__law_draw : FnScope ["_law_stream_here", "_law_many", "_law_cell", "_law_value"] ["_law_stream_here", "_law_many"] (defScope s__law_draw) := ⟨rfl, rfl, rfl, by decide +kernel, rfl, by decide +kernel, by decide +kernel⟩
theorem sc__law_same_stretch : FnScope ["_law_told", "_law_due"] ["_law_told", "_law_due"] (defScope s__law_same_stretch) := ⟨rfl, rfl, rfl, by decide +kernel, rfl, by decide +kernel, by decide +kernel⟩
theorem sc__law_pick : FnScope ["_law_stream_here", "_law_many"] ["_law_stream_here", "_law_many"] (defScope s__law_pick) := ⟨rfl, rfl, rfl, by decide +kernel, rfl, by decide +kernel, by decide +kernel⟩
theorem sc__law_two : FnScope ["_law_one", "_law_other", "_law_keys", "_law_due", "_law_told", "_law_key", "_law_both", "_law_inner"] ["_law_one", "_law_other", "_law_keys"] (defScope s__law_two) := ⟨rfl, rfl, rfl, by decide +kernel, rfl, by decide +kernel, by decide +kernel⟩
theorem sc__law_cut_there : FnScope ["_law_stretch_here", "_law_border", "_law_due", "_law_told", "_law_k"] ["_law_stretch_here", "_law_border"] (defScope s__law_cut_there) := ⟨rfl, rfl, rfl, by decide +kernel, rfl, by decide +kernel, by decide +kernel⟩
theorem sc_check_key : FnScope ["key"] ["key"] (defScope s_check_key) := ⟨rfl, rfl, rfl, by decide +kernel, rfl, by decide +kernel, by decide +kernel⟩
theorem sc_check_stretch : FnScope ["stretch", "place"] ["stretch", "place"] (defScope s_check_stretch) := ⟨rfl, rfl, rfl, by decide +kernel, rfl, by decide +kernel, by decide +kernel⟩
theorem sc__law_grid : FnScope ["_law_stream_here", "_law_upper", "_law_many", "_law_wide", "_law_point", "_law_grid_here", "_law_k"] ["_law_stream_here", "_law_upper"] (defScope s__law_grid) := ⟨rfl, rfl, rfl, by decide +kernel, rfl, by decide +kernel, by decide +kernel⟩
theorem sc__law_stretch : FnScope ["_law_stream_here", "_law_grid_here", "_law_low", "_law_high"] ["_law_stream_here", "_law_grid_here"] (defScope s__law_stretch) := ⟨rfl, rfl, rfl, by decide +kernel, rfl, by decide +kernel, by decide +kernel⟩
theorem sc__law_no_key : FnScope ["_law_key", "_law_told", "e"] ["_law_key"] (defScope s__law_no_key) := ⟨rfl, rfl, rfl, by decide +kernel, rfl, by decide +kernel, by decide +kernel⟩
theorem sc__law_no_stretch : FnScope ["_law_thing", "_law_place", "_law_told", "e"] ["_law_thing", "_law_place"] (defScope s__law_no_stretch) := ⟨rfl, rfl, rfl, by decide +kernel, rfl, by decide +kernel, by decide +kernel⟩
theorem sc_law : FnScope ["_law_script", "_law_stream_here", "_law_grid_here", "_law_one", "_law_other", "_law_way", "_law_border", "_law_key", "_law_odd", "_law_thing", "_law_place", "_law_keys", "_law_good", "_law_stretch_here", "_law_told"] ["_law_script"] (defScope s_law) := ⟨rfl, rfl, rfl, by decide +kernel, rfl, by decide +kernel, by decide +kernel⟩
theorem sci_KeyFault : NdefX.NScope ["self", "key", "__class__"] ["self", "key"] ["__class__"] (defScope si_KeyFault) := NdefX.nscope_by (by decide +kernel)
theorem sci_PlaceFault : NdefX.NScope ["self", "place", "__class__"] ["self", "place"] ["__class__"] (defScope si_PlaceFault) := NdefX.nscope_by (by decide +kernel)
/-! ### the addresses and what the top has written -/
structure Ad where
  f_shown : Addr
  fd_shown : FuncData
  f_is_whole : Addr
  fd_is_whole : FuncData
  f_common_stretch : Addr
  fd_common_stretch : FuncData
  f_lies_within : Addr
  fd_lies_within : FuncData
  f_cut_at : Addr
  fd_cut_at : FuncData
  f__law_stream : Addr
  fd__law_stream : FuncData
  f__law_mixed : Addr
  fd__law_mixed : FuncData
  f__law_is_number : Addr
  fd__law_is_number : FuncData
  f__law_look_keys : Addr
  fd__law_look_keys : FuncData
  f_is_key : Addr
  fd_is_key : FuncData
  f_is_stretch : Addr
  fd_is_stretch : FuncData
  f__law_draw : Addr
  fd__law_draw : FuncData
  f__law_same_stretch : Addr
  fd__law_same_stretch : FuncData
  f__law_pick : Addr
  fd__law_pick : FuncData
  f__law_two : Addr
  fd__law_two : FuncData
  f__law_cut_there : Addr
  fd__law_cut_there : FuncData
  f_check_key : Addr
  fd_check_key : FuncData
  f_check_stretch : Addr
  fd_check_stretch : FuncData
  f__law_grid : Addr
  fd__law_grid : FuncData
  f__law_stretch : Addr
  fd__law_stretch : FuncData
  f__law_no_key : Addr
  fd__law_no_key : FuncData
  f__law_no_stretch : Addr
  fd__law_no_stretch : FuncData
  f_law : Addr
  fd_law : FuncData
  c_StoreError : Addr
  c_KeyFault : Addr
  c_PlaceFault : Addr
  c_BadKey : Addr
  c_BadStretch : Addr
  c_BadField : Addr
  c_BadBatch : Addr
  i_KeyFault : Addr
  fdi_KeyFault : FuncData
  i_PlaceFault : Addr
  fdi_PlaceFault : FuncData
structure Txt (P : Program) (K : PySem.W.Frag) (mg : Str → Option Value) (A' : Ad) : Prop where
  F_shown : Hk.Fn K "shown" s_shown [] A'.f_shown A'.fd_shown
  g_shown : mg "shown" = some (.ref A'.f_shown)
  b_shown : Binds K A'.fd_shown ["value"] []
  F_is_whole : Hk.Fn K "is_whole" s_is_whole [] A'.f_is_whole A'.fd_is_whole
  g_is_whole : mg "is_whole" = some (.ref A'.f_is_whole)
  b_is_whole : Binds K A'.fd_is_whole ["thing"] []
  F_common_stretch : Hk.Fn K "common_stretch" s_common_stretch [] A'.f_common_stretch A'.fd_common_stretch
  g_common_stretch : mg "common_stretch" = some (.ref A'.f_common_stretch)
  b_common_stretch : Binds K A'.fd_common_stretch ["one", "other"] []
  F_lies_within : Hk.Fn K "lies_within" s_lies_within [] A'.f_lies_within A'.fd_lies_within
  g_lies_within : mg "lies_within" = some (.ref A'.f_lies_within)
  b_lies_within : Binds K A'.fd_lies_within ["one", "other"] []
  F_cut_at : Hk.Fn K "cut_at" s_cut_at [] A'.f_cut_at A'.fd_cut_at
  g_cut_at : mg "cut_at" = some (.ref A'.f_cut_at)
  b_cut_at : Binds K A'.fd_cut_at ["stretch", "border"] []
  F__law_stream : Hk.Fn K "_law_stream" s__law_stream [] A'.f__law_stream A'.fd__law_stream
  g__law_stream : mg "_law_stream" = some (.ref A'.f__law_stream)
  b__law_stream : Binds K A'.fd__law_stream ["_law_script"] []
  F__law_mixed : Hk.Fn K "_law_mixed" s__law_mixed [] A'.f__law_mixed A'.fd__law_mixed
  g__law_mixed : mg "_law_mixed" = some (.ref A'.f__law_mixed)
  b__law_mixed : Binds K A'.fd__law_mixed ["_law_cell", "_law_place"] []
  F__law_is_number : Hk.Fn K "_law_is_number" s__law_is_number [] A'.f__law_is_number A'.fd__law_is_number
  g__law_is_number : mg "_law_is_number" = some (.ref A'.f__law_is_number)
  b__law_is_number : Binds K A'.fd__law_is_number ["_law_thing"] []
  F__law_look_keys : Hk.Fn K "_law_look_keys" s__law_look_keys [] A'.f__law_look_keys A'.fd__law_look_keys
  g__law_look_keys : mg "_law_look_keys" = some (.ref A'.f__law_look_keys)
  b__law_look_keys : Binds K A'.fd__law_look_keys ["_law_grid_here"] []
  F_is_key : Hk.Fn K "is_key" s_is_key [] A'.f_is_key A'.fd_is_key
  g_is_key : mg "is_key" = some (.ref A'.f_is_key)
  b_is_key : Binds K A'.fd_is_key ["thing"] []
  F_is_stretch : Hk.Fn K "is_stretch" s_is_stretch [] A'.f_is_stretch A'.fd_is_stretch
  g_is_stretch : mg "is_stretch" = some (.ref A'.f_is_stretch)
  b_is_stretch : Binds K A'.fd_is_stretch ["thing"] []
  F__law_draw : Hk.Fn K "_law_draw" s__law_draw [] A'.f__law_draw A'.fd__law_draw
  g__law_draw : mg "_law_draw" = some (.ref A'.f__law_draw)
  b__law_draw : Binds K A'.fd__law_draw ["_law_stream_here", "_law_many"] []
  F__law_same_stretch : Hk.Fn K "_law_same_stretch" s__law_same_stretch [] A'.f__law_same_stretch A'.fd__law_same_stretch
  g__law_same_stretch : mg "_law_same_stretch" = some (.ref A'.f__law_same_stretch)
  b__law_same_stretch : Binds K A'.fd__law_same_stretch ["_law_told", "_law_due"] []
  F__law_pick : Hk.Fn K "_law_pick" s__law_pick [] A'.f__law_pick A'.fd__law_pick
  g__law_pick : mg "_law_pick" = some (.ref A'.f__law_pick)
  b__law_pick : Binds K A'.fd__law_pick ["_law_stream_here", "_law_many"] []
  F__law_two : Hk.Fn K "_law_two" s__law_two [] A'.f__law_two A'.fd__law_two
  g__law_two : mg "_law_two" = some (.ref A'.f__law_two)
  b__law_two : Binds K A'.fd__law_two ["_law_one", "_law_other", "_law_keys"] []
  F__law_cut_there : Hk.Fn K "_law_cut_there" s__law_cut_there [] A'.f__law_cut_there A'.fd__law_cut_there
  g__law_cut_there : mg "_law_cut_there" = some (.ref A'.f__law_cut_there)
  b__law_cut_there : Binds K A'.fd__law_cut_there ["_law_stretch_here", "_law_border"] []
  F_check_key : Hk.Fn K "check_key" s_check_key [] A'.f_check_key A'.fd_check_key
  g_check_key : mg "check_key" = some (.ref A'.f_check_key)
  b_check_key : Binds K A'.fd_check_key ["key"] []
  F_check_stretch : Hk.Fn K "check_stretch" s_check_stretch [.int (0)] A'.f_check_stretch A'.fd_check_stretch
  g_check_stretch : mg "check_stretch" = some (.ref A'.f_check_stretch)
  b_check_stretch : Binds K A'.fd_check_stretch ["stretch", "place"] []
  F__law_grid : Hk.Fn K "_law_grid" s__law_grid [] A'.f__law_grid A'.fd__law_grid
  g__law_grid : mg "_law_grid" = some (.ref A'.f__law_grid)
  b__law_grid : Binds K A'.fd__law_grid ["_law_stream_here", "_law_upper"] []
  F__law_stretch : Hk.Fn K "_law_stretch" s__law_stretch [] A'.f__law_stretch A'.fd__law_stretch
  g__law_stretch : mg "_law_stretch" = some (.ref A'.f__law_stretch)
  b__law_stretch : Binds K A'.fd__law_stretch ["_law_stream_here", "_law_grid_here"] []
  F__law_no_key : Hk.Fn K "_law_no_key" s__law_no_key [] A'.f__law_no_key A'.fd__law_no_key
  g__law_no_key : mg "_law_no_key" = some (.ref A'.f__law_no_key)
  b__law_no_key : Binds K A'.fd__law_no_key ["_law_key"] []
  F__law_no_stretch : Hk.Fn K "_law_no_stretch" s__law_no_stretch [] A'.f__law_no_stretch A'.fd__law_no_stretch
  g__law_no_stretch : mg "_law_no_stretch" = some (.ref A'.f__law_no_stretch)
  b__law_no_stretch : Binds K A'.fd__law_no_stretch ["_law_thing", "_law_place"] []
  F_law : Hk.Fn K "law" s_law [] A'.f_law A'.fd_law
  g_law : mg "law" = some (.ref A'.f_law)
  b_law : Binds K A'.fd_law ["_law_script"] []
  dd1_check_stretch : ∃ ds : List Value, Binds K A'.fd_check_stretch ["stretch", "place"] ds ∧ Vals [.int (0)] ds
  z_abs : mg "abs" = none
  z_bool : mg "bool" = none
  z_int : mg "int" = none
  z_isinstance : mg "isinstance" = none
  z_len : mg "len" = none
  z_list : mg "list" = none
  z_max : mg "max" = none
  z_min : mg "min" = none
  z_range : mg "range" = none
  z_repr : mg "repr" = none
  z_str : mg "str" = none
  z_super : mg "super" = none
  z_tuple : mg "tuple" = none
  c_TOP : ∃ t, mg "TOP" = some (.int 1000000 t)
  m_StoreError : mg "StoreError" = some (.ref A'.c_StoreError)
  m_KeyFault : mg "KeyFault" = some (.ref A'.c_KeyFault)
  m_PlaceFault : mg "PlaceFault" = some (.ref A'.c_PlaceFault)
  m_BadKey : mg "BadKey" = some (.ref A'.c_BadKey)
  m_BadStretch : mg "BadStretch" = some (.ref A'.c_BadStretch)
  m_BadField : mg "BadField" = some (.ref A'.c_BadField)
  m_BadBatch : mg "BadBatch" = some (.ref A'.c_BadBatch)
  S_KeyFault : Sup.SupF P K A'.c_KeyFault A'.i_KeyFault "KeyFault.__init__" (defArgs si_KeyFault) (defBody si_KeyFault) (defScope si_KeyFault) A'.fdi_KeyFault
  S_PlaceFault : Sup.SupF P K A'.c_PlaceFault A'.i_PlaceFault "PlaceFault.__init__" (defArgs si_PlaceFault) (defBody si_PlaceFault) (defScope si_PlaceFault) A'.fdi_PlaceFault
  bi_KeyFault : Binds K A'.fdi_KeyFault ["self", "key"] []
  bi_PlaceFault : Binds K A'.fdi_PlaceFault ["self", "place"] []
  s_BadKey : Sup.SupC K A'.c_BadKey A'.c_KeyFault "key"
  i_BadKey : PySem.W.findIn K (.ref A'.c_BadKey) "__init__" = some (some (.ref A'.i_KeyFault))
  x_BadKey : Lk.ExD K A'.c_BadKey
  y_BadKey : XfC K A'.c_BadKey
  e_BadKey : PySem.W.exmOne K (.ref A'.c_BadKey) (.ref A'.c_BadKey) = some true
  s_BadStretch : Sup.SupC K A'.c_BadStretch A'.c_PlaceFault "place"
  i_BadStretch : PySem.W.findIn K (.ref A'.c_BadStretch) "__init__" = some (some (.ref A'.i_PlaceFault))
  x_BadStretch : Lk.ExD K A'.c_BadStretch
  y_BadStretch : XfC K A'.c_BadStretch
  e_BadStretch : PySem.W.exmOne K (.ref A'.c_BadStretch) (.ref A'.c_BadStretch) = some true
  k_BadKey_StoreError : PySem.W.kitOne K (.ref A'.c_BadKey) (.ref A'.c_StoreError) = some true
  k_BadKey_KeyFault : PySem.W.kitOne K (.ref A'.c_BadKey) (.ref A'.c_KeyFault) = some true
  k_BadKey_PlaceFault : PySem.W.kitOne K (.ref A'.c_BadKey) (.ref A'.c_PlaceFault) = some false
  k_BadKey_BadStretch : PySem.W.kitOne K (.ref A'.c_BadKey) (.ref A'.c_BadStretch) = some false
  k_BadKey_BadField : PySem.W.kitOne K (.ref A'.c_BadKey) (.ref A'.c_BadField) = some false
  k_BadKey_BadBatch : PySem.W.kitOne K (.ref A'.c_BadKey) (.ref A'.c_BadBatch) = some false
  k_BadStretch_StoreError : PySem.W.kitOne K (.ref A'.c_BadStretch) (.ref A'.c_StoreError) = some true
  k_BadStretch_KeyFault : PySem.W.kitOne K (.ref A'.c_BadStretch) (.ref A'.c_KeyFault) = some false
  k_BadStretch_PlaceFault : PySem.W.kitOne K (.ref A'.c_BadStretch) (.ref A'.c_PlaceFault) = some true
  k_BadStretch_BadKey : PySem.W.kitOne K (.ref A'.c_BadStretch) (.ref A'.c_BadKey) = some false
  k_BadStretch_BadField : PySem.W.kitOne K (.ref A'.c_BadStretch) (.ref A'.c_BadField) = some false
  k_BadStretch_BadBatch : PySem.W.kitOne K (.ref A'.c_BadStretch) (.ref A'.c_BadBatch) = some false
section
variable {P : Program} {w : World} {K : PySem.W.Frag} {mg : Str → Option Value} {base : Heap} {A' : Ad}
/-! ### shown -/
def shOk (d : PyData) : Prop := (∀ x, d = .str x → x.length < 60 → (reprText x).length ≤ 100000) ∧ ∀ x, d = .str x → x.length ≤ sizeLine
def sp_shown (K : PySem.W.Frag) : Sp := fun vs H Q _ => ∃ (v : V) (d : PyData), vs = [v] ∧ Dp K H v d ∧ shOk d ∧ ∀ y : Str, y.length ≤ 100000 → Q (.str y) H
theorem ok_shown (T : Txt P K mg A') : FnOk P w K mg base CX0 1 A'.f_shown A'.fd_shown ["value"] (sp_shown K) := by
  refine Hk.okN T.F_shown sc_shown (fun vs H Q E h => ?_) (fun cdv A outer s H vs Q E hr h => ?_)
  · obtain ⟨v, d, rfl, _⟩ := h
    rfl
  · obtain ⟨v, d, rfl, hd, ⟨hs, hl⟩, k⟩ := h
    refine ⟨_, (pss_cons (ps_if (PW.pt (pw_or (pt_cmpR op_isN (pv 0) pe_non (nomark _)) (pw_or1 (pt_val (pe_callB call_isD (by rfl) T.z_isinstance (by decide +kernel) (pa_cons (pv 0) (pa_cons (pe_bltn (v := .ty "bool") (by rfl) T.z_bool (by decide +kernel) rfl) pa_nil))))))) (pss_one (ps_ret (pe_callTy (Lk.CallR.or Lk.call_str_none (Lk.CallR.or Lk.call_str_bool call_str_int)) (by rfl) T.z_str (by decide +kernel) (pa_cons (pv 0) pa_nil)))) pss_nil)
    (pss_cons (ps_if (PW.pt (pw_and (pt_val (pe_callB call_isD (by rfl) T.z_isinstance (by decide +kernel) (pa_cons (pv 0) (pa_cons (pe_bltn (v := .ty "int") (by rfl) T.z_int (by decide +kernel) rfl) pa_nil)))) (pw_and1 (pt_cmpR op_lt (pe_callB call_abs (by rfl) T.z_abs (by decide +kernel) (pa_cons (pv 0) pa_nil)) (pe_op op_pow pe_int pe_int) (nomark _))))) (pss_one (ps_ret (pe_callTy (Lk.CallR.or Lk.call_str_none (Lk.CallR.or Lk.call_str_bool call_str_int)) (by rfl) T.z_str (by decide +kernel) (pa_cons (pv 0) pa_nil)))) pss_nil)
    (pss_cons (ps_if (PW.pt (pw_and (pt_val (pe_callB call_isD (by rfl) T.z_isinstance (by decide +kernel) (pa_cons (pv 0) (pa_cons (pe_bltn (v := .ty "str") (by rfl) T.z_str (by decide +kernel) rfl) pa_nil)))) (pw_and1 (pt_cmpR op_lt (pe_callB call_len_str (by rfl) T.z_len (by decide +kernel) (pa_cons (pv 0) pa_nil)) pe_int (nomark _))))) (pss_one (ps_ret (pe_callB call_repr_str (by rfl) T.z_repr (by decide +kernel) (pa_cons (pv 0) pa_nil)))) pss_nil)
    (pss_one (ps_ret pe_str))))), ?_⟩
    have hd' := hd
    have klast : ∀ H', H' = H → Q (.str "of another form") H' := fun H' e => by rw [e]; exact k _ (by decide)
    cases hd with
    | non =>
      refine ⟨_, rfl, rfl, _, rfl, ?_⟩
      refine ifT rfl ?_
      refine ifT rfl ?_
      exact ⟨_, rfl, .inl ⟨rfl, k _ (by decide)⟩⟩
    | bl b =>
      refine ⟨_, rfl, rfl, _, rfl, ?_⟩
      refine ifF rfl ?_
      refine ⟨_, rfl, _, _, _, rfl, okT_bool, hd', _, rfl, ?_⟩
      refine ifT (isI_bool_bool b) ?_
      exact ⟨_, rfl, .inr (.inl ⟨_, rfl, k _ (by cases b <;> decide)⟩)⟩
    | int i =>
      refine ⟨_, rfl, rfl, _, rfl, ?_⟩
      refine ifF rfl ?_
      refine ⟨_, rfl, _, _, _, rfl, okT_bool, hd', _, rfl, ?_⟩
      refine ifF (isI_bool_int i) ?_
      refine ⟨_, rfl, _, _, _, rfl, okT_int, hd', _, rfl, ?_⟩
      refine ifT (isI_int_int i) ?_
      refine ⟨_, rfl, _, rfl, _, _, rfl, rfl, ⟨by decide, by decide, by decide⟩, _, _, rfl, rfl, _, rfl, ?_⟩
      refine if2 (fun c => ?_) (fun c => ?_)
      · have c' : (if i < 0 then -i else i) < 1000000000000 := of_decide_eq_true c
        have hb : i.natAbs < 10 ^ 12 := by omega
        refine ⟨_, rfl, .inr (.inr ⟨_, rfl, log_int (Nat.lt_trans hb (by decide)), k _ ?_⟩)⟩
        have := len_int (k := 12) (by decide) hb
        omega
      · refine ⟨_, rfl, _, _, _, rfl, okT_str, hd', _, rfl, ?_⟩
        refine ifF (isI_str_int i) ?_
        exact klast _ rfl
    | str x =>
      refine ⟨_, rfl, rfl, _, rfl, ?_⟩
      refine ifF rfl ?_
      refine ⟨_, rfl, _, _, _, rfl, okT_bool, hd', _, rfl, ?_⟩
      refine ifF (isI_bool_str x) ?_
      refine ⟨_, rfl, _, _, _, rfl, okT_int, hd', _, rfl, ?_⟩
      refine ifF (isI_int_str x) ?_
      refine ⟨_, rfl, _, _, _, rfl, okT_str, hd', _, rfl, ?_⟩
      refine ifT (isI_str_str x) ?_
      refine ⟨_, rfl, _, rfl, hl x rfl, _, _, rfl, rfl, _, rfl, ?_⟩
      refine if2 (fun c => ?_) (fun c => ?_)
      · have c' : ((x.length : Nat) : Int) < 60 := of_decide_eq_true c
        have hb := hs x rfl (by omega)
        exact ⟨_, rfl, _, rfl, Nat.le_trans hb (by decide), k _ hb⟩
      · exact klast _ rfl
    | lst h1 h2 =>
      refine ⟨_, rfl, rfl, _, rfl, ?_⟩
      refine ifF rfl ?_
      refine ⟨_, rfl, _, _, _, rfl, okT_bool, hd', _, rfl, ?_⟩
      refine ifF (isI_bool_list _) ?_
      refine ⟨_, rfl, _, _, _, rfl, okT_int, hd', _, rfl, ?_⟩
      refine ifF (isI_int_list _) ?_
      refine ⟨_, rfl, _, _, _, rfl, okT_str, hd', _, rfl, ?_⟩
      refine ifF (isI_str_list _) ?_
      exact klast _ rfl
    | tup h1 h2 =>
      refine ⟨_, rfl, rfl, _, rfl, ?_⟩
      refine ifF rfl ?_
      refine ⟨_, rfl, _, _, _, rfl, okT_bool, hd', _, rfl, ?_⟩
      refine ifF (isI_bool_tuple _) ?_
      refine ⟨_, rfl, _, _, _, rfl, okT_int, hd', _, rfl, ?_⟩
      refine ifF (isI_int_tuple _) ?_
      refine ⟨_, rfl, _, _, _, rfl, okT_str, hd', _, rfl, ?_⟩
      refine ifF (isI_str_tuple _) ?_
      exact klast _ rfl
theorem ok_init_KeyFault (T : Txt P K mg A') : FnOk P w K mg base CX0 2 A'.i_KeyFault A'.fdi_KeyFault ["self", "key"] (Sup.spSup K A'.c_KeyFault "key" (fun v H => ∃ d, Dp K H v d ∧ shOk d)) := by
  refine Sup.fn_sup (te := fun σ H Q => tJs [tC (.str "key "), tFmt (tCall (sp_shown K) [] E0 (tCons (tVar 1) tNil))] Str.empty σ H fun out H1 => Q (.str out) H1) T.S_KeyFault sci_KeyFault (by decide +kernel) T.z_super rfl rfl (by decide +kernel) (by decide +kernel) (fun _ => rfl) (fun _ => rfl) (fun _ => rfl) (fun _ => rfl) (fun X e1 e2 e3 e4 e5 hN hsc hc hr => ?_) (fun a v H Q hp hq => ?_)
  case refine_1 =>
    subst e1 e2 e3 e4 e5
    have hv : Vis X.env.scope "key" := by rw [hsc]; exact Or.inl (by decide +kernel)
    have hg : Gl X "shown" := by
      show X.env.scope.names.lookup ("shown" : Str) = some .globalImplicit
      rw [hsc]; decide +kernel
    exact pe_joined (PJ.cons pe_str (PJ.cons (pe_fmt (pe_call (ok_shown T) hr hg T.g_shown T.F_shown.kp T.b_shown .nil pass0 (pa_cons (pe_var (i := 1) (by rw [hN] <;> rfl) hv (by decide +kernel) (by decide +kernel)) pa_nil))) PJ.nil))
  case refine_2 =>
    obtain ⟨d, hd, hs⟩ := hp
    refine ⟨_, rfl, by decide, _, rfl, v, d, rfl, hd, hs, fun y hy => ?_⟩
    have hz : (Str.empty ++ Str.ofString "key " ++ y).length ≤ sizeLine := by
      rw [strLen_append]
      have e : (Str.empty ++ Str.ofString "key ").length ≤ 100 := by decide +kernel
      have e2 : sizeLine = 16777216 := sizeLine_eq
      omega
    exact .inl ⟨y, rfl, Nat.le_trans hy (by decide), y, rfl, hz, hq _ hz⟩

theorem ok_init_PlaceFault (T : Txt P K mg A') : FnOk P w K mg base CX0 2 A'.i_PlaceFault A'.fdi_PlaceFault ["self", "place"] (Sup.spSup K A'.c_PlaceFault "place" (fun v H => ∃ d, Dp K H v d ∧ shOk d)) := by
  refine Sup.fn_sup (te := fun σ H Q => tJs [tC (.str "place "), tFmt (tCall (sp_shown K) [] E0 (tCons (tVar 1) tNil))] Str.empty σ H fun out H1 => Q (.str out) H1) T.S_PlaceFault sci_PlaceFault (by decide +kernel) T.z_super rfl rfl (by decide +kernel) (by decide +kernel) (fun _ => rfl) (fun _ => rfl) (fun _ => rfl) (fun _ => rfl) (fun X e1 e2 e3 e4 e5 hN hsc hc hr => ?_) (fun a v H Q hp hq => ?_)
  case refine_1 =>
    subst e1 e2 e3 e4 e5
    have hv : Vis X.env.scope "place" := by rw [hsc]; exact Or.inl (by decide +kernel)
    have hg : Gl X "shown" := by
      show X.env.scope.names.lookup ("shown" : Str) = some .globalImplicit
      rw [hsc]; decide +kernel
    exact pe_joined (PJ.cons pe_str (PJ.cons (pe_fmt (pe_call (ok_shown T) hr hg T.g_shown T.F_shown.kp T.b_shown .nil pass0 (pa_cons (pe_var (i := 1) (by rw [hN] <;> rfl) hv (by decide +kernel) (by decide +kernel)) pa_nil))) PJ.nil))
  case refine_2 =>
    obtain ⟨d, hd, hs⟩ := hp
    refine ⟨_, rfl, by decide, _, rfl, v, d, rfl, hd, hs, fun y hy => ?_⟩
    have hz : (Str.empty ++ Str.ofString "place " ++ y).length ≤ sizeLine := by
      rw [strLen_append]
      have e : (Str.empty ++ Str.ofString "place ").length ≤ 100 := by decide +kernel
      have e2 : sizeLine = 16777216 := sizeLine_eq
      omega
    exact .inl ⟨y, rfl, Nat.le_trans hy (by decide), y, rfl, hz, hq _ hz⟩

/-! ### is_whole -/
def isW (d : PyData) : Bool := isI "int" d && !isI "bool" d
def sp_is_whole (K : PySem.W.Frag) : Sp := fun vs H Q _ => ∃ (v : V) (d : PyData), vs = [v] ∧ Dp K H v d ∧ Q (.bl (isW d)) H
theorem isW_int (i : Int) : isW (.int i) = true := by unfold isW; rw [isI_int_int, isI_bool_int] <;> rfl
theorem isW_not {d : PyData} (h : isW d = true) : ∃ i, d = .int i := by
  cases d with
  | int i => exact ⟨i, rfl⟩
  | none => unfold isW at h; rw [isI_int_none] at h; cases h
  | bool b => unfold isW at h; rw [isI_int_bool, isI_bool_bool] at h; cases h
  | str b => unfold isW at h; rw [isI_int_str] at h; cases h
  | list b => unfold isW at h; rw [isI_int_list] at h; cases h
  | tuple b => unfold isW at h; rw [isI_int_tuple] at h; cases h
  | dict b => 
    have e : isI "int" (.dict b) = false := by show (kitB "dict" "int").getD false = false; decide +kernel
    unfold isW at h; rw [e] at h; cases h
theorem ok_is_whole (T : Txt P K mg A') : FnOk P w K mg base CX0 1 A'.f_is_whole A'.fd_is_whole ["thing"] (sp_is_whole K) := by
  refine Hk.okN T.F_is_whole sc_is_whole (fun vs H Q E h => ?_) (fun cdv A outer s H vs Q E hr h => ?_)
  · obtain ⟨v, d, rfl, _⟩ := h
    rfl
  · obtain ⟨v, d, rfl, hd, k⟩ := h
    refine ⟨_, (pss_one (ps_ret (pe_and (pe_callB call_isD (by rfl) T.z_isinstance (by decide +kernel) (pa_cons (pv 0) (pa_cons (pe_bltn (v := .ty "int") (by rfl) T.z_int (by decide +kernel) rfl) pa_nil))) (pe_one (pe_not (pe_callB call_isD (by rfl) T.z_isinstance (by decide +kernel) (pa_cons (pv 0) (pa_cons (pe_bltn (v := .ty "bool") (by rfl) T.z_bool (by decide +kernel) rfl) pa_nil)))))))), ?_⟩
    refine ⟨_, rfl, _, _, _, rfl, okT_int, hd, _, rfl, ?_⟩
    refine if2 (fun c => ?_) (fun c => ?_)
    · refine ⟨_, rfl, _, _, _, rfl, okT_bool, hd, _, rfl, ?_⟩
      unfold isW at k
      rw [c, Bool.true_and] at k
      exact k
    · unfold isW at k
      rw [c, Bool.false_and] at k
      exact k
/-! ### common_stretch -/
/-- a stretch, a tuple at p that stands -/
def At2 (K : PySem.W.Frag) (H : Hp) (p : Addr) (a b : Int) : Prop := SqT K H p [.int a, .int b]
theorem At2.same {K : PySem.W.Frag} {H H' : Hp} {p : Addr} {a b : Int} (e : Same H H') (h : At2 K H p a b) : At2 K H' p a b := seqT_same e h
theorem At2.dp {K : PySem.W.Frag} {H : Hp} {p : Addr} {a b : Int} (h : At2 K H p a b) : Dp K H (.ref p) (.tuple [.int a, .int b]) := .tup h (.cons (.int a) (.cons (.int b) .nil))
def sp_common_stretch (K : PySem.W.Frag) : Sp := fun vs H Q _ => ∃ (p q : Addr) (a b c d : Int), vs = [.ref p, .ref q] ∧ At2 K H p a b ∧ At2 K H q c d ∧
  (max a c < min b d → ∀ r H', H r = none → Same H H' → H' r = some (.tup [.int (max a c), .int (min b d)]) → Q (.ref r) H') ∧ (¬ max a c < min b d → Q .non H)
theorem imax {a c : Int} : (if c > a then c else a) = max a c := by omega
theorem imin {a c : Int} : (if c < a then c else a) = min a c := by omega
theorem ok_common_stretch (T : Txt P K mg A') : FnOk P w K mg base CX0 1 A'.f_common_stretch A'.fd_common_stretch ["one", "other"] (sp_common_stretch K) := by
  refine Hk.okN T.F_common_stretch sc_common_stretch (fun vs H Q E h => ?_) (fun cdv A outer s H vs Q E hr h => ?_)
  · obtain ⟨p, q, a, b, c, d, rfl, _⟩ := h
    rfl
  · obtain ⟨p, q, a, b, c, d, rfl, hp, hq, k1, k2⟩ := h
    refine ⟨_, (pss_cons (ps_set (i := 2) sc_common_stretch.nd rfl (Or.inl rfl) (pe_callB (call_max2 rfl) (by rfl) T.z_max (by decide +kernel) (pa_cons (pe_ix ix_tup (pv 0) pe_int (fun _ _ => rfl)) (pa_cons (pe_ix ix_tup (pv 1) pe_int (fun _ _ => rfl)) pa_nil))))
    (pss_cons (ps_set (i := 3) sc_common_stretch.nd rfl (Or.inl rfl) (pe_callB (call_min2 rfl) (by rfl) T.z_min (by decide +kernel) (pa_cons (pe_ix ix_tup (pv 0) pe_int (fun _ _ => rfl)) (pa_cons (pe_ix ix_tup (pv 1) pe_int (fun _ _ => rfl)) pa_nil))))
    (pss_cons (ps_if (pt_cmpR op_lt (pv 2) (pv 3) (nomark _)) (pss_one (ps_ret (pe_tup (pa_cons (pv 2) (pa_cons (pv 3) pa_nil))))) pss_nil)
    (pss_one (ps_ret pe_non))))), ?_⟩
    refine ⟨_, rfl, p, _, _, _, rfl, rfl, hp, rfl, _, rfl, q, _, _, _, rfl, rfl, hq, rfl, _, _, rfl, ?_⟩
    refine ⟨_, rfl, p, _, _, _, rfl, rfl, hp, rfl, _, rfl, q, _, _, _, rfl, rfl, hq, rfl, _, _, rfl, ?_⟩
    refine ⟨_, rfl, _, rfl, _, _, rfl, rfl, _, rfl, ?_⟩
    rw [imax, imin]
    refine if2 (fun h => ?_) (fun h => ?_)
    · refine ⟨_, rfl, _, rfl, (by show 2 ≤ sizeLine; decide), fun r nr => ?_⟩
      exact k1 (of_decide_eq_true h) r _ nr (same_new nr) upd_same
    · exact k2 (of_decide_eq_false h)
/-! ### lies_within -/
def sp_lies_within (K : PySem.W.Frag) : Sp := fun vs H Q _ => ∃ (p q : Addr) (a b c d : Int), vs = [.ref p, .ref q] ∧ At2 K H p a b ∧ At2 K H q c d ∧ Q (.bl (decide (c ≤ a) && decide (b ≤ d))) H
theorem ok_lies_within (T : Txt P K mg A') : FnOk P w K mg base CX0 1 A'.f_lies_within A'.fd_lies_within ["one", "other"] (sp_lies_within K) := by
  refine Hk.okN T.F_lies_within sc_lies_within (fun vs H Q E h => ?_) (fun cdv A outer s H vs Q E hr h => ?_)
  · obtain ⟨p, q, a, b, c, d, rfl, _⟩ := h
    rfl
  · obtain ⟨p, q, a, b, c, d, rfl, hp, hq, k⟩ := h
    refine ⟨_, (pss_one (ps_ret (pe_and (pe_cmpR op_le (pe_ix ix_tup (pv 1) pe_int (fun _ _ => rfl)) (pe_ix ix_tup (pv 0) pe_int (fun _ _ => rfl)) (nomark _)) (pe_one (pe_cmpR op_le (pe_ix ix_tup (pv 0) pe_int (fun _ _ => rfl)) (pe_ix ix_tup (pv 1) pe_int (fun _ _ => rfl)) (nomark _)))))), ?_⟩
    refine ⟨_, rfl, q, _, _, _, rfl, rfl, hq, rfl, _, rfl, p, _, _, _, rfl, rfl, hp, rfl, _, _, rfl, rfl, _, rfl, ?_⟩
    refine if2 (fun h => ?_) (fun h => ?_)
    · rw [h, Bool.true_and] at k
      exact ⟨_, rfl, p, _, _, _, rfl, rfl, hp, rfl, _, rfl, q, _, _, _, rfl, rfl, hq, rfl, _, _, rfl, rfl, k⟩
    · rw [h, Bool.false_and] at k
      exact k
/-! ### cut_at -/
def sp_cut_at (K : PySem.W.Frag) : Sp := fun vs H Q _ => ∃ (p : Addr) (a b x : Int), vs = [.ref p, .int x] ∧ At2 K H p a b ∧
  (a < x ∧ x < b → ∀ l q r H', H l = none → Same H H' → H' l = some (.lst [.ref q, .ref r]) → H' q = some (.tup [.int a, .int x]) → H' r = some (.tup [.int x, .int b]) → Q (.ref l) H') ∧
  (¬ (a < x ∧ x < b) → ∀ l q H', H l = none → Same H H' → H' l = some (.lst [.ref q]) → H' q = some (.tup [.int a, .int b]) → Q (.ref l) H')
theorem ok_cut_at (T : Txt P K mg A') : FnOk P w K mg base CX0 1 A'.f_cut_at A'.fd_cut_at ["stretch", "border"] (sp_cut_at K) := by
  refine Hk.okN T.F_cut_at sc_cut_at (fun vs H Q E h => ?_) (fun cdv A outer s H vs Q E hr h => ?_)
  · obtain ⟨p, a, b, x, rfl, _⟩ := h
    rfl
  · obtain ⟨p, a, b, x, rfl, hp, k1, k2⟩ := h
    refine ⟨_, (pss_cons (ps_asg (pv 0) (pg_tup (by rfl) (pgs_cons (pg_name (i := 2) sc_cut_at.nd rfl (Or.inl rfl)) (pgs_cons (pg_name (i := 3) sc_cut_at.nd rfl (Or.inl rfl)) pgs_nil))))
    (pss_cons (ps_if (pt_chain op_lt op_lt (pv 2) (pv 1) (pv 3)) (pss_one (ps_ret (pe_lst (pa_cons (pe_tup (pa_cons (pv 2) (pa_cons (pv 1) pa_nil))) (pa_cons (pe_tup (pa_cons (pv 1) (pa_cons (pv 3) pa_nil))) pa_nil))))) pss_nil)
    (pss_one (ps_ret (pe_lst (pa_cons (pe_tup (pa_cons (pv 2) (pa_cons (pv 3) pa_nil))) pa_nil)))))), ?_⟩
    refine ⟨_, rfl, p, _, rfl, hp, rfl, .int a, [.int b], rfl, .int b, [], rfl, rfl, ?_⟩
    have kn : ¬ (a < x ∧ x < b) → ∀ q H', H q = none → H' = upd H q (.tup [.int a, .int b]) → ∀ l, H' l = none → Q (.ref l) (upd H' l (.lst [.ref q])) := fun hn q H' nq e l nl => by
      subst e
      have nql : q ≠ l := ne_of_none upd_same nl
      have nl0 : H l = none := by rw [upd_ne nql.symm] at nl; exact nl
      exact k2 hn l q _ nl0 (same_mut (same_new nq) nl0) upd_same (by rw [upd_ne nql]; exact upd_same)
    refine ⟨_, rfl, _, rfl, _, _, rfl, rfl, _, rfl, ?_⟩
    refine if2 (fun h1 => ?_) (fun h1 => ?_)
    · refine ⟨_, rfl, _, _, rfl, rfl, _, rfl, ?_⟩
      refine if2 (fun h2 => ?_) (fun h2 => ?_)
      · have c1 := of_decide_eq_true h1
        have c2 := of_decide_eq_true h2
        refine ⟨_, rfl, _, rfl, (by show 2 ≤ sizeLine; decide), fun q nq => ?_⟩
        refine ⟨_, rfl, _, rfl, (by show 2 ≤ sizeLine; decide), fun r nr => ?_⟩
        refine ⟨(by show 2 ≤ sizeLine; decide), fun l nl => ?_⟩
        have nqr : q ≠ r := ne_of_none upd_same nr
        have nr0 : H r = none := by rw [upd_ne nqr.symm] at nr; exact nr
        have nlr : r ≠ l := ne_of_none upd_same nl
        have nlq : q ≠ l := fun e => by rw [← e, upd_ne nqr, upd_same] at nl; cases nl
        have nl0 : H l = none := by rw [upd_ne nlr.symm, upd_ne nlq.symm] at nl; exact nl
        exact k1 ⟨c1, c2⟩ l q r _ nl0 (same_mut (same_mut (same_new nq) nr0) nl0) upd_same (by rw [upd_ne nlq, upd_ne nqr]; exact upd_same) (by rw [upd_ne nlr]; exact upd_same)
      · have c2 := of_decide_eq_false h2
        refine ⟨_, rfl, _, rfl, (by show 2 ≤ sizeLine; decide), fun q nq => ?_⟩
        refine ⟨(by show 1 ≤ sizeLine; decide), fun l nl => ?_⟩
        exact kn (fun z => c2 z.2) q _ nq rfl l nl
    · have c1 := of_decide_eq_false h1
      refine ⟨_, rfl, _, rfl, _, rfl, (by show 2 ≤ sizeLine; decide), fun q nq => ?_⟩
      refine ⟨(by show 1 ≤ sizeLine; decide), fun l nl => ?_⟩
      exact kn (fun z => c1 z.1) q _ nq rfl l nl
/-! ### _law_stream -/
def sp__law_stream (K : PySem.W.Frag) : Sp := fun vs H Q _ => ∃ (a : Addr) (ns : List Int), vs = [.ref a] ∧ SqL K H a (ns.map V.int) ∧ ns.length ≤ 63 ∧ ∀ S c H', H S = none → Same H H' → Stm S c H' → Q (.ref S) H'
theorem ok__law_stream (T : Txt P K mg A') : FnOk P w K mg base CX0 1 A'.f__law_stream A'.fd__law_stream ["_law_script"] (sp__law_stream K) := by
  refine Hk.okN T.F__law_stream sc__law_stream (fun vs H Q E h => ?_) (fun cdv A outer s H vs Q E hr h => ?_)
  · obtain ⟨a, ns, rfl, _⟩ := h
    rfl
  · obtain ⟨a, ns, rfl, ha, hl, k⟩ := h
    refine ⟨_, (pss_one (ps_ret (pe_lst (pa_cons (pe_lc (own := [("_law_cell", 1)]) (g := gName 1) (tt := tYes) (by rfl) sc__law_stream.nd (pi_list (pe_slice sl_list (pv 0) po_none (po_some pe_int))) (blkOk_by (own := [("_law_cell", 1)]) (N := ["_law_script", "_law_cell"]) (sc := defScope s__law_stream) (by decide +kernel)) (fun _ _ _ _ _ => (pg_name (i := 1) sc__law_stream.nd rfl (Or.inl rfl))) (fun _ _ _ _ _ => pts_nil) (fun _ _ _ _ _ => (pe_callTy call_int1 (by rfl) T.z_int (by decide +kernel) (pa_cons (pv 1) pa_nil)))) (pa_cons pe_int (pa_cons pe_int pa_nil)))))), ?_⟩
    have hcut : cutV (ns.map V.int) none (some 63) = ns.map V.int := by
      unfold cutV
      have e : HT.sIx (ns.map V.int).length (ns.map V.int).length (some 63) = (ns.map V.int).length := by
        show (if (63 : Int) < 0 then ((63 : Int) + ((ns.map V.int).length : Int)).toNat else min (63 : Int).toNat (ns.map V.int).length) = _
        rw [if_neg (by decide), List.length_map]
        have e2 : (63 : Int).toNat = 63 := rfl
        rw [e2]
        omega
      rw [e, HT.sIx_none, List.drop_zero, Nat.sub_zero, List.take_length]
    refine ⟨_, rfl, _, rfl, a, _, rfl, ha, fun p np => ?_⟩
    rw [hcut]
    refine ⟨p, rfl, ⟨_, SqL.of upd_same⟩, fun D nD => ?_⟩
    have npD : p ≠ D := ne_of_none upd_same nD
    have nD0 : H D = none := by rw [upd_ne npD.symm] at nD; exact nD
    refine lc_list (K := K) (a := p) (xs := ns.map V.int) (fun i H' => Same H H' ∧ H' p = some (.lst (ns.map V.int)) ∧ H' D = some (.lst ((ns.take i).map V.int))) ⟨same_mut (same_new np) nD0, by rw [upd_ne npD]; exact upd_same, upd_same⟩ (fun i H' _ h => SqL.of h.2.1) ?_ ?_
    · rintro i x H' hi ⟨s1, h1, h2⟩
      obtain ⟨n, hn, rfl⟩ := map_some hi
      refine ⟨rfl, _, rfl, .inl ⟨_, rfl, _, h2, ?_, ?_⟩⟩
      · rw [List.length_map]
        exact small1000 (by rw [List.length_take]; omega)
      · refine ⟨same_mut s1 nD0, by rw [upd_ne npD]; exact h1, ?_⟩
        rw [upd_same, take_map hn, List.map_append]
        rfl
    · rintro H' ⟨s1, h1, h2⟩
      rw [List.length_map, List.take_length] at h2
      refine ⟨(by show 3 ≤ sizeLine; decide), fun S nS => ?_⟩
      have nDS : D ≠ S := ne_of_none h2 nS
      exact k S D _ (s1.free nS) (same_mut s1 (s1.free nS)) ⟨ns, 0, 0, upd_same, by rw [upd_ne nDS]; exact h2, hl, Nat.zero_le _, Int.le_refl _⟩
/-! ### _law_mixed -/
def sp__law_mixed (K : PySem.W.Frag) : Sp := fun vs H Q _ => ∃ (c : Int) (p : Nat), vs = [.int c, .int (p : Int)] ∧ c.natAbs < 10 ^ 18 ∧ p ≤ 100 ∧ ∀ r : Int, 0 ≤ r → Q (.int r) H
theorem ok__law_mixed (T : Txt P K mg A') : FnOk P w K mg base CX0 1 A'.f__law_mixed A'.fd__law_mixed ["_law_cell", "_law_place"] (sp__law_mixed K) := by
  refine Hk.okN T.F__law_mixed sc__law_mixed (fun vs H Q E h => ?_) (fun cdv A outer s H vs Q E hr h => ?_)
  · obtain ⟨c, p, rfl, _⟩ := h
    rfl
  · obtain ⟨c, p, rfl, hc, hp, k⟩ := h
    have hc2 : -(2 ^ 64) < c ∧ c < 2 ^ 64 := by omega
    refine ⟨_, (pss_cons (ps_set (i := 2) sc__law_mixed.nd rfl (Or.inl rfl) (pe_op op_mod (pe_callTy call_int1 (by rfl) T.z_int (by decide +kernel) (pa_cons (pe_op op_mul (pv 0) (pe_op op_add pe_int (pe_op op_mul pe_int (pv 1)))) pa_nil)) pe_int))
    (pss_one (ps_ret (pe_op op_mod (pe_callTy call_int1 (by rfl) T.z_int (by decide +kernel) (pa_cons (pe_op op_mul (pv 2) (pe_op op_add (pv 2) (pe_op op_mul pe_int (pv 1)))) pa_nil)) pe_int)))), ?_⟩
    refine ⟨_, rfl, _, rfl, _, _, rfl, rfl, .inl (by omega), _, _, rfl, rfl, _, _, rfl, rfl, .inl hc2, .inl ⟨_, rfl, _, _, rfl, rfl, (show (0 : Int) < 1000000000000000003 by decide), ?_⟩⟩
    generalize h1 : (c * (314159265358979323 + 271828182845 * (p : Int))) % 1000000000000000003 = x
    have x0 : 0 ≤ x ∧ x < 1000000000000000003 := by
      rw [← h1]
      exact ⟨Int.emod_nonneg _ (by decide), Int.emod_lt_of_pos _ (by decide)⟩
    refine ⟨_, rfl, _, rfl, _, rfl, _, _, rfl, rfl, .inl (by omega), _, _, rfl, rfl, _, _, rfl, rfl, .inl (by omega), .inl ⟨_, rfl, _, _, rfl, rfl, (show (0 : Int) < 1000000000000000009 by decide), ?_⟩⟩
    exact k _ (Int.emod_nonneg _ (by decide))
/-! ### _law_is_number -/
def sp__law_is_number (K : PySem.W.Frag) : Sp := fun vs H Q _ => ∃ (v : V) (d : PyData), vs = [v] ∧ Dp K H v d ∧ Q (.bl (isW d)) H
theorem ok__law_is_number (T : Txt P K mg A') : FnOk P w K mg base CX0 1 A'.f__law_is_number A'.fd__law_is_number ["_law_thing"] (sp__law_is_number K) := by
  refine Hk.okN T.F__law_is_number sc__law_is_number (fun vs H Q E h => ?_) (fun cdv A outer s H vs Q E hr h => ?_)
  · obtain ⟨v, d, rfl, _⟩ := h
    rfl
  · obtain ⟨v, d, rfl, hd, k⟩ := h
    refine ⟨_, (pss_one (ps_ret (pe_and (pe_callB call_isD (by rfl) T.z_isinstance (by decide +kernel) (pa_cons (pv 0) (pa_cons (pe_bltn (v := .ty "int") (by rfl) T.z_int (by decide +kernel) rfl) pa_nil))) (pe_one (pe_not (pe_callB call_isD (by rfl) T.z_isinstance (by decide +kernel) (pa_cons (pv 0) (pa_cons (pe_bltn (v := .ty "bool") (by rfl) T.z_bool (by decide +kernel) rfl) pa_nil)))))))), ?_⟩
    refine ⟨_, rfl, _, _, _, rfl, okT_int, hd, _, rfl, ?_⟩
    refine if2 (fun c => ?_) (fun c => ?_)
    · refine ⟨_, rfl, _, _, _, rfl, okT_bool, hd, _, rfl, ?_⟩
      unfold isW at k
      rw [c, Bool.true_and] at k
      exact k
    · unfold isW at k
      rw [c, Bool.false_and] at k
      exact k
/-! ### _law_look_keys -/
def sp__law_look_keys (K : PySem.W.Frag) : Sp := fun vs H Q _ => ∃ (G : Addr) (gs : List Int), vs = [.ref G] ∧ SqL K H G (gs.map V.int) ∧ gs.length ≤ 100 ∧
  ∀ (p : Addr) (ks : List Int) H', H p = none → Same H H' → H' p = some (.lst (ks.map V.int)) → (∀ x ∈ ks, 0 ≤ x ∧ x < 1000000) → ks.length ≤ 1000 → Q (.ref p) H'
theorem all_flat : ∀ (ns : List Int), (ns.map V.int).all flatV = true
  | [] => rfl
  | n :: r => by
    show (flatV (.int n) && (r.map V.int).all flatV) = true
    rw [all_flat r] <;> rfl
theorem ok__law_look_keys (T : Txt P K mg A') : FnOk P w K mg base CX0 1 A'.f__law_look_keys A'.fd__law_look_keys ["_law_grid_here"] (sp__law_look_keys K) := by
  refine Hk.okN T.F__law_look_keys sc__law_look_keys (fun vs H Q E h => ?_) (fun cdv A outer s H vs Q E hr h => ?_)
  · obtain ⟨G, gs, rfl, _⟩ := h
    rfl
  · obtain ⟨G, gs, rfl, hG, hl, k⟩ := h
    refine ⟨_, (pss_cons (ps_set (i := 1) sc__law_look_keys.nd rfl (Or.inl rfl) (pe_lst (pa_cons pe_int (pa_cons pe_int pa_nil))))
    (pss_cons (ps_for PassesOwn.never rfl (pi_list (pv 0)) (pg_name (i := 2) sc__law_look_keys.nd rfl (Or.inl rfl)) (pss_one (ps_for PassesOwn.never rfl (pi_tup (pe_tup (pa_cons (pe_op op_sub (pv 2) pe_int) (pa_cons (pv 2) pa_nil)))) (pg_name (i := 3) sc__law_look_keys.nd rfl (Or.inl rfl)) (pss_one (ps_if (PW.pt (pw_and (pt_chain op_le op_lt pe_int (pv 3) pe_int) (pw_and1 (pt_cmpR op_notIn_seq (pv 3) (pv 1) (by rfl))))) (pss_one (ps_expr (pe_bm PySem.F.plainAttrs_list PySem.F.slot_list_append PySem.F.type_list_append mt_append (pv 1) (pa_cons (pv 3) pa_nil)))) pss_nil)))))
    (pss_one (ps_ret (pv 1))))), ?_⟩
    refine ⟨(by show 2 ≤ sizeLine; decide), fun p np => ?_⟩
    have hgp : ∀ {H' : Hp}, Same H H' → SqL K H' G (gs.map V.int) := fun e => e.seq hG
    refine ⟨_, rfl, G, rfl, ⟨_, hgp (same_new np)⟩, for_list (K := K) (a := G) (xs := gs.map V.int) (fun i σ' H' => ∃ (ks : List Int) (y z : Option V), σ' = [some (.ref G), some (.ref p), y, z] ∧ Same H H' ∧ H' p = some (.lst (ks.map V.int)) ∧ (∀ x ∈ ks, 0 ≤ x ∧ x < 1000000) ∧ ks.length ≤ 2 + 2 * i)
      ⟨[0, 999999], none, none, rfl, same_new np, upd_same, fun x hx => by have e := List.mem_cons.mp hx; have e2 : x = 0 ∨ x = 999999 := e.imp id List.mem_singleton.mp; omega, Nat.le_refl _⟩ (fun i σ' H' _ ⟨_, _, _, _, e, _⟩ => hgp e) ?_ ?_⟩
    · rintro i x σ' H' hi ⟨ks, y, z, rfl, e1, hk, hr, hz⟩
      obtain ⟨n, hn, rfl⟩ := map_some hi
      have hi2 : i < gs.length := by
        have q := (List.getElem?_eq_some_iff.mp hn).1
        exact q
      refine ⟨_, rfl, _, _, rfl, rfl, _, rfl, (by show 2 ≤ sizeLine; decide), fun t nt => ?_⟩
      have ntp : p ≠ t := ne_of_none hk nt
      have nt0 := e1.free nt
      refine ⟨t, rfl, ⟨_, .inl (.inl upd_same)⟩, for_tup (K := K) (a := t) (xs := [.int (n - 1), .int n]) (fun j σ' H2 => ∃ (ks : List Int) (z : Option V), σ' = [some (.ref G), some (.ref p), some (.int n), z] ∧ Same H H2 ∧ H2 t = some (.tup [.int (n - 1), .int n]) ∧ H2 p = some (.lst (ks.map V.int)) ∧ (∀ x ∈ ks, 0 ≤ x ∧ x < 1000000) ∧ ks.length ≤ 2 + 2 * i + j)
        ⟨ks, z, rfl, same_mut e1 nt0, upd_same, by rw [upd_ne ntp]; exact hk, hr, hz⟩ (fun j σ' H2 _ ⟨_, _, _, _, h, _⟩ => .inl (.inl h)) ?_ ?_⟩
      · rintro j x σ' H2 hj ⟨ks, z, rfl, e2, ht, hk, hr, hz⟩
        obtain ⟨q, rfl⟩ : ∃ q, x = V.int q := by
          match j, hj with
          | 0, h => exact ⟨_, (Option.some.inj h).symm⟩
          | 1, h => exact ⟨_, (Option.some.inj h).symm⟩
        have hj2 : j < 2 := (List.getElem?_eq_some_iff.mp hj).1
        refine ⟨_, rfl, _, _, rfl, rfl, _, rfl, ?_⟩
        refine if2 (fun c1 => ?_) (fun c1 => ?_)
        · refine ⟨_, _, rfl, rfl, _, rfl, ?_⟩
          refine if2 (fun c2 => ?_) (fun c2 => ⟨ks, _, rfl, e2, ht, hk, hr, by omega⟩)
          have c1' := of_decide_eq_true c1
          have c2' := of_decide_eq_true c2
          refine ⟨_, rfl, _, rfl, p, _, rfl, .inl (SqL.of hk), rfl, all_flat ks, _, rfl, ?_⟩
          refine if2 (fun c3 => ?_) (fun c3 => ⟨ks, _, rfl, e2, ht, hk, hr, by omega⟩)
          refine ⟨_, rfl, .inl ⟨rfl, _, SqL.of hk⟩, _, rfl, p, _, _, rfl, rfl, hk, ?_, ?_⟩
          · rw [List.length_map]; exact small1000 (by omega)
          · refine ⟨ks ++ [q], _, rfl, same_mut e2 np, ?_, by rw [upd_same, List.map_append]; rfl, fun x hx => ?_, ?_⟩
            · rw [upd_ne ntp.symm]; exact ht
            · rcases List.mem_append.mp hx with hx | hx
              · exact hr x hx
              · have := List.mem_singleton.mp hx; omega
            · rw [List.length_append, List.length_singleton]; omega
        · refine ⟨_, rfl, ?_⟩
          exact ⟨ks, _, rfl, e2, ht, hk, hr, by omega⟩
      · rintro σ' H2 ⟨ks, z, rfl, e2, ht, hk, hr, hz⟩
        exact ⟨ks, _, _, rfl, e2, hk, hr, by simp at hz; omega⟩
    · rintro σ' H' ⟨ks, y, z, rfl, e1, hk, hr, hz⟩
      rw [List.length_map] at hz
      exact ⟨_, rfl, k p ks H' np e1 hk hr (by omega)⟩
/-! ### is_key -/
def isKey : PyData → Bool
  | .int i => decide (0 ≤ i) && decide (i < 1000000)
  | _ => false
def sp_is_key (K : PySem.W.Frag) : Sp := fun vs H Q _ => ∃ (v : V) (d : PyData), vs = [v] ∧ Dp K H v d ∧ Q (.bl (isKey d)) H
theorem ok_is_key (T : Txt P K mg A') : FnOk P w K mg base CX0 2 A'.f_is_key A'.fd_is_key ["thing"] (sp_is_key K) := by
  refine Hk.okN T.F_is_key sc_is_key (fun vs H Q E h => ?_) (fun cdv A outer s H vs Q E hr h => ?_)
  · obtain ⟨v, d, rfl, _⟩ := h
    rfl
  · obtain ⟨tk_TOP, c_TOP⟩ := T.c_TOP
    obtain ⟨v, d, rfl, hd, k⟩ := h
    refine ⟨_, (pss_one (ps_ret (pe_and (pe_call (ok_is_whole T) (hr.mono (by decide)) rfl T.g_is_whole T.F_is_whole.kp T.b_is_whole .nil pass0 (pa_cons (pv 0) pa_nil)) (pe_one (pe_chain op_le op_lt pe_int (pv 0) (pe_glob (v := .int 1000000) rfl c_TOP ⟨_, rfl⟩)))))), ?_⟩
    refine ⟨_, rfl, _, _, rfl, hd, _, rfl, ?_⟩
    refine if2 (fun c => ?_) (fun c => ?_)
    · obtain ⟨i, rfl⟩ := isW_not c
      cases hd
      refine ⟨_, rfl, _, _, rfl, rfl, _, rfl, ?_⟩
      have k' : Q (.bl (decide (0 ≤ i) && decide (i < 1000000))) H := k
      refine if2 (fun c => ?_) (fun c => ?_)
      · rw [c, Bool.true_and] at k'
        exact ⟨_, _, rfl, rfl, k'⟩
      · rw [c, Bool.false_and] at k'
        exact k'
    · have e : isKey d = false := by
        cases d with
        | int i => rw [isW_int] at c; cases c
        | _ => rfl
      rw [e] at k
      exact k
/-! ### is_stretch -/
def isStr : PyData → Bool
  | .tuple [.int a, .int b] => decide (0 ≤ a) && (decide (a < b) && decide (b ≤ 1000000))
  | _ => false
def sp_is_stretch (K : PySem.W.Frag) : Sp := fun vs H Q _ => ∃ (v : V) (d : PyData), vs = [v] ∧ Dp K H v d ∧ Q (.bl (isStr d)) H
theorem ok_is_stretch (T : Txt P K mg A') : FnOk P w K mg base CX0 2 A'.f_is_stretch A'.fd_is_stretch ["thing"] (sp_is_stretch K) := by
  refine Hk.okN T.F_is_stretch sc_is_stretch (fun vs H Q E h => ?_) (fun cdv A outer s H vs Q E hr h => ?_)
  · obtain ⟨v, d, rfl, _⟩ := h
    rfl
  · obtain ⟨tk_TOP, c_TOP⟩ := T.c_TOP
    obtain ⟨v, d, rfl, hd, k⟩ := h
    have hno : isStr d = false → ∀ H', H' = H → Q (.bl false) H' := fun e H' e' => by rw [e']; rw [e] at k; exact k
    refine ⟨_, (pss_cons (ps_if (PW.pt (pw_or (pt_not (pt_val (pe_callB call_isD (by rfl) T.z_isinstance (by decide +kernel) (pa_cons (pv 0) (pa_cons (pe_bltn (v := .ty "tuple") (by rfl) T.z_tuple (by decide +kernel) rfl) pa_nil))))) (pw_or1 (pt_cmpR op_ne (pe_callB call_len_seq (by rfl) T.z_len (by decide +kernel) (pa_cons (pv 0) pa_nil)) pe_int (nomark _))))) (pss_one (ps_ret pe_bl)) pss_nil)
    (pss_cons (ps_asg (pv 0) (pg_tup (by rfl) (pgs_cons (pg_name (i := 1) sc_is_stretch.nd rfl (Or.inl rfl)) (pgs_cons (pg_name (i := 2) sc_is_stretch.nd rfl (Or.inl rfl)) pgs_nil))))
    (pss_one (ps_ret (pe_and (pe_call (ok_is_whole T) (hr.mono (by decide)) rfl T.g_is_whole T.F_is_whole.kp T.b_is_whole .nil pass0 (pa_cons (pv 1) pa_nil)) (pe_and (pe_call (ok_is_whole T) (hr.mono (by decide)) rfl T.g_is_whole T.F_is_whole.kp T.b_is_whole .nil pass0 (pa_cons (pv 2) pa_nil)) (pe_one (pe_chain3 op_le op_lt op_le pe_int (pv 1) (pv 2) (pe_glob (v := .int 1000000) rfl c_TOP ⟨_, rfl⟩))))))))), ?_⟩
    refine ⟨_, rfl, _, _, _, rfl, okT_tuple, hd, _, rfl, ?_⟩
    refine if2 (fun c => ?_) (fun c => ?_)
    · have c' : isI "tuple" d = false := by cases e : isI "tuple" d <;> simp_all
      refine hno ?_ _ rfl
      cases d with
      | tuple ds => rw [isI_tuple_tuple] at c'; cases c'
      | _ => rfl
    · have c' : isI "tuple" d = true := by cases e : isI "tuple" d <;> simp_all
      obtain ⟨ds, rfl⟩ := tup_of c'
      cases hd with
      | @tup a xs ds h1 h2 =>
        have hl := dpa_len h2
        refine ⟨_, rfl, a, xs, rfl, .inr h1, rfl, _, rfl, ?_⟩
        refine if2 (fun cl => ?_) (fun cl => ?_)
        · refine hno ?_ _ rfl
          have cl' : xs.length ≠ 2 := fun e => by rw [e] at cl; exact absurd cl (by decide)
          unfold isStr
          split
          · rename_i a b e
            cases e
            exact absurd hl cl'
          · rfl
        · have cl' : xs.length = 2 := by
            have z : decide (V.int ((xs.length : Nat) : Int) = V.int 2) = true := by
              cases e : decide (V.int ((xs.length : Nat) : Int) = V.int 2) <;> simp_all
            have z2 := V.int.inj (of_decide_eq_true z)
            omega
          obtain ⟨x, y, rfl⟩ : ∃ x y, xs = [x, y] := by
            match xs, cl' with
            | [x, y], _ => exact ⟨x, y, rfl⟩
          obtain ⟨d1, d2, rfl, hd1, hd2⟩ : ∃ d1 d2, ds = [d1, d2] ∧ Dp K H x d1 ∧ Dp K H y d2 := by
            cases h2 with
            | cons p q =>
              cases q with
              | cons p' q' =>
                cases q'
                exact ⟨_, _, rfl, p, p'⟩
          refine ⟨_, rfl, a, [x, y], rfl, h1, rfl, x, [y], rfl, y, [], rfl, rfl, ?_⟩
          refine ⟨_, rfl, x, d1, rfl, hd1, _, rfl, ?_⟩
          have hw1 : isW d1 = false → isStr (.tuple [d1, d2]) = false := fun e => by
            unfold isStr
            split
            · rename_i e'
              cases e'
              rw [isW_int] at e; cases e
            · rfl
          have hw2 : isW d2 = false → isStr (.tuple [d1, d2]) = false := fun e => by
            unfold isStr
            split
            · rename_i e'
              cases e'
              rw [isW_int] at e; cases e
            · rfl
          refine if2 (fun c1 => ?_) (fun c1 => hno (hw1 c1) _ rfl)
          refine ⟨_, rfl, y, d2, rfl, hd2, _, rfl, ?_⟩
          refine if2 (fun c2 => ?_) (fun c2 => hno (hw2 c2) _ rfl)
          obtain ⟨i, rfl⟩ := isW_not c1
          obtain ⟨j, rfl⟩ := isW_not c2
          cases hd1
          cases hd2
          have k' : Q (.bl (decide (0 ≤ i) && (decide (i < j) && decide (j ≤ 1000000)))) H := k
          refine ⟨_, rfl, _, _, rfl, rfl, _, rfl, ?_⟩
          refine if2 (fun c3 => ?_) (fun c3 => ?_)
          · rw [c3, Bool.true_and] at k'
            refine ⟨_, rfl, _, _, rfl, rfl, _, rfl, ?_⟩
            refine if2 (fun c4 => ?_) (fun c4 => ?_)
            · rw [c4, Bool.true_and] at k'
              exact ⟨_, _, rfl, rfl, k'⟩
            · rw [c4, Bool.false_and] at k'
              exact k'
          · rw [c3, Bool.false_and] at k'
            exact k'
/-! ### _law_draw -/
def sp__law_draw (K : PySem.W.Frag) : Sp := fun vs H Q _ => ∃ (S c : Addr) (m : Int), vs = [.ref S, .int m] ∧ Stm S c H ∧ 1 ≤ m ∧ m < 1073741824 ∧ ∀ (r : Int) H', 0 ≤ r → r < m → Stm S c H' → Ext S H H' → Q (.int r) H'
theorem ok__law_draw (T : Txt P K mg A') : FnOk P w K mg base CX0 2 A'.f__law_draw A'.fd__law_draw ["_law_stream_here", "_law_many"] (sp__law_draw K) := by
  refine Hk.okN T.F__law_draw sc__law_draw (fun vs H Q E h => ?_) (fun cdv A outer s H vs Q E hr h => ?_)
  · obtain ⟨S, c, m, rfl, _⟩ := h
    rfl
  · obtain ⟨S, c, m, rfl, hSt, hm1, hm2, k⟩ := h
    have ncS := hSt.ne
    obtain ⟨ns, p, v, hS, hC, h63, hp, hv⟩ := hSt
    refine ⟨_, (Evl.pss_cut (ps_if (PW.pt (pw_and (pt_cmpR op_eq (pe_ix ix_list (pv 0) pe_int (fun _ _ => rfl)) pe_int (nomark _)) (pw_and1 (pt_cmpR op_lt (pe_ix ix_list (pv 0) pe_int (fun _ _ => rfl)) (pe_callB call_len_seq (by rfl) T.z_len (by decide +kernel) (pa_cons (pe_ix ix_list (pv 0) pe_int (fun _ _ => rfl)) pa_nil)) (nomark _))))) (pss_cons (ps_set (i := 2) sc__law_draw.nd rfl (Or.inl rfl) (pe_ix ix_list (pe_ix ix_list (pv 0) pe_int (fun _ _ => rfl)) (pe_ix ix_list (pv 0) pe_int (fun _ _ => rfl)) (fun _ _ => rfl)))
    (pss_cons (ps_asg (pe_op op_add (pe_ix ix_list (pv 0) pe_int (fun _ _ => rfl)) pe_int) (pg_sub (pv 0) pe_int set_list))
    (pss_cons (ps_asg (pe_callB call_abs (by rfl) T.z_abs (by decide +kernel) (pa_cons (pv 2) pa_nil)) (pg_sub (pv 0) pe_int set_list))
    (pss_one (ps_if (pt_cmpR op_lt (pe_ix ix_list (pv 0) pe_int (fun _ _ => rfl)) (pe_op op_pow pe_int pe_int) (nomark _)) (pss_one (ps_asg (pe_call (ok__law_mixed T) (hr.mono (by decide)) rfl T.g__law_mixed T.F__law_mixed.kp T.b__law_mixed .nil pass0 (pa_cons (pv 2) (pa_cons (pe_ix ix_list (pv 0) pe_int (fun _ _ => rfl)) pa_nil))) (pg_sub (pv 0) pe_int set_list))) pss_nil))))) pss_nil)
    (pss_cons (ps_set (i := 3) sc__law_draw.nd rfl (Or.inl rfl) (pe_op op_mod (pe_callTy call_int1 (by rfl) T.z_int (by decide +kernel) (pa_cons (pe_ix ix_list (pv 0) pe_int (fun _ _ => rfl)) pa_nil)) (pv 1)))
    (pss_cons (ps_asg (pe_op op_fdiv (pe_callTy call_int1 (by rfl) T.z_int (by decide +kernel) (pa_cons (pe_ix ix_list (pv 0) pe_int (fun _ _ => rfl)) pa_nil)) (pv 1)) (pg_sub (pv 0) pe_int set_list))
    (pss_one (ps_ret (pv 3)))))), ?_⟩
    refine ⟨fun σ' H1 => ∃ (p' : Nat) (v' : Int) (z : Option V), σ' = [some (.ref S), some (.int m), z, none] ∧ H1 S = some (.lst [.ref c, .int (p' : Int), .int v']) ∧ H1 c = some (.lst (ns.map V.int)) ∧ p' ≤ ns.length ∧ 0 ≤ v' ∧ Ext S H H1, ?_, ?_⟩
    · refine ⟨_, rfl, S, _, _, _, rfl, rfl, SqL.of hS, rfl, rfl, _, rfl, ?_⟩
      refine if2 (fun c1 => ?_) (fun c1 => ⟨p, v, none, rfl, hS, hC, hp, hv, .refl _ _⟩)
      refine ⟨_, rfl, S, _, _, _, rfl, rfl, SqL.of hS, rfl, _, rfl, S, _, _, _, rfl, rfl, SqL.of hS, rfl, c, _, rfl, .inl (SqL.of hC), _, _, rfl, rfl, _, rfl, ?_⟩
      refine if2 (fun c2 => ?_) (fun c2 => ⟨p, v, none, rfl, hS, hC, hp, hv, .refl _ _⟩)
      have c2' := of_decide_eq_true c2
      rw [List.length_map] at c2'
      have hlt : p < ns.length := by omega
      have hget : (ns.map V.int)[p]? = some (V.int ns[p]) := by rw [List.getElem?_map, List.getElem?_eq_getElem hlt] <;> rfl
      generalize ns[p] = n at hget
      refine ⟨_, rfl, S, _, _, _, rfl, rfl, SqL.of hS, rfl, _, rfl, S, _, _, _, rfl, rfl, SqL.of hS, rfl, c, _, _, _, rfl, rfl, SqL.of hC, atI_nat hget, ?_⟩
      refine ⟨_, rfl, S, _, _, _, rfl, rfl, SqL.of hS, rfl, _, _, rfl, rfl, _, rfl, S, _, _, _, rfl, rfl, hS, rfl, ?_⟩
      refine ⟨_, rfl, _, rfl, _, rfl, S, _, _, _, rfl, rfl, upd_same, rfl, ?_⟩
      have e3 : ∀ {A B : HO}, Ext S H (upd (upd H S A) S B) := fun {A B} => (Ext.at (o := A)).trans .at
      refine ⟨_, rfl, S, _, _, _, rfl, rfl, SqL.of upd_same, rfl, _, _, rfl, rfl, ⟨by decide, by decide, by decide⟩, _, _, rfl, rfl, _, rfl, ?_⟩
      refine if2 (fun c3 => ?_) (fun c3 => ?_)
      · have c3' : (if n < 0 then -n else n) < 1000000000000000000 := of_decide_eq_true c3
        refine ⟨_, rfl, _, rfl, S, _, _, _, rfl, rfl, SqL.of upd_same, rfl, n, p + 1, rfl, by omega, by omega, fun r hr0 => ?_⟩
        refine ⟨_, rfl, S, _, _, _, rfl, rfl, upd_same, rfl, ?_⟩
        exact ⟨p + 1, r, _, rfl, upd_same, by rw [upd_ne ncS, upd_ne ncS, upd_ne ncS]; exact hC, by omega, hr0, e3.trans .at⟩
      · exact ⟨p + 1, _, _, rfl, upd_same, by rw [upd_ne ncS, upd_ne ncS]; exact hC, by omega, by omega, e3⟩
    · rintro σ' H1 ⟨p', v', z, rfl, h1, h2, hp', hv', e1⟩
      refine ⟨_, rfl, S, _, _, _, rfl, rfl, SqL.of h1, rfl, .inl ⟨_, rfl, _, rfl, _, _, rfl, rfl, (show (0 : Int) < m by omega), ?_⟩⟩
      refine ⟨_, rfl, S, _, _, _, rfl, rfl, SqL.of h1, rfl, .inl ⟨_, rfl, _, rfl, _, _, rfl, rfl, ⟨by omega, by omega⟩, _, rfl, S, _, _, _, rfl, rfl, h1, rfl, ?_⟩⟩
      exact ⟨_, rfl, k _ _ (Int.emod_nonneg _ (by omega)) (Int.emod_lt_of_pos _ (by omega)) ⟨ns, p', v' / m, upd_same, by rw [upd_ne ncS]; exact h2, h63, hp', Int.ediv_nonneg hv' (by omega)⟩ (e1.trans .at)⟩
/-! ### _law_same_stretch -/
def sp__law_same_stretch (K : PySem.W.Frag) : Sp := fun vs H Q _ => ∃ (v u : V), vs = [v, u] ∧ ((v = .non ∧ u = .non) ∨ ∃ (p q : Addr) (a b : Int), v = .ref p ∧ u = .ref q ∧ At2 K H p a b ∧ At2 K H q a b) ∧ Q (.bl true) H
theorem ok__law_same_stretch (T : Txt P K mg A') : FnOk P w K mg base CX0 2 A'.f__law_same_stretch A'.fd__law_same_stretch ["_law_told", "_law_due"] (sp__law_same_stretch K) := by
  refine Hk.okN T.F__law_same_stretch sc__law_same_stretch (fun vs H Q E h => ?_) (fun cdv A outer s H vs Q E hr h => ?_)
  · obtain ⟨v, u, rfl, _⟩ := h
    rfl
  · obtain ⟨v, u, rfl, hv, k⟩ := h
    refine ⟨_, (pss_cons (ps_if (pt_cmpR op_isN (pv 1) pe_non (nomark _)) (pss_one (ps_ret (pe_cmpR op_isN (pv 0) pe_non (nomark _)))) pss_nil)
    (pss_one (ps_ret (pe_and (pe_callB call_isD (by rfl) T.z_isinstance (by decide +kernel) (pa_cons (pv 0) (pa_cons (pe_bltn (v := .ty "tuple") (by rfl) T.z_tuple (by decide +kernel) rfl) pa_nil))) (pe_and (pe_cmpR (op_eqD hr.units) (pv 0) (pv 1) (nomark _)) (pe_and (pe_call (ok__law_is_number T) (hr.mono (by decide)) rfl T.g__law_is_number T.F__law_is_number.kp T.b__law_is_number .nil pass0 (pa_cons (pe_ix ix_tup (pv 0) pe_int (fun _ _ => rfl)) pa_nil)) (pe_one (pe_call (ok__law_is_number T) (hr.mono (by decide)) rfl T.g__law_is_number T.F__law_is_number.kp T.b__law_is_number .nil pass0 (pa_cons (pe_ix ix_tup (pv 0) pe_int (fun _ _ => rfl)) pa_nil))))))))), ?_⟩
    rcases hv with ⟨rfl, rfl⟩ | ⟨p, q, a, b, rfl, rfl, hp, hq⟩
    · refine ⟨_, rfl, rfl, _, rfl, ?_⟩
      refine ifT rfl ?_
      exact ⟨_, rfl, rfl, k⟩
    · refine ⟨_, rfl, rfl, _, rfl, ?_⟩
      refine ifF rfl ?_
      refine ⟨_, rfl, _, _, _, rfl, okT_tuple, hp.dp, _, rfl, ?_⟩
      refine ifT (isI_tuple_tuple _) ?_
      refine ⟨_, rfl, _, rfl, _, _, hp.dp, hq.dp, rfl, rfl, ?_⟩
      rw [eqv_self (d := .tuple [.int a, .int b]) rfl]
      refine ⟨_, rfl, ?_⟩
      refine iteT ?_
      refine ⟨_, rfl, p, _, _, _, rfl, rfl, hp, rfl, _, _, rfl, .int a, _, rfl, ?_⟩
      refine ifT (isW_int a) ?_
      refine ⟨_, rfl, p, _, _, _, rfl, rfl, hp, rfl, _, _, rfl, .int b, ?_⟩
      rw [isW_int]
      exact k
/-! ### _law_pick -/
def sp__law_pick (K : PySem.W.Frag) : Sp := fun vs H Q _ => ∃ (S c : Addr) (m : Int), vs = [.ref S, .int m] ∧ Stm S c H ∧ 1 ≤ m ∧ ∀ (r : Int) H', 0 ≤ r → r < m → r < 10 → Stm S c H' → Ext S H H' → Q (.int r) H'
theorem ok__law_pick (T : Txt P K mg A') : FnOk P w K mg base CX0 3 A'.f__law_pick A'.fd__law_pick ["_law_stream_here", "_law_many"] (sp__law_pick K) := by
  refine Hk.okN T.F__law_pick sc__law_pick (fun vs H Q E h => ?_) (fun cdv A outer s H vs Q E hr h => ?_)
  · obtain ⟨S, c, m, rfl, _⟩ := h
    rfl
  · obtain ⟨S, c, m, rfl, hS, hm, k⟩ := h
    refine ⟨_, (pss_one (ps_ret (pe_op op_mod (pe_callTy call_int1 (by rfl) T.z_int (by decide +kernel) (pa_cons (pe_call (ok__law_draw T) (hr.mono (by decide)) rfl T.g__law_draw T.F__law_draw.kp T.b__law_draw .nil pass0 (pa_cons (pv 0) (pa_cons pe_int pa_nil))) pa_nil)) (pv 1)))), ?_⟩
    refine ⟨_, rfl, S, c, 10, rfl, hS, by decide, by decide, fun r H' h0 h1 hs e => .inl ⟨_, rfl, _, rfl, _, _, rfl, rfl, (show (0 : Int) < m by omega), ?_⟩⟩
    have h2 : r % m ≤ r := by
      by_cases c : r < m
      · rw [Int.emod_eq_of_lt h0 c]; exact Int.le_refl _
      · have := Int.emod_lt_of_pos r (show 0 < m by omega); omega
    exact k _ _ (Int.emod_nonneg _ (by omega)) (Int.emod_lt_of_pos _ (by omega)) (by omega) hs e
/-! ### _law_two -/
def sp__law_two (K : PySem.W.Frag) : Sp := fun vs H Q _ => ∃ (p q G : Addr) (a b c d : Int) (ks : List Int), vs = [.ref p, .ref q, .ref G] ∧ At2 K H p a b ∧ At2 K H q c d ∧ a < b ∧ c < d ∧ SqL K H G (ks.map V.int) ∧ ks.length ≤ 1000 ∧ ∀ H', Same H H' → Q (.bl true) H'
/-- what stands in the slots for due and told -/
def DueTold (K : PySem.W.Frag) (a b c d : Int) (u v : V) (H : Hp) : Prop := (max a c < min b d ∧ ∃ r t, u = .ref r ∧ v = .ref t ∧ At2 K H r (max a c) (min b d) ∧ At2 K H t (max a c) (min b d)) ∨ (¬ max a c < min b d ∧ u = .non ∧ v = .non)
theorem DueTold.same {K : PySem.W.Frag} {a b c d : Int} {u v : V} {H H' : Hp} (e : Same H H') (h : DueTold K a b c d u v H) : DueTold K a b c d u v H' := by
  rcases h with ⟨h, r, t, e1, e2, h1, h2⟩ | h
  · exact .inl ⟨h, r, t, e1, e2, h1.same e, h2.same e⟩
  · exact .inr h
/-- how many of the first i keys a, b - 1 lie within c to d - 1 -/
def kept (c d a b : Int) : Nat → Nat
  | 0 => 0
  | 1 => if c ≤ a ∧ a < d then 1 else 0
  | _ => (if c ≤ a ∧ a < d then 1 else 0) + (if c ≤ b - 1 ∧ b - 1 < d then 1 else 0)
theorem kept_le (c d a b : Int) (i : Nat) : kept c d a b i ≤ 2 := by
  unfold kept
  split
  · omega
  · split <;> omega
  · split <;> split <;> omega
theorem ok__law_two (T : Txt P K mg A') : FnOk P w K mg base CX0 3 A'.f__law_two A'.fd__law_two ["_law_one", "_law_other", "_law_keys"] (sp__law_two K) := by
  refine Hk.okN T.F__law_two sc__law_two (fun vs H Q E h => ?_) (fun cdv A outer s H vs Q E hr h => ?_)
  · obtain ⟨p, q, G, a, b, c, d, ks, rfl, _⟩ := h
    rfl
  · obtain ⟨p, q, G, a, b, c, d, ks, rfl, hp, hq, hab, hcd, hG, hz, k⟩ := h
    refine ⟨_, (pss_cons (ps_set (i := 3) sc__law_two.nd rfl (Or.inl rfl) pe_non)
    (Evl.pss_cut (ps_if (pt_cmpR op_lt (pe_callB (call_max2 rfl) (by rfl) T.z_max (by decide +kernel) (pa_cons (pe_ix ix_tup (pv 0) pe_int (fun _ _ => rfl)) (pa_cons (pe_ix ix_tup (pv 1) pe_int (fun _ _ => rfl)) pa_nil))) (pe_callB (call_min2 rfl) (by rfl) T.z_min (by decide +kernel) (pa_cons (pe_ix ix_tup (pv 0) pe_int (fun _ _ => rfl)) (pa_cons (pe_ix ix_tup (pv 1) pe_int (fun _ _ => rfl)) pa_nil))) (nomark _)) (pss_one (ps_set (i := 3) sc__law_two.nd rfl (Or.inl rfl) (pe_tup (pa_cons (pe_callB (call_max2 rfl) (by rfl) T.z_max (by decide +kernel) (pa_cons (pe_ix ix_tup (pv 0) pe_int (fun _ _ => rfl)) (pa_cons (pe_ix ix_tup (pv 1) pe_int (fun _ _ => rfl)) pa_nil))) (pa_cons (pe_callB (call_min2 rfl) (by rfl) T.z_min (by decide +kernel) (pa_cons (pe_ix ix_tup (pv 0) pe_int (fun _ _ => rfl)) (pa_cons (pe_ix ix_tup (pv 1) pe_int (fun _ _ => rfl)) pa_nil))) pa_nil))))) pss_nil)
    (Evl.pss_cut (ps_set (i := 4) sc__law_two.nd rfl (Or.inl rfl) (pe_call (ok_common_stretch T) (hr.mono (by decide)) rfl T.g_common_stretch T.F_common_stretch.kp T.b_common_stretch .nil pass0 (pa_cons (pv 0) (pa_cons (pv 1) pa_nil))))
    (pss_cons (ps_if (pt_not (pt_val (pe_call (ok__law_same_stretch T) (hr.mono (by decide)) rfl T.g__law_same_stretch T.F__law_same_stretch.kp T.b__law_same_stretch .nil pass0 (pa_cons (pv 4) (pa_cons (pv 3) pa_nil))))) (pss_one (ps_ret pe_bl)) pss_nil)
    (Evl.pss_cut (ps_for PassesOwn.never rfl (pi_list (pv 2)) (pg_name (i := 5) sc__law_two.nd rfl (Or.inl rfl)) (pss_cons (ps_set (i := 6) sc__law_two.nd rfl (Or.inl rfl) (pe_and (pe_chain op_le op_lt (pe_ix ix_tup (pv 0) pe_int (fun _ _ => rfl)) (pv 5) (pe_ix ix_tup (pv 0) pe_int (fun _ _ => rfl))) (pe_one (pe_chain op_le op_lt (pe_ix ix_tup (pv 1) pe_int (fun _ _ => rfl)) (pv 5) (pe_ix ix_tup (pv 1) pe_int (fun _ _ => rfl))))))
    (pss_one (ps_if (pt_cmpR op_ne (pv 6) (pe_and (pe_cmpR op_notN (pv 4) pe_non (nomark _)) (pe_one (pe_chain op_le op_lt (pe_ix ix_tup (pv 4) pe_int (fun _ _ => rfl)) (pv 5) (pe_ix ix_tup (pv 4) pe_int (fun _ _ => rfl))))) (nomark _)) (pss_one (ps_ret pe_bl)) pss_nil))))
    (pss_cons (ps_setLc (i := 7) (own := [("_law_key", 5)]) (g := gName 5) (by rfl) sc__law_two.nd rfl rfl (sw_true rfl rfl rfl (by decide +kernel)) (pi_tup (pe_tup (pa_cons (pe_ix ix_tup (pv 0) pe_int (fun _ _ => rfl)) (pa_cons (pe_op op_sub (pe_ix ix_tup (pv 0) pe_int (fun _ _ => rfl)) pe_int) pa_nil)))) (blkOk_by (own := [("_law_key", 5)]) (N := ["_law_one", "_law_other", "_law_keys", "_law_due", "_law_told", "_law_key", "_law_both", "_law_inner"]) (sc := defScope s__law_two) (by decide +kernel)) (fun _ _ _ _ _ => (pg_name (i := 5) sc__law_two.nd rfl (Or.inl rfl))) (fun _ _ _ _ _ => (pts_one (pt_chain op_le op_lt (pe_ix (ixTK (K := K) rfl) (pv 1) pe_int (fun _ _ => rfl)) (pv 5) (pe_ix (ixTK (K := K) rfl) (pv 1) pe_int (fun _ _ => rfl))))) (fun _ _ _ _ _ => (pv 5)))
    (pss_cons (ps_set (i := 4) sc__law_two.nd rfl (Or.inl rfl) (pe_call (ok_lies_within T) (hr.mono (by decide)) rfl T.g_lies_within T.F_lies_within.kp T.b_lies_within .nil pass0 (pa_cons (pv 0) (pa_cons (pv 1) pa_nil))))
    (pss_one (ps_ret (pe_and (pe_callB call_isD (by rfl) T.z_isinstance (by decide +kernel) (pa_cons (pv 4) (pa_cons (pe_bltn (v := .ty "bool") (by rfl) T.z_bool (by decide +kernel) rfl) pa_nil))) (pe_one (pe_cmpR op_eq (pv 4) (pe_cmpR op_eq (pe_callB call_len_seq (by rfl) T.z_len (by decide +kernel) (pa_cons (pv 7) pa_nil)) pe_int (nomark _)) (nomark _))))))))))))), ?_⟩
    refine ⟨fun σ' H' => ∃ u, σ' = [some (.ref p), some (.ref q), some (.ref G), some u, none, none, none, none] ∧ Same H H' ∧ ((max a c < min b d ∧ ∃ r, u = .ref r ∧ At2 K H' r (max a c) (min b d)) ∨ (¬ max a c < min b d ∧ u = .non)), ?_, ?_⟩
    · refine ⟨_, rfl, p, _, _, _, rfl, rfl, hp, rfl, _, rfl, q, _, _, _, rfl, rfl, hq, rfl, _, _, rfl, ?_⟩
      refine ⟨_, rfl, p, _, _, _, rfl, rfl, hp, rfl, _, rfl, q, _, _, _, rfl, rfl, hq, rfl, _, _, rfl, _, _, rfl, rfl, _, rfl, ?_⟩
      rw [imax, imin]
      refine if2 (fun h => ?_) (fun h => ⟨_, rfl, .refl _, .inr ⟨of_decide_eq_false h, rfl⟩⟩)
      refine ⟨_, rfl, p, _, _, _, rfl, rfl, hp, rfl, _, rfl, q, _, _, _, rfl, rfl, hq, rfl, _, _, rfl, ?_⟩
      refine ⟨_, rfl, p, _, _, _, rfl, rfl, hp, rfl, _, rfl, q, _, _, _, rfl, rfl, hq, rfl, _, _, rfl, (by show 2 ≤ sizeLine; decide), fun r nr => ?_⟩
      refine ⟨_, rfl, same_new nr, .inl ⟨of_decide_eq_true h, r, rfl, ?_⟩⟩
      rw [imax, imin]
      exact .inl (.inl upd_same)
    rintro σ' H1 ⟨u, rfl, e1, hu⟩
    refine ⟨fun σ' H' => ∃ v, σ' = [some (.ref p), some (.ref q), some (.ref G), some u, some v, none, none, none] ∧ Same H H' ∧ DueTold K a b c d u v H', ?_, ?_⟩
    · refine ⟨_, rfl, _, rfl, p, q, a, b, c, d, rfl, hp.same e1, hq.same e1, fun h t H2 nt e2 ht => ?_, fun h => ?_⟩
      · rcases hu with ⟨_, r, rfl, hr⟩ | ⟨n, _⟩
        · exact ⟨_, rfl, e1.trans e2, .inl ⟨h, r, t, rfl, rfl, hr.same e2, .inl (.inl ht)⟩⟩
        · exact absurd h n
      · rcases hu with ⟨n, _⟩ | ⟨_, rfl⟩
        · exact absurd n h
        · exact ⟨_, rfl, e1, .inr ⟨h, rfl, rfl⟩⟩
    clear hu
    rintro σ' H2 ⟨v, rfl, e2, hv⟩
    refine ⟨_, rfl, _, rfl, v, u, rfl, ?_, _, rfl, ?_⟩
    · rcases hv with ⟨_, r, t, rfl, rfl, h1, h2⟩ | ⟨_, rfl, rfl⟩
      · exact .inr ⟨t, r, _, _, rfl, rfl, h2, h1⟩
      · exact .inl ⟨rfl, rfl⟩
    refine ifF rfl ?_
    have hp2 := hp.same e2
    have hq2 := hq.same e2
    have hG2 := e2.seq hG
    refine ⟨fun σ' H' => ∃ x y, σ' = [some (.ref p), some (.ref q), some (.ref G), some u, some v, x, y, none] ∧ H' = H2, ?_, ?_⟩
    · refine ⟨_, rfl, G, rfl, ⟨_, hG2⟩, for_list (K := K) (a := G) (xs := ks.map V.int) (fun i σ' H' => ∃ x y, σ' = [some (.ref p), some (.ref q), some (.ref G), some u, some v, x, y, none] ∧ H' = H2) ⟨_, _, rfl, rfl⟩ (fun i σ' H' _ ⟨_, _, _, e⟩ => by rw [e]; exact hG2) ?_ (fun σ' H' h => h)⟩
      rintro i z σ' H' hi ⟨x, y, rfl, rfl⟩
      obtain ⟨n, hn, rfl⟩ := map_some hi
      refine st_set (v := .bl ((decide (a ≤ n) && decide (n < b)) && (decide (c ≤ n) && decide (n < d)))) ?_ ?_
      · exact vl_and (vl_chain (vl_ixT (vl_var rfl) vl_c hp2 rfl) (vl_var rfl) (vl_ixT (vl_var rfl) vl_c hp2 rfl)) (fun _ => vl_chain (vl_ixT (vl_var rfl) vl_c hq2 rfl) (vl_var rfl) (vl_ixT (vl_var rfl) vl_c hq2 rfl))
      · dsimp only
        refine sif_test (b := false) ?_ (fun h => Bool.noConfusion h) (fun _ => ⟨_, _, rfl, rfl⟩)
        rcases hv with ⟨h, r, t, rfl, rfl, h1, h2⟩ | ⟨h, rfl, rfl⟩
        · refine vl_is (vl_ne (vl_var rfl) (vl_and (a := true) (b := decide (max a c ≤ n) && decide (n < min b d)) ?_ fun _ => vl_chain (vl_ixT (vl_var rfl) vl_c h2 rfl) (vl_var rfl) (vl_ixT (vl_var rfl) vl_c h2 rfl)) rfl) ?_
          · exact vl_op (vl_var rfl) vl_c fun Q q => ⟨rfl, q⟩
          · have e : ∀ x y : Bool, x = y → (!decide (V.bl x = V.bl y)) = false := fun x y e => by rw [e]; simp
            refine congrArg V.bl (e _ _ ?_)
            rw [Bool.eq_iff_iff]
            simp only [Bool.and_eq_true, decide_eq_true_eq, Bool.true_and]
            omega
        · refine vl_is (vl_ne (vl_var rfl) (vl_and (a := false) (b := false) ?_ fun h => by cases h) rfl) ?_
          · exact vl_op (vl_var rfl) vl_c fun Q q => ⟨rfl, q⟩
          · have e : ∀ x y : Bool, x = y → (!decide (V.bl x = V.bl y)) = false := fun x y e => by rw [e]; simp
            refine congrArg V.bl (e _ _ ?_)
            rw [Bool.eq_iff_iff]
            simp only [Bool.and_eq_true, decide_eq_true_eq, Bool.false_and, Bool.false_eq_true, iff_false]
            omega
    rintro σ' H3 ⟨x, y, rfl, rfl⟩
    refine ⟨_, rfl, p, _, _, _, rfl, rfl, hp2, rfl, _, rfl, p, _, _, _, rfl, rfl, hp2, rfl, _, _, rfl, rfl, (by show 2 ≤ sizeLine; decide), fun t nt => ?_⟩
    have e3 := same_new (o := .tup [.int a, .int (b - 1)]) nt
    refine ⟨t, rfl, ⟨_, .inl (.inl upd_same)⟩, fun D nD => ?_⟩
    have ntD : t ≠ D := ne_of_none upd_same nD
    have nD0 : H3 D = none := by rw [upd_ne ntD.symm] at nD; exact nD
    refine lc_tup (K := K) (a := t) (xs := [.int a, .int (b - 1)]) (fun i H' => Same H3 H' ∧ H' t = some (.tup [.int a, .int (b - 1)]) ∧ ∃ acc, H' D = some (.lst acc) ∧ acc.length = kept c d a b i) ⟨same_mut e3 nD0, by rw [upd_ne ntD]; exact upd_same, [], upd_same, rfl⟩ (fun i H' _ h => .inl (.inl h.2.1)) ?_ ?_
    · rintro i x H' hi ⟨s1, h1, acc, h2, h3⟩
      obtain ⟨n, rfl, hn⟩ : ∃ n : Int, x = V.int n ∧ kept c d a b (i + 1) = kept c d a b i + (if c ≤ n ∧ n < d then 1 else 0) := by
        match i, hi with
        | 0, h => exact ⟨a, (Option.some.inj h).symm, by simp [kept]⟩
        | 1, h => exact ⟨b - 1, (Option.some.inj h).symm, rfl⟩
      have hz2 : acc.length ≤ 2 := by rw [h3]; exact kept_le c d a b i
      refine ⟨rfl, ?_⟩
      refine tt_val (b := decide (c ≤ n) && decide (n < d)) (vl_chain (vl_ixT (vl_var rfl) vl_c (hq2.same s1) rfl) (vl_var rfl) (vl_ixT (vl_var rfl) vl_c (hq2.same s1) rfl)) ?_
      refine if2 (fun hh => ?_) (fun hh => ?_)
      · simp only [Bool.and_eq_true, decide_eq_true_eq] at hh
        refine ⟨_, rfl, acc, h2, small1000 (by omega), same_mut s1 nD0, by rw [upd_ne ntD]; exact h1, _, upd_same, ?_⟩
        rw [List.length_append, h3, hn, if_pos hh]
        rfl
      · have hh' : ¬ (c ≤ n ∧ n < d) := fun z => by simp [z.1, z.2] at hh
        exact ⟨s1, h1, acc, h2, by rw [hn, if_neg hh', h3]; rfl⟩
    · rintro H' ⟨s1, h1, acc, h2, h3⟩
      refine ⟨_, rfl, _, rfl, p, q, a, b, c, d, rfl, hp2.same s1, hq2.same s1, ?_⟩
      refine ⟨_, rfl, _, _, .bool (decide (c ≤ a) && decide (b ≤ d)), rfl, okT_bool, .bl _, _, rfl, ?_⟩
      refine ifT (isI_bool_bool _) ?_
      refine ⟨_, rfl, _, rfl, D, _, rfl, .inl (SqL.of h2), rfl, rfl, ?_⟩
      have e : decide (V.bl (decide (c ≤ a) && decide (b ≤ d)) = V.bl (decide (V.int ((acc.length : Nat) : Int) = V.int 2))) = true := by
        refine decide_eq_true (congrArg V.bl ?_)
        rw [Bool.eq_iff_iff]
        simp only [Bool.and_eq_true, decide_eq_true_eq, V.int.injEq]
        have h3' : acc.length = (if c ≤ a ∧ a < d then 1 else 0) + (if c ≤ b - 1 ∧ b - 1 < d then 1 else 0) := h3
        rw [h3']
        split <;> split <;> omega
      show Q (V.bl (decide _)) _
      rw [e]
      exact k _ (e2.trans s1)
/-! ### _law_cut_there -/
def sp__law_cut_there (K : PySem.W.Frag) : Sp := fun vs H Q _ => ∃ (p : Addr) (a b x : Int), vs = [.ref p, .int x] ∧ At2 K H p a b ∧ 0 ≤ a ∧ a < b ∧ b ≤ 1000000 ∧ ∀ H', Same H H' → Q (.bl true) H'
theorem str_ok {a b : Int} (h0 : 0 ≤ a) (h1 : a < b) (h2 : b ≤ 1000000) : isStr (.tuple [.int a, .int b]) = true := by
  show (decide (0 ≤ a) && (decide (a < b) && decide (b ≤ 1000000))) = true
  simp [h0, h1, h2]
/-- at l a list of these stretches -/
def Cuts (K : PySem.W.Frag) (H : Hp) (l : Addr) (ps : List (Int × Int)) : Prop := ∃ rs : List Addr, H l = some (.lst (rs.map V.ref)) ∧ rs.length = ps.length ∧ ∀ (i : Nat) (r : Addr) (q : Int × Int), rs[i]? = some r → ps[i]? = some q → At2 K H r q.1 q.2
theorem Cuts.same {K : PySem.W.Frag} {H H' : Hp} {l : Addr} {ps : List (Int × Int)} (e : Same H H') (h : Cuts K H l ps) : Cuts K H' l ps := by
  obtain ⟨rs, h1, h2, h3⟩ := h
  exact ⟨rs, e _ _ h1, h2, fun i r q a b => (h3 i r q a b).same e⟩
theorem cuts1 {K : PySem.W.Frag} {H : Hp} {l p : Addr} {a b : Int} (h : H l = some (.lst [.ref p])) (hp : At2 K H p a b) : Cuts K H l [(a, b)] := by
  refine ⟨[p], h, rfl, fun i r q h1 h2 => ?_⟩
  match i, h1, h2 with
  | 0, h1, h2 =>
    cases Option.some.inj h1
    cases Option.some.inj h2
    exact hp
theorem cuts2 {K : PySem.W.Frag} {H : Hp} {l p r : Addr} {a b c d : Int} (h : H l = some (.lst [.ref p, .ref r])) (hp : At2 K H p a b) (hr : At2 K H r c d) : Cuts K H l [(a, b), (c, d)] := by
  refine ⟨[p, r], h, rfl, fun i r q h1 h2 => ?_⟩
  match i, h1, h2 with
  | 0, h1, h2 =>
    cases Option.some.inj h1
    cases Option.some.inj h2
    exact hp
  | 1, h1, h2 =>
    cases Option.some.inj h1
    cases Option.some.inj h2
    exact hr
theorem dpa_of {K : PySem.W.Frag} {H : Hp} : ∀ {rs : List Addr}, (∀ r ∈ rs, ∃ d, Dp K H (.ref r) d) → ∃ ds, DpAll K H (rs.map V.ref) ds
  | [], _ => ⟨[], .nil⟩
  | r :: rs, h => by
    obtain ⟨d, hd⟩ := h r (by simp)
    obtain ⟨ds, hds⟩ := dpa_of (rs := rs) fun x hx => h x (List.mem_cons_of_mem _ hx)
    exact ⟨d :: ds, .cons hd hds⟩
theorem Cuts.dp {K : PySem.W.Frag} {H : Hp} {l : Addr} {ps : List (Int × Int)} (h : Cuts K H l ps) : ∃ ds, Dp K H (.ref l) (.list ds) := by
  obtain ⟨rs, h1, h2, h3⟩ := h
  obtain ⟨ds, hd⟩ := dpa_of (K := K) (H := H) (rs := rs) fun r hr => by
    obtain ⟨i, hi⟩ := List.mem_iff_getElem?.mp hr
    have hlt : i < ps.length := by rw [← h2]; exact (List.getElem?_eq_some_iff.mp hi).1
    exact ⟨_, (h3 i r _ hi (List.getElem?_eq_getElem hlt)).dp⟩
  exact ⟨ds, .lst (SqL.of h1) hd⟩
def cutPs (a b x : Int) : List (Int × Int) := if a < x ∧ x < b then [(a, x), (x, b)] else [(a, b)]
theorem cutPs_ok {a b x : Int} (h0 : 0 ≤ a) (h1 : a < b) (h2 : b ≤ 1000000) : ∀ q ∈ cutPs a b x, 0 ≤ q.1 ∧ q.1 < q.2 ∧ q.2 ≤ 1000000 := by
  intro q hq
  unfold cutPs at hq
  split at hq
  · rcases List.mem_cons.mp hq with rfl | hq
    · exact ⟨h0, by omega, by omega⟩
    · cases List.mem_singleton.mp hq
      exact ⟨by omega, by omega, h2⟩
  · cases List.mem_singleton.mp hq
    exact ⟨h0, h1, h2⟩
theorem ok__law_cut_there (T : Txt P K mg A') : FnOk P w K mg base CX0 3 A'.f__law_cut_there A'.fd__law_cut_there ["_law_stretch_here", "_law_border"] (sp__law_cut_there K) := by
  refine Hk.okN T.F__law_cut_there sc__law_cut_there (fun vs H Q E h => ?_) (fun cdv A outer s H vs Q E hr h => ?_)
  · obtain ⟨p, a, b, x, rfl, _⟩ := h
    rfl
  · obtain ⟨p, a, b, x, rfl, hp, h0, hab, hb, k⟩ := h
    refine ⟨_, (pss_cons (ps_set (i := 2) sc__law_cut_there.nd rfl (Or.inl rfl) (pe_lst (pa_cons (pv 0) pa_nil)))
    (Evl.pss_cut (ps_if (PW.pt (pw_and (pt_cmpR op_lt (pe_ix ix_tup (pv 0) pe_int (fun _ _ => rfl)) (pv 1) (nomark _)) (pw_and1 (pt_cmpR op_lt (pv 1) (pe_ix ix_tup (pv 0) pe_int (fun _ _ => rfl)) (nomark _))))) (pss_one (ps_set (i := 2) sc__law_cut_there.nd rfl (Or.inl rfl) (pe_lst (pa_cons (pe_tup (pa_cons (pe_ix ix_tup (pv 0) pe_int (fun _ _ => rfl)) (pa_cons (pv 1) pa_nil))) (pa_cons (pe_tup (pa_cons (pv 1) (pa_cons (pe_ix ix_tup (pv 0) pe_int (fun _ _ => rfl)) pa_nil))) pa_nil))))) pss_nil)
    (Evl.pss_cut (ps_set (i := 3) sc__law_cut_there.nd rfl (Or.inl rfl) (pe_call (ok_cut_at T) (hr.mono (by decide)) rfl T.g_cut_at T.F_cut_at.kp T.b_cut_at .nil pass0 (pa_cons (pv 0) (pa_cons (pv 1) pa_nil))))
    (pss_cons (ps_if (PW.pt (pw_or (pt_not (pt_val (pe_callB call_isD (by rfl) T.z_isinstance (by decide +kernel) (pa_cons (pv 3) (pa_cons (pe_bltn (v := .ty "list") (by rfl) T.z_list (by decide +kernel) rfl) pa_nil))))) (pw_or1 (pt_cmpR op_ne (pe_callB call_len_seq (by rfl) T.z_len (by decide +kernel) (pa_cons (pv 3) pa_nil)) (pe_callB call_len_seq (by rfl) T.z_len (by decide +kernel) (pa_cons (pv 2) pa_nil)) (nomark _))))) (pss_one (ps_ret pe_bl)) pss_nil)
    (pss_cons (ps_for PassesOwn.never rfl (pi_range1 (by rfl) T.z_range (pa_cons (pe_callB call_len_seq (by rfl) T.z_len (by decide +kernel) (pa_cons (pv 2) pa_nil)) pa_nil)) (pg_name (i := 4) sc__law_cut_there.nd rfl (Or.inl rfl)) (pss_one (ps_if (PW.pt (pw_or (pt_not (pt_val (pe_call (ok__law_same_stretch T) (hr.mono (by decide)) rfl T.g__law_same_stretch T.F__law_same_stretch.kp T.b__law_same_stretch .nil pass0 (pa_cons (pe_ix ix_list (pv 3) (pv 4) (fun _ _ => rfl)) (pa_cons (pe_ix ix_list (pv 2) (pv 4) (fun _ _ => rfl)) pa_nil))))) (pw_or1 (pt_cmpR op_notBl (pe_call (ok_is_stretch T) (hr.mono (by decide)) rfl T.g_is_stretch T.F_is_stretch.kp T.b_is_stretch .nil pass0 (pa_cons (pe_ix ix_list (pv 3) (pv 4) (fun _ _ => rfl)) pa_nil)) pe_bl (nomark _))))) (pss_one (ps_ret pe_bl)) pss_nil)))
    (pss_one (ps_ret pe_bl))))))), ?_⟩
    refine ⟨_, rfl, (by show 1 ≤ sizeLine; decide), fun d0 nd0 => ?_⟩
    have hp0 := hp.same (same_new (o := .lst [.ref p]) nd0)
    refine ⟨fun σ' H' => ∃ d, σ' = [some (.ref p), some (.int x), some (.ref d), none, none] ∧ Same H H' ∧ Cuts K H' d (cutPs a b x), ?_, ?_⟩
    · have no : ¬ (a < x ∧ x < b) → ∃ d, ([some (.ref p), some (.int x), some (.ref d0), none, none] : L2.St) = [some (.ref p), some (.int x), some (.ref d), none, none] ∧ Same H (upd H d0 (.lst [.ref p])) ∧ Cuts K (upd H d0 (.lst [.ref p])) d (cutPs a b x) := fun h =>
        ⟨d0, rfl, same_new nd0, by unfold cutPs; rw [if_neg h]; exact cuts1 upd_same hp0⟩
      refine tt_val (vl_I0 (vl_ixT (vl_var rfl) vl_c hp0 rfl) (vl_var rfl)) ?_
      refine if2 (fun c1 => ?_) (fun c1 => iteF (no fun z => of_decide_eq_false c1 z.1))
      refine tt_val (vl_I0 (vl_var rfl) (vl_ixT (vl_var rfl) vl_c hp0 rfl)) ?_
      refine if2 (fun c2 => ?_) (fun c2 => no fun z => of_decide_eq_false c2 z.2)
      have c1' := of_decide_eq_true c1
      have c2' := of_decide_eq_true c2
      refine ⟨_, rfl, p, _, _, _, rfl, rfl, hp0, rfl, _, rfl, (by show 2 ≤ sizeLine; decide), fun q nq => ?_⟩
      have hp1 := hp0.same (same_new (o := .tup [.int a, .int x]) nq)
      refine ⟨_, rfl, _, rfl, p, _, _, _, rfl, rfl, hp1, rfl, (by show 2 ≤ sizeLine; decide), fun r nr => ?_⟩
      refine ⟨(by show 2 ≤ sizeLine; decide), fun l nl => ?_⟩
      refine ⟨l, rfl, (((same_new nd0).trans (same_new nq)).trans (same_new nr)).trans (same_new nl), ?_⟩
      unfold cutPs
      rw [if_pos ⟨c1', c2'⟩]
      exact cuts2 upd_same (.inl (.inl (by rw [upd_ne (ne_of_none (by rw [upd_ne (ne_of_none upd_same nr)]; exact upd_same) nl), upd_ne (ne_of_none upd_same nr)]; exact upd_same))) (.inl (.inl (by rw [upd_ne (ne_of_none upd_same nl)]; exact upd_same)))
    rintro σ' H1 ⟨d, rfl, e1, hd⟩
    refine ⟨fun σ' H' => ∃ t, σ' = [some (.ref p), some (.int x), some (.ref d), some (.ref t), none] ∧ Same H H' ∧ Cuts K H' d (cutPs a b x) ∧ Cuts K H' t (cutPs a b x), ?_, ?_⟩
    · refine ⟨_, rfl, _, rfl, p, a, b, x, rfl, hp.same e1, fun h l q r H2 nl e2 hl hq hr => ?_, fun h l q H2 nl e2 hl hq => ?_⟩
      · exact ⟨l, rfl, e1.trans e2, hd.same e2, by unfold cutPs; rw [if_pos h]; exact cuts2 hl (.inl (.inl hq)) (.inl (.inl hr))⟩
      · exact ⟨l, rfl, e1.trans e2, hd.same e2, by unfold cutPs; rw [if_neg h]; exact cuts1 hl (.inl (.inl hq))⟩
    clear hd
    rintro σ' H2 ⟨t, rfl, e2, hd, ht⟩
    obtain ⟨ds, htd⟩ := ht.dp
    obtain ⟨rs, t1, t2, t3⟩ := ht
    obtain ⟨us, d1, d2, d3⟩ := hd
    refine ⟨_, rfl, _, _, _, rfl, okT_list, htd, _, rfl, ?_⟩
    rw [isI_list_list]
    refine ifF rfl ?_
    refine ⟨_, rfl, t, _, rfl, .inl (SqL.of t1), _, rfl, d, _, rfl, .inl (SqL.of d1), rfl, _, rfl, ?_⟩
    refine ifF ?_ ?_
    · rw [List.length_map, List.length_map, t2, d2]
      simp
    refine ⟨_, rfl, d, _, rfl, .inl (SqL.of d1), _, rfl, ?_, ?_, ?_⟩
    · omega
    · rw [List.length_map, d2]
      have : (cutPs a b x).length ≤ 2 := by unfold cutPs; split <;> simp
      omega
    rw [List.length_map]
    refine for_range (lo := 0) (n := us.length) (fun i σ' H' => ∃ z, σ' = [some (.ref p), some (.int x), some (.ref d), some (.ref t), z] ∧ H' = H2) ⟨_, rfl, rfl⟩ ?_ ?_
    · rintro i σ' H' hi ⟨z, rfl, rfl⟩
      have hr1 : i < rs.length := by omega
      have hq1 : i < (cutPs a b x).length := by omega
      have er := List.getElem?_eq_getElem hr1
      have eu := List.getElem?_eq_getElem hi
      have eq := List.getElem?_eq_getElem hq1
      have hA := t3 i _ _ er eq
      have hB := d3 i _ _ eu eq
      obtain ⟨q1, q2, q3⟩ := cutPs_ok h0 hab hb _ (List.getElem_mem hq1)
      generalize rs[i] = r at er hA
      generalize us[i] = u at eu hB
      generalize (cutPs a b x)[i] = q at hA hB q1 q2 q3
      have er' : (rs.map V.ref)[i]? = some (.ref r) := by rw [List.getElem?_map, er] <;> rfl
      have eu' : (us.map V.ref)[i]? = some (.ref u) := by rw [List.getElem?_map, eu] <;> rfl
      refine ⟨_, rfl, _, rfl, t, _, _, _, rfl, rfl, SqL.of t1, at_of (Int.zero_add _) er', _, rfl, _, rfl, d, _, _, _, rfl, rfl, SqL.of d1, at_of (Int.zero_add _) eu', .ref r, .ref u, rfl, .inr ⟨r, u, q.1, q.2, rfl, rfl, hA, hB⟩, _, rfl, ?_⟩
      refine ifF rfl ?_
      refine ⟨_, rfl, _, rfl, t, _, _, _, rfl, rfl, SqL.of t1, at_of (Int.zero_add _) er', .ref r, _, rfl, hA.dp, _, _, rfl, rfl, _, rfl, ?_⟩
      rw [str_ok q1 q2 q3]
      refine ifF rfl ?_
      exact ⟨_, rfl, rfl⟩
    · rintro σ' H' ⟨z, rfl, rfl⟩
      exact k _ e2
/-! ### check_key -/
def sp_check_key (K : PySem.W.Frag) (A' : Ad) : Sp := fun vs H Q E => ∃ (v : V) (d : PyData), vs = [v] ∧ Dp K H v d ∧ shOk d ∧ (isKey d = true → Q v H) ∧
  (isKey d = false → ∀ dx H', Same H H' → H' dx = some (.xd [("key", v)]) → E (.ref A'.c_BadKey) (some dx) H')
theorem ok_check_key (T : Txt P K mg A') : FnOk P w K mg base (L2.CX P w) 4 A'.f_check_key A'.fd_check_key ["key"] (sp_check_key K A') := by
  refine Hk.okX T.F_check_key sc_check_key (fun vs H Q E h => ?_) (fun cdv A outer s H vs Q E hr h => ?_)
  · obtain ⟨v, d, rfl, _⟩ := h
    rfl
  · obtain ⟨v, d, rfl, hd, hs, k1, k2⟩ := h
    refine ⟨_, (pss_cons (ps_if (pt_not (pt_val (pe_call (ok_is_key T) (hr.mono (by decide)) rfl T.g_is_key T.F_is_key.kp T.b_is_key .nil pass0 (pa_cons (pv 0) pa_nil)))) (pss_one (ps_raise rfl (takes_of rfl rfl rfl rfl) (pmk_oex T.s_BadKey.ox T.i_BadKey T.S_KeyFault.fn (ok_init_KeyFault T) (hr.mono (by decide)) T.bi_KeyFault .nil pass0 rfl T.m_BadKey (pa_cons (pv 0) pa_nil)))) pss_nil)
    (pss_one (ps_ret (pv 0)))), ?_⟩
    refine ⟨_, rfl, v, d, rfl, hd, _, rfl, ?_⟩
    refine if2 (fun c => ?_) (fun c => ?_)
    · have c' : isKey d = false := by cases e : isKey d <;> simp_all
      refine ⟨_, rfl, (show 1 ≤ 1000 by decide), fun a na => ?_⟩
      refine ⟨a, A'.c_BadKey, v, rfl, upd_same, T.s_BadKey, ⟨d, dp_same (same_new na) hd, hs⟩, fun dx nd ne => ?_⟩
      refine ⟨rfl, dx, [("key", v)], upd_same, ?_, ?_, ?_⟩
      · rw [upd_ne ne]
        exact upd_same
      · have := nd
        rw [upd_ne ne] at this
        exact this
      · exact k2 c' dx _ (same_exc na nd ne) upd_same
    · have c' : isKey d = true := by cases e : isKey d <;> simp_all
      exact ⟨v, rfl, k1 c'⟩
/-! ### check_stretch -/
def sp_check_stretch (K : PySem.W.Frag) (A' : Ad) : Sp := fun vs H Q E => ∃ (v p : V) (d dp : PyData), vs = [v, p] ∧ Dp K H v d ∧ Dp K H p dp ∧ shOk dp ∧ (isStr d = true → Q v H) ∧
  (isStr d = false → ∀ dx H', Same H H' → H' dx = some (.xd [("place", p)]) → E (.ref A'.c_BadStretch) (some dx) H')
theorem ok_check_stretch (T : Txt P K mg A') : FnOk P w K mg base (L2.CX P w) 4 A'.f_check_stretch A'.fd_check_stretch ["stretch", "place"] (sp_check_stretch K A') := by
  refine Hk.okX T.F_check_stretch sc_check_stretch (fun vs H Q E h => ?_) (fun cdv A outer s H vs Q E hr h => ?_)
  · obtain ⟨v, p, d, dp, rfl, _⟩ := h
    rfl
  · obtain ⟨v, p, d, dp, rfl, hd, hdp, hs, k1, k2⟩ := h
    refine ⟨_, (pss_cons (ps_if (pt_not (pt_val (pe_call (ok_is_stretch T) (hr.mono (by decide)) rfl T.g_is_stretch T.F_is_stretch.kp T.b_is_stretch .nil pass0 (pa_cons (pv 0) pa_nil)))) (pss_one (ps_raise rfl (takes_of rfl rfl rfl rfl) (pmk_oex T.s_BadStretch.ox T.i_BadStretch T.S_PlaceFault.fn (ok_init_PlaceFault T) (hr.mono (by decide)) T.bi_PlaceFault .nil pass0 rfl T.m_BadStretch (pa_cons (pv 1) pa_nil)))) pss_nil)
    (pss_one (ps_ret (pv 0)))), ?_⟩
    refine ⟨_, rfl, v, d, rfl, hd, _, rfl, ?_⟩
    refine if2 (fun c => ?_) (fun c => ?_)
    · have c' : isStr d = false := by cases e : isStr d <;> simp_all
      refine ⟨_, rfl, (show 1 ≤ 1000 by decide), fun a na => ?_⟩
      refine ⟨a, A'.c_BadStretch, p, rfl, upd_same, T.s_BadStretch, ⟨dp, dp_same (same_new na) hdp, hs⟩, fun dx nd ne => ?_⟩
      refine ⟨rfl, dx, [("place", p)], upd_same, ?_, ?_, ?_⟩
      · rw [upd_ne ne]
        exact upd_same
      · have := nd
        rw [upd_ne ne] at this
        exact this
      · exact k2 c' dx _ (same_exc na nd ne) upd_same
    · have c' : isStr d = true := by cases e : isStr d <;> simp_all
      exact ⟨v, rfl, k1 c'⟩
/-! ### _law_grid -/
def sp__law_grid (K : PySem.W.Frag) : Sp := fun vs H Q _ => ∃ (S c : Addr) (m : Int), vs = [.ref S, .int m] ∧ Stm S c H ∧ 1 ≤ m ∧
  ∀ (G : Addr) (gs : List Int) H', H G = none → Ext S H H' → Stm S c H' → Lst S c G gs H' → GridOk gs → Q (.ref G) H'
theorem ok__law_grid (T : Txt P K mg A') : FnOk P w K mg base CX0 4 A'.f__law_grid A'.fd__law_grid ["_law_stream_here", "_law_upper"] (sp__law_grid K) := by
  refine Hk.okN T.F__law_grid sc__law_grid (fun vs H Q E h => ?_) (fun cdv A outer s H vs Q E hr h => ?_)
  · obtain ⟨S, c, m, rfl, _⟩ := h
    rfl
  · obtain ⟨S, c, m, rfl, hS, hm, k⟩ := h
    refine ⟨_, (pss_cons (ps_set (i := 2) sc__law_grid.nd rfl (Or.inl rfl) (pe_op op_add pe_int (pe_call (ok__law_pick T) (hr.mono (by decide)) rfl T.g__law_pick T.F__law_pick.kp T.b__law_pick .nil pass0 (pa_cons (pv 0) (pa_cons (pv 1) pa_nil)))))
    (pss_cons (ps_set (i := 3) sc__law_grid.nd rfl (Or.inl rfl) (pe_call (ok__law_pick T) (hr.mono (by decide)) rfl T.g__law_pick T.F__law_pick.kp T.b__law_pick .nil pass0 (pa_cons (pv 0) (pa_cons pe_int pa_nil))))
    (pss_cons (ps_set (i := 4) sc__law_grid.nd rfl (Or.inl rfl) (pe_call (ok__law_pick T) (hr.mono (by decide)) rfl T.g__law_pick T.F__law_pick.kp T.b__law_pick .nil pass0 (pa_cons (pv 0) (pa_cons pe_int pa_nil))))
    (Evl.pss_cut (ps_if (pt_cmpR op_gt (pv 3) pe_int (nomark _)) (pss_one (ps_set (i := 4) sc__law_grid.nd rfl (Or.inl rfl) (pe_op op_mod (pe_callTy call_int1 (by rfl) T.z_int (by decide +kernel) (pa_cons (pe_call (ok__law_draw T) (hr.mono (by decide)) rfl T.g__law_draw T.F__law_draw.kp T.b__law_draw .nil pass0 (pa_cons (pv 0) (pa_cons pe_int pa_nil))) pa_nil)) pe_int))) pss_nil)
    (pss_cons (ps_set (i := 5) sc__law_grid.nd rfl (Or.inl rfl) (pe_lst (pa_cons (pv 4) pa_nil)))
    (Evl.pss_cut (ps_for PassesOwn.never rfl (pi_range1 (by rfl) T.z_range (pa_cons (pv 2) pa_nil)) (pg_name (i := 6) sc__law_grid.nd rfl (Or.inl rfl)) (Evl.pss_cut (ps_if (pt_cmpR op_gt (pv 3) pe_int (nomark _)) (pss_one (ps_set (i := 4) sc__law_grid.nd rfl (Or.inl rfl) (pe_op op_add (pe_op op_add (pv 4) pe_int) (pe_call (ok__law_draw T) (hr.mono (by decide)) rfl T.g__law_draw T.F__law_draw.kp T.b__law_draw .nil pass0 (pa_cons (pv 0) (pa_cons pe_int pa_nil)))))) (pss_one (ps_set (i := 4) sc__law_grid.nd rfl (Or.inl rfl) (pe_op op_add (pe_op op_add (pv 4) pe_int) (pe_call (ok__law_pick T) (hr.mono (by decide)) rfl T.g__law_pick T.F__law_pick.kp T.b__law_pick .nil pass0 (pa_cons (pv 0) (pa_cons pe_int pa_nil)))))))
    (pss_one (ps_expr (pe_bm PySem.F.plainAttrs_list PySem.F.slot_list_append PySem.F.type_list_append mt_append (pv 5) (pa_cons (pv 4) pa_nil))))))
    (Evl.pss_cut (ps_if (PW.pt (pw_or (pt_cmpR op_eq (pv 3) pe_int (nomark _)) (pw_or1 (pt_cmpR op_eq (pv 3) pe_int (nomark _))))) (pss_one (ps_asg pe_int (pg_sub (pv 5) pe_int set_list))) pss_nil)
    (pss_cons (ps_if (pt_cmpR op_gt (pv 3) pe_int (nomark _)) (pss_one (ps_asg pe_int (pg_sub (pv 5) (pv 2) set_list))) pss_nil)
    (pss_one (ps_ret (pv 5))))))))))), ?_⟩
    refine ⟨_, rfl, _, rfl, S, c, m, rfl, hS, hm, fun r1 H1 a1 b1 c1 hS1 e1 => ⟨_, _, rfl, rfl, ?_⟩⟩
    refine ⟨_, rfl, S, c, 10, rfl, hS1, by decide, fun wd H2 a2 b2 c2 hS2 e2 => ?_⟩
    refine ⟨_, rfl, S, c, 3, rfl, hS2, by decide, fun r3 H3 a3 b3 c3 hS3 e3 => ?_⟩
    have e123 := (e1.trans e2).trans e3
    refine ⟨fun σ' H' => ∃ pt : Int, σ' = [some (.ref S), some (.int m), some (.int (1 + r1)), some (.int wd), some (.int pt), none, none] ∧ 0 ≤ pt ∧ pt < 900000 ∧ Stm S c H' ∧ Ext S H H', ?_, ?_⟩
    · refine ⟨_, rfl, _, _, rfl, rfl, _, rfl, ?_⟩
      refine if2 (fun _ => ?_) (fun _ => ⟨r3, rfl, a3, by omega, hS3, e123⟩)
      refine ⟨_, rfl, S, c, 1000000, rfl, hS3, by decide, by decide, fun r H4 a4 b4 hS4 e4 => .inl ⟨_, rfl, _, _, rfl, rfl, (show (0 : Int) < 900000 by decide), ?_⟩⟩
      exact ⟨_, rfl, Int.emod_nonneg _ (by decide), Int.emod_lt_of_pos _ (by decide), hS4, e123.trans e4⟩
    rintro σ' H4 ⟨pt, rfl, p0, p1, hS4, e4⟩
    refine ⟨_, rfl, (by show 1 ≤ sizeLine; decide), fun G nG => ?_⟩
    have nGS := ext_ne hS4 nG
    have nGc := ext_nc hS4 nG
    have nG0 := ext_free hS4 e4 nG
    refine ⟨fun σ' H' => ∃ (pt : Int) (gs : List Int) (z : Option V), σ' = [some (.ref S), some (.int m), some (.int (1 + r1)), some (.int wd), some (.int pt), some (.ref G), z] ∧ gs.length = r1.toNat + 2 ∧
      Lst S c G gs H' ∧ (∀ x ∈ gs, 0 ≤ x ∧ x < 1000000) ∧ gs.Pairwise (· < ·) ∧ Stm S c H' ∧ Ext S H H', ?_, ?_⟩
    · refine ⟨_, rfl, _, rfl, by omega, by omega, ?_⟩
      refine for_range (lo := 0) (n := (1 + r1).toNat) (fun i σ' H' => ∃ (pt : Int) (gs : List Int) (z : Option V), σ' = [some (.ref S), some (.int m), some (.int (1 + r1)), some (.int wd), some (.int pt), some (.ref G), z] ∧ gs.length = i + 1 ∧
        Lst S c G gs H' ∧ (∀ x ∈ gs, 0 ≤ x ∧ x ≤ pt) ∧ 0 ≤ pt ∧ pt < 900000 + 1000 * (i : Int) ∧ gs.Pairwise (· < ·) ∧ Stm S c H' ∧ Ext S H H') ?_ ?_ ?_
      · exact ⟨pt, [pt], none, rfl, rfl, ⟨nGS, nGc, upd_same⟩, fun x hx => by have e := List.mem_singleton.mp hx; omega, p0, by omega, List.pairwise_singleton _ _, stm_new hS4 nG, e4.trans (.new nG)⟩
      · rintro i σ' H' hi ⟨pt, gs, z, rfl, hl, hG, hr, q0, q1, asc, hS', e'⟩
        refine ⟨fun σ2 H2 => ∃ (pt' : Int) (z : Option V), σ2 = [some (.ref S), some (.int m), some (.int (1 + r1)), some (.int wd), some (.int pt'), some (.ref G), z] ∧ pt < pt' ∧ pt' ≤ pt + 1000 ∧ Lst S c G gs H2 ∧ Stm S c H2 ∧ Ext S H H2, ?_, ?_⟩
        · refine ⟨_, rfl, _, _, rfl, rfl, _, rfl, ?_⟩
          refine if2 (fun _ => ?_) (fun _ => ?_)
          · refine ⟨_, rfl, _, _, rfl, rfl, _, rfl, S, c, 1000, rfl, hS', by decide, by decide, fun r H5 a5 b5 hS5 e5 => ⟨_, _, rfl, rfl, ?_⟩⟩
            exact ⟨_, _, rfl, by omega, by omega, hG.ext e5, hS5, e'.trans e5⟩
          · refine ⟨_, rfl, _, _, rfl, rfl, _, rfl, S, c, 3, rfl, hS', by decide, fun r H5 a5 b5 _ hS5 e5 => ⟨_, _, rfl, rfl, ?_⟩⟩
            exact ⟨_, _, rfl, by omega, by omega, hG.ext e5, hS5, e'.trans e5⟩
        rintro σ2 H2 ⟨pt', z', rfl, l1, l2, hG2, hS2, e2⟩
        refine ⟨_, rfl, .inl ⟨rfl, _, hG2.sq⟩, _, rfl, G, _, _, rfl, rfl, hG2.2.2, ?_, ?_⟩
        · rw [List.length_map]
          exact small1000 (by omega)
        refine ⟨pt', gs ++ [pt'], _, rfl, by rw [List.length_append, hl]; rfl, ⟨nGS, nGc, by rw [upd_same, List.map_append]; rfl⟩, fun x hx => ?_, by omega, by omega, ?_, ?_, ?_⟩
        · rcases List.mem_append.mp hx with hx | hx
          · have := hr x hx; omega
          · have e := List.mem_singleton.mp hx; omega
        · rw [List.pairwise_append]
          exact ⟨asc, List.pairwise_singleton _ _, fun a ha b hb => by have e := List.mem_singleton.mp hb; have := (hr a ha).2; omega⟩
        · exact stm_put hS2 nGS nGc
        · exact ext_mut e2 nG0
      · rintro σ' H' ⟨pt, gs, z, rfl, hl, hG, hr, q0, q1, asc, hS', e'⟩
        exact ⟨pt, gs, z, rfl, by omega, hG, fun x hx => by have := hr x hx; omega, asc, hS', e'⟩
    rintro σ' H5 ⟨pt0, gs, z0, rfl, hl, hG, hr, asc, hS5, e5⟩
    have hrng : ∀ x ∈ gs, 0 ≤ x ∧ x ≤ 1000000 := fun x hx => by have := hr x hx; omega
    have fin : ∀ (gs' : List Int) (H' : Hp), gs'.length = gs.length → (∀ x ∈ gs', 0 ≤ x ∧ x ≤ 1000000) → gs'.Pairwise (· < ·) → Lst S c G gs' H' → Stm S c H' → Ext S H H' → Q (.ref G) H' := fun gs' H' l r a h1 h2 h3 =>
      k G gs' H' nG0 h3 h2 h1 ⟨by omega, by omega, r, a⟩
    refine ⟨fun σ' H' => ∃ (pt : Int) (gs' : List Int) (z : Option V), σ' = [some (.ref S), some (.int m), some (.int (1 + r1)), some (.int wd), some (.int pt), some (.ref G), z] ∧ gs'.length = gs.length ∧
      Lst S c G gs' H' ∧ (∀ x ∈ gs', 0 ≤ x ∧ x < 1000000) ∧ gs'.Pairwise (· < ·) ∧ Stm S c H' ∧ Ext S H H', ?_, ?_⟩
    · have put : ∃ (pt : Int) (gs' : List Int) (z : Option V), ([some (.ref S), some (.int m), some (.int (1 + r1)), some (.int wd), some (.int pt0), some (.ref G), z0] : L2.St) = [some (.ref S), some (.int m), some (.int (1 + r1)), some (.int wd), some (.int pt), some (.ref G), z] ∧ gs'.length = gs.length ∧
          Lst S c G gs' (upd H5 G (.lst ((gs.map V.int).set 0 (.int 0)))) ∧ (∀ x ∈ gs', 0 ≤ x ∧ x < 1000000) ∧ gs'.Pairwise (· < ·) ∧ Stm S c (upd H5 G (.lst ((gs.map V.int).set 0 (.int 0)))) ∧ Ext S H (upd H5 G (.lst ((gs.map V.int).set 0 (.int 0)))) := by
        refine ⟨pt0, gs.set 0 0, z0, rfl, by rw [List.length_set], ⟨nGS, nGc, by rw [upd_same, List.map_set]⟩, fun x hx => ?_, grid_first asc fun x hx => (hr x hx).1, stm_put hS5 nGS nGc, ext_mut e5 nG0⟩
        rcases List.mem_or_eq_of_mem_set hx with hx | rfl
        · exact hr x hx
        · decide
      refine ⟨_, rfl, rfl, _, rfl, ?_⟩
      have hix : ixN (gs.map V.int).length 0 = some 0 := Evl.ixN_nat (j := 0) (by rw [List.length_map]; omega)
      refine if2 (fun _ => ?_) (fun _ => ?_)
      · refine iteT ?_
        exact ⟨_, rfl, G, _, _, _, rfl, rfl, hG.2.2, hix, put⟩
      · refine ⟨_, rfl, rfl, _, rfl, ?_⟩
        refine if2 (fun _ => ?_) (fun _ => ⟨pt0, gs, z0, rfl, rfl, hG, hr, asc, hS5, e5⟩)
        exact ⟨_, rfl, G, _, _, _, rfl, rfl, hG.2.2, hix, put⟩
    rintro σ' H6 ⟨pt, gs', z, rfl, hl', hG', hr', asc', hS6, e6⟩
    refine ⟨_, rfl, _, _, rfl, rfl, _, rfl, ?_⟩
    refine if2 (fun _ => ?_) (fun _ => ⟨_, rfl, fin gs' H6 hl' (fun x hx => by have := hr' x hx; omega) asc' hG' hS6 e6⟩)
    have hj : r1.toNat + 1 < gs'.length := by omega
    refine ⟨_, rfl, _, rfl, G, _, _, r1.toNat + 1, rfl, rfl, hG'.2.2, ?_, ?_⟩
    · have e : (1 : Int) + r1 = ((r1.toNat + 1 : Nat) : Int) := by omega
      show ixN (gs'.map V.int).length (1 + r1) = _
      rw [e]
      exact Evl.ixN_nat (by rw [List.length_map]; exact hj)
    · refine ⟨_, rfl, fin (gs'.set (r1.toNat + 1) 1000000) _ (by rw [List.length_set]; exact hl') (fun x hx => ?_) (grid_last asc' (fun x hx => (hr' x hx).2) (by omega)) ⟨nGS, nGc, by rw [upd_same, List.map_set]⟩ (stm_put hS6 nGS nGc) (ext_mut e6 nG0)⟩
      rcases List.mem_or_eq_of_mem_set hx with hx | rfl
      · have := hr' x hx; omega
      · decide
/-! ### _law_stretch -/
def sp__law_stretch (K : PySem.W.Frag) : Sp := fun vs H Q _ => ∃ (S c G : Addr) (gs : List Int), vs = [.ref S, .ref G] ∧ Stm S c H ∧ Lst S c G gs H ∧ GridOk gs ∧
  ∀ (t : Addr) (a b : Int) H', H t = none → Ext S H H' → Stm S c H' → H' t = some (.tup [.int a, .int b]) → 0 ≤ a → a < b → b ≤ 1000000 → Q (.ref t) H'
theorem ok__law_stretch (T : Txt P K mg A') : FnOk P w K mg base CX0 4 A'.f__law_stretch A'.fd__law_stretch ["_law_stream_here", "_law_grid_here"] (sp__law_stretch K) := by
  refine Hk.okN T.F__law_stretch sc__law_stretch (fun vs H Q E h => ?_) (fun cdv A outer s H vs Q E hr h => ?_)
  · obtain ⟨S, c, G, gs, rfl, _⟩ := h
    rfl
  · obtain ⟨S, c, G, gs, rfl, hS, hG, ok, k⟩ := h
    have t2 := ok.two
    have t3 := ok.most
    refine ⟨_, (pss_cons (ps_set (i := 2) sc__law_stretch.nd rfl (Or.inl rfl) (pe_call (ok__law_pick T) (hr.mono (by decide)) rfl T.g__law_pick T.F__law_pick.kp T.b__law_pick .nil pass0 (pa_cons (pv 0) (pa_cons (pe_op op_sub (pe_callB call_len_seq (by rfl) T.z_len (by decide +kernel) (pa_cons (pv 1) pa_nil)) pe_int) pa_nil))))
    (pss_cons (ps_set (i := 3) sc__law_stretch.nd rfl (Or.inl rfl) (pe_op op_add (pe_op op_add (pv 2) pe_int) (pe_call (ok__law_pick T) (hr.mono (by decide)) rfl T.g__law_pick T.F__law_pick.kp T.b__law_pick .nil pass0 (pa_cons (pv 0) (pa_cons (pe_op op_sub (pe_op op_sub (pe_callB call_len_seq (by rfl) T.z_len (by decide +kernel) (pa_cons (pv 1) pa_nil)) pe_int) (pv 2)) pa_nil)))))
    (pss_one (ps_ret (pe_tup (pa_cons (pe_ix ix_list (pv 1) (pv 2) (fun _ _ => rfl)) (pa_cons (pe_ix ix_list (pv 1) (pv 3) (fun _ _ => rfl)) pa_nil))))))), ?_⟩
    refine ⟨_, rfl, _, rfl, G, _, rfl, .inl (hG.sq), _, _, rfl, rfl, S, c, _, rfl, hS, (by rw [List.length_map]; omega), fun lo H1 a1 b1 _ hS1 e1 => ?_⟩
    have hG1 := hG.ext e1
    rw [List.length_map] at b1
    obtain ⟨i, rfl⟩ := Int.eq_ofNat_of_zero_le a1
    refine ⟨_, rfl, _, _, rfl, rfl, _, rfl, _, rfl, G, _, rfl, .inl (hG1.sq), _, _, rfl, rfl, _, rfl, _, _, rfl, rfl, S, c, _, rfl, hS1, (by rw [List.length_map]; omega), fun hi H2 a2 b2 _ hS2 e2 => ⟨_, _, rfl, rfl, ?_⟩⟩
    have hG2 := hG1.ext e2
    rw [List.length_map] at b2
    obtain ⟨j, rfl⟩ := Int.eq_ofNat_of_zero_le a2
    have hi1 : i < gs.length := by omega
    have hj1 : i + 1 + j < gs.length := by omega
    refine ⟨_, rfl, _, rfl, G, _, _, _, rfl, rfl, hG2.sq, atI_nat (map_get hi1), _, rfl, _, rfl, G, _, _, _, rfl, rfl, hG2.sq, at_of (j := i + 1 + j) (by show (i : Int) + 1 + (j : Int) = _; omega) (map_get hj1), (by show 2 ≤ sizeLine; decide), fun t nt => ?_⟩
    have e12 := e1.trans e2
    have nt0 := ext_free hS2 e12 nt
    refine k t _ _ _ nt0 (e12.trans (.new nt)) (stm_new hS2 nt) upd_same (ok.rng _ (List.getElem_mem hi1)).1 ?_ (ok.rng _ (List.getElem_mem hj1)).2
    exact List.pairwise_iff_getElem.mp ok.asc i (i + 1 + j) hi1 hj1 (by omega)
/-! ### _law_no_key -/
def sp__law_no_key (K : PySem.W.Frag) : Sp := fun vs H Q _ => ∃ (v : V) (d : PyData), vs = [v] ∧ Dp K H v d ∧ SeqAt.shaped (.list [d, .bool true, .bool false]) = true ∧ shOk d ∧ isKey d = false ∧ ∀ H', Same H H' → Q (.bl true) H'
theorem ok__law_no_key (T : Txt P K mg A') : FnOk P w K mg base CX0 5 A'.f__law_no_key A'.fd__law_no_key ["_law_key"] (sp__law_no_key K) := by
  refine Hk.okN T.F__law_no_key sc__law_no_key (fun vs H Q E h => ?_) (fun cdv A outer s H vs Q E hr h => ?_)
  · obtain ⟨v, d, rfl, _⟩ := h
    rfl
  · obtain ⟨v, d, rfl, hd, hsh, hs, hk, k⟩ := h
    refine ⟨_, (pss_cons (ps_set (i := 1) sc__law_no_key.nd rfl (Or.inl rfl) pe_non)
    (pss_cons (ps_try_as (i := 2) (Wout := fun _ _ _ _ => False) rfl rfl sc__law_no_key.nd rfl rfl ⟨rfl, by decide, Or.inl T.m_BadKey⟩ takes0
    (fun W pn xe tk _ => (pss_one (ps_expr (pe_callS (ok_check_key T) (hr.mono (by decide)) rfl T.g_check_key T.F_check_key.kp T.b_check_key (fun σ => passAt tk σ) (pa_cons (pv 0) pa_nil)))))
    (fun a oe cls d pn hz hf => (pss_one (ps_set (i := 1) sc__law_no_key.nd rfl (Or.inl rfl) (pe_lst (pa_cons (pe_xf T.y_BadKey T.s_BadKey.nf hz hf (pv 2)) (pa_cons (pe_callB (Lk.call_isX T.x_BadKey hz hf) (by rfl) T.z_isinstance (by decide +kernel) (pa_cons (pv 2) (pa_cons (pe_glob (v := .ref A'.c_StoreError) rfl T.m_StoreError rfl) pa_nil))) (pa_cons (pe_callB (Lk.call_isXT T.x_BadKey hz hf) (by rfl) T.z_isinstance (by decide +kernel) (pa_cons (pv 2) (pa_cons (pe_tup (pa_cons (pe_glob (v := .ref A'.c_BadBatch) rfl T.m_BadBatch rfl) (pa_cons (pe_glob (v := .ref A'.c_BadField) rfl T.m_BadField rfl) (pa_cons (pe_glob (v := .ref A'.c_BadStretch) rfl T.m_BadStretch rfl) pa_nil)))) pa_nil))) pa_nil))))))))
    (pss_one (ps_ret (pe_and (pe_cmpR op_isBl (pe_call (ok_is_key T) (hr.mono (by decide)) rfl T.g_is_key T.F_is_key.kp T.b_is_key .nil pass0 (pa_cons (pv 0) pa_nil)) pe_bl (nomark _)) (pe_one (pe_cmpR (op_eqD hr.units) (pv 1) (pe_lst (pa_cons (pv 0) (pa_cons pe_bl (pa_cons pe_bl pa_nil)))) (nomark _)))))))), ?_⟩
    refine ⟨_, rfl, v, d, rfl, hd, hs, (fun h => by rw [hk] at h; cases h), fun _ dx H1 e1 hx => ?_⟩
    refine ⟨true, T.e_BadKey, fun _ a _ => ?_, fun q => Bool.noConfusion q⟩
    refine ⟨_, rfl, rfl, rfl, dx, _, v, rfl, hx, lk1, _, rfl, _, _, _, dx, _, rfl, .own _, rfl, rfl, hx, T.k_BadKey_StoreError, ?_⟩
    refine ⟨_, rfl, (by show 3 ≤ sizeLine; decide), fun tp ntp => ?_⟩
    refine ⟨tp, _, _, _, dx, _, rfl, upd_same, .cons (.own _) (.cons (.own _) (.cons (.own _) .nil)), rfl, rfl, (by rw [upd_ne (ne_of_none hx ntp)]; exact hx), kit3 T.k_BadKey_BadBatch T.k_BadKey_BadField T.k_BadKey_BadStretch, ?_⟩
    refine ⟨(by show 3 ≤ sizeLine; decide), fun l nl => ?_⟩
    have e2 := (e1.trans (same_new ntp)).trans (same_new (o := .lst [v, .bl true, .bl false]) nl)
    refine ⟨_, rfl, v, d, rfl, dp_same e2 hd, _, _, rfl, rfl, _, rfl, ?_⟩
    rw [hk]
    refine iteT ?_
    refine ⟨_, rfl, _, rfl, (by show 3 ≤ sizeLine; decide), fun l2 nl2 => ?_⟩
    have e3 := e2.trans (same_new (o := .lst [v, .bl true, .bl false]) nl2)
    have hd3 := dp_same e3 hd
    have all3 := DpAll.cons hd3 (.cons (.bl true) (.cons (.bl false) .nil))
    refine ⟨_, _, .lst (SqL.of (by rw [upd_ne (ne_of_none upd_same nl2)]; exact upd_same)) all3, .lst (SqL.of upd_same) all3, hsh, hsh, ?_⟩
    exact q_eqv hsh (k _ e3)
/-! ### _law_no_stretch -/
def sp__law_no_stretch (K : PySem.W.Frag) : Sp := fun vs H Q _ => ∃ (v : V) (d : PyData) (p : Int), vs = [v, .int p] ∧ Dp K H v d ∧ isStr d = false ∧ ∀ H', Same H H' → Q (.bl true) H'
theorem shOk_int (i : Int) : shOk (.int i) := ⟨fun x h => (by cases h), fun x h => (by cases h)⟩
theorem ok__law_no_stretch (T : Txt P K mg A') : FnOk P w K mg base CX0 5 A'.f__law_no_stretch A'.fd__law_no_stretch ["_law_thing", "_law_place"] (sp__law_no_stretch K) := by
  refine Hk.okN T.F__law_no_stretch sc__law_no_stretch (fun vs H Q E h => ?_) (fun cdv A outer s H vs Q E hr h => ?_)
  · obtain ⟨v, d, p, rfl, _⟩ := h
    rfl
  · obtain ⟨v, d, p, rfl, hd, hk, k⟩ := h
    obtain ⟨ds, hbd, hvd⟩ := T.dd1_check_stretch
    refine ⟨_, (pss_cons (ps_set (i := 2) sc__law_no_stretch.nd rfl (Or.inl rfl) pe_non)
    (Evl.pss_cut (ps_try_as (i := 3) (Wout := fun _ _ _ _ => False) rfl rfl sc__law_no_stretch.nd rfl rfl ⟨rfl, by decide, Or.inl T.m_BadStretch⟩ takes0
    (fun W pn xe tk _ => (pss_one (ps_if (pt_cmpR op_lt (pv 1) pe_int (nomark _)) (pss_one (ps_expr (pe_callSD (ok_check_stretch T) (hr.mono (by decide)) rfl T.g_check_stretch T.F_check_stretch.kp hbd hvd (fun σ => passAt tk σ) (pa_cons (pv 0) pa_nil)))) (pss_one (ps_expr (pe_callS (ok_check_stretch T) (hr.mono (by decide)) rfl T.g_check_stretch T.F_check_stretch.kp T.b_check_stretch (fun σ => passAt tk σ) (pa_cons (pv 0) (pa_cons (pv 1) pa_nil))))))))
    (fun a oe cls d pn hz hf => (pss_one (ps_set (i := 2) sc__law_no_stretch.nd rfl (Or.inl rfl) (pe_lst (pa_cons (pe_xf T.y_BadStretch T.s_BadStretch.nf hz hf (pv 3)) (pa_cons (pe_callB (Lk.call_isX T.x_BadStretch hz hf) (by rfl) T.z_isinstance (by decide +kernel) (pa_cons (pv 3) (pa_cons (pe_glob (v := .ref A'.c_StoreError) rfl T.m_StoreError rfl) pa_nil))) (pa_cons (pe_callB (Lk.call_isXT T.x_BadStretch hz hf) (by rfl) T.z_isinstance (by decide +kernel) (pa_cons (pv 3) (pa_cons (pe_tup (pa_cons (pe_glob (v := .ref A'.c_BadBatch) rfl T.m_BadBatch rfl) (pa_cons (pe_glob (v := .ref A'.c_BadField) rfl T.m_BadField rfl) (pa_cons (pe_glob (v := .ref A'.c_BadKey) rfl T.m_BadKey rfl) pa_nil)))) pa_nil))) pa_nil))))))))
    (pss_one (ps_ret (pe_and (pe_cmpR op_isBl (pe_call (ok_is_stretch T) (hr.mono (by decide)) rfl T.g_is_stretch T.F_is_stretch.kp T.b_is_stretch .nil pass0 (pa_cons (pv 0) pa_nil)) pe_bl (nomark _)) (pe_one (pe_cmpR (op_eqD hr.units) (pv 2) (pe_lst (pa_cons (pe_callB (call_max2 rfl) (by rfl) T.z_max (by decide +kernel) (pa_cons pe_int (pa_cons (pv 1) pa_nil))) (pa_cons pe_bl (pa_cons pe_bl pa_nil)))) (nomark _)))))))), ?_⟩
    refine ⟨fun σ' H' => ∃ l, σ' = [some v, some (.int p), some (.ref l), none] ∧ Same H H' ∧ H' l = some (.lst [.int (max 0 p), .bl true, .bl false]), ?_, ?_⟩
    · refine ⟨_, rfl, _, _, rfl, rfl, _, rfl, ?_⟩
      refine if2 (fun c => ?_) (fun c => ?_)
      · have c' := of_decide_eq_true c
        have ep : max 0 p = 0 := by omega
        refine ⟨_, rfl, v, .int 0, d, .int 0, rfl, hd, .int 0, shOk_int 0, (fun h => by rw [hk] at h; cases h), fun _ dx H1 e1 hx => ?_⟩
        refine ⟨true, T.e_BadStretch, fun _ a _ => ?_, fun q => Bool.noConfusion q⟩
        refine ⟨_, rfl, rfl, rfl, dx, _, _, rfl, hx, lk1, _, rfl, _, _, _, dx, _, rfl, .own _, rfl, rfl, hx, T.k_BadStretch_StoreError, ?_⟩
        refine ⟨_, rfl, (by show 3 ≤ sizeLine; decide), fun tp ntp => ?_⟩
        refine ⟨tp, _, _, _, dx, _, rfl, upd_same, .cons (.own _) (.cons (.own _) (.cons (.own _) .nil)), rfl, rfl, (by rw [upd_ne (ne_of_none hx ntp)]; exact hx), kit3 T.k_BadStretch_BadBatch T.k_BadStretch_BadField T.k_BadStretch_BadKey, ?_⟩
        refine ⟨(by show 3 ≤ sizeLine; decide), fun l nl => ?_⟩
        exact ⟨l, rfl, (e1.trans (same_new ntp)).trans (same_new nl), by rw [upd_same, ep]⟩
      · have c' := of_decide_eq_false c
        have ep : max 0 p = p := by omega
        refine ⟨_, rfl, _, rfl, v, .int p, d, .int p, rfl, hd, .int p, shOk_int p, (fun h => by rw [hk] at h; cases h), fun _ dx H1 e1 hx => ?_⟩
        refine ⟨true, T.e_BadStretch, fun _ a _ => ?_, fun q => Bool.noConfusion q⟩
        refine ⟨_, rfl, rfl, rfl, dx, _, _, rfl, hx, lk1, _, rfl, _, _, _, dx, _, rfl, .own _, rfl, rfl, hx, T.k_BadStretch_StoreError, ?_⟩
        refine ⟨_, rfl, (by show 3 ≤ sizeLine; decide), fun tp ntp => ?_⟩
        refine ⟨tp, _, _, _, dx, _, rfl, upd_same, .cons (.own _) (.cons (.own _) (.cons (.own _) .nil)), rfl, rfl, (by rw [upd_ne (ne_of_none hx ntp)]; exact hx), kit3 T.k_BadStretch_BadBatch T.k_BadStretch_BadField T.k_BadStretch_BadKey, ?_⟩
        refine ⟨(by show 3 ≤ sizeLine; decide), fun l nl => ?_⟩
        exact ⟨l, rfl, (e1.trans (same_new ntp)).trans (same_new nl), by rw [upd_same, ep]⟩
    rintro σ' H1 ⟨l, rfl, e1, hl⟩
    refine ⟨_, rfl, v, d, rfl, dp_same e1 hd, _, _, rfl, rfl, _, rfl, ?_⟩
    rw [hk]
    refine iteT ?_
    refine ⟨_, rfl, _, rfl, _, _, rfl, (by show 3 ≤ sizeLine; decide), fun l2 nl2 => ?_⟩
    have emax : (if p > 0 then p else 0) = max 0 p := by omega
    rw [emax]
    have all3 : DpAll K (upd H1 l2 (.lst [.int (max 0 p), .bl true, .bl false])) [.int (max 0 p), .bl true, .bl false] [.int (max 0 p), .bool true, .bool false] := .cons (.int _) (.cons (.bl true) (.cons (.bl false) .nil))
    refine ⟨_, _, .lst (SqL.of (by rw [upd_ne (ne_of_none hl nl2)]; exact hl)) all3, .lst (SqL.of upd_same) all3, rfl, rfl, ?_⟩
    exact q_eqv rfl (k _ (e1.trans (same_new nl2)))
end
end Kx

set_option Elab.async false
set_option linter.all false
set_option maxRecDepth 100000
set_option maxHeartbeats 4000000
namespace Kx
open PySem PySem.Spec PyProof.Rows L2 Lk
section
variable {P : Program} {w : World} {K : PySem.W.Frag} {mg : Str → Option Value} {base : Heap} {A' : Ad}
/-! ### law -/
def sp_law (K : PySem.W.Frag) : Sp := fun vs H Q _ => ∃ (a : Addr) (ns : List Int), vs = [.ref a] ∧ SqL K H a (ns.map V.int) ∧ ns.length ≤ 63 ∧ ∀ H', Q (.bl true) H'
/-- what _law_no_key is told of -/
def NoK (K : PySem.W.Frag) (H : Hp) (v : V) : Prop := ∃ d, Dp K H v d ∧ SeqAt.shaped (.list [d, .bool true, .bool false]) = true ∧ shOk d ∧ isKey d = false
def NoS (K : PySem.W.Frag) (H : Hp) (v : V) : Prop := ∃ d, Dp K H v d ∧ isStr d = false
theorem NoK.same {K : PySem.W.Frag} {H H' : Hp} {v : V} (e : Same H H') (h : NoK K H v) : NoK K H' v := by
  obtain ⟨d, h1, h2⟩ := h
  exact ⟨d, dp_same e h1, h2⟩
theorem NoS.same {K : PySem.W.Frag} {H H' : Hp} {v : V} (e : Same H H') (h : NoS K H v) : NoS K H' v := by
  obtain ⟨d, h1, h2⟩ := h
  exact ⟨d, dp_same e h1, h2⟩
theorem nok_int {K : PySem.W.Frag} {H : Hp} {i : Int} (h : isKey (.int i) = false) : NoK K H (.int i) := ⟨.int i, .int i, rfl, shOk_int i, h⟩
theorem shOk_of {d : PyData} (h : ∀ x, d ≠ .str x) : shOk d := ⟨fun x e => absurd e (h x), fun x e => absurd e (h x)⟩
theorem odd_ok {K : PySem.W.Frag} {H : Hp} {o1 o2 o3 o4 o5 o6 o7 o8 o9 : Addr} (u1 : Dp K H (.ref o1) (.tuple [.int 3, .int 3])) (u2 : Dp K H (.ref o2) (.tuple [.int 5, .int 2])) (u3 : Dp K H (.ref o3) (.tuple [.int (-1), .int 4]))
    (u4 : Dp K H (.ref o4) (.tuple [.int 0, .int 1000001])) (u5 : Dp K H (.ref o5) (.list [.int 0, .int 4])) (u6 : Dp K H (.ref o6) (.tuple [.int 0, .int 4, .int 5])) (u7 : Dp K H (.ref o7) (.tuple [.bool true, .int 4]))
    (u8 : Dp K H (.ref o8) (.tuple [.int 0, .none])) (u9 : Dp K H (.ref o9) (.tuple [.int 4])) : ∀ v ∈ ([.ref o1, .ref o2, .ref o3, .ref o4, .ref o5, .ref o6, .ref o7, .ref o8, .non, .ref o9] : List V), NoS K H v := by
  intro v hv
  simp only [List.mem_cons, List.not_mem_nil, or_false] at hv
  rcases hv with rfl | rfl | rfl | rfl | rfl | rfl | rfl | rfl | rfl | rfl
  · exact ⟨_, u1, rfl⟩
  · exact ⟨_, u2, rfl⟩
  · exact ⟨_, u3, rfl⟩
  · exact ⟨_, u4, rfl⟩
  · exact ⟨_, u5, rfl⟩
  · exact ⟨_, u6, rfl⟩
  · exact ⟨_, u7, rfl⟩
  · exact ⟨_, u8, rfl⟩
  · exact ⟨_, .non, rfl⟩
  · exact ⟨_, u9, rfl⟩
theorem atI_mem {xs : List V} {n : Nat} (h : n < xs.length) : ∃ v, atI xs (n : Int) = some v ∧ v ∈ xs := ⟨_, atI_nat (List.getElem?_eq_getElem h), List.getElem_mem h⟩
theorem ok_law (T : Txt P K mg A') : FnOk P w K mg base CX0 6 A'.f_law A'.fd_law ["_law_script"] (sp_law K) := by
  refine Hk.okN T.F_law sc_law (fun vs H Q E h => ?_) (fun cdv A outer s H vs Q E hr h => ?_)
  · obtain ⟨a, ns, rfl, _⟩ := h
    rfl
  · obtain ⟨tk_TOP, c_TOP⟩ := T.c_TOP
    obtain ⟨a, ns, rfl, hA, hl, k⟩ := h
    obtain ⟨ds, hbd, hvd⟩ := T.dd1_check_stretch
    refine ⟨_, (pss_cons (ps_set (i := 1) sc_law.nd rfl (Or.inl rfl) (pe_call (ok__law_stream T) (hr.mono (by decide)) rfl T.g__law_stream T.F__law_stream.kp T.b__law_stream .nil pass0 (pa_cons (pv 0) pa_nil)))
    (pss_cons (ps_set (i := 2) sc_law.nd rfl (Or.inl rfl) (pe_call (ok__law_grid T) (hr.mono (by decide)) rfl T.g__law_grid T.F__law_grid.kp T.b__law_grid .nil pass0 (pa_cons (pv 1) (pa_cons pe_int pa_nil))))
    (pss_cons (ps_set (i := 3) sc_law.nd rfl (Or.inl rfl) (pe_call (ok__law_stretch T) (hr.mono (by decide)) rfl T.g__law_stretch T.F__law_stretch.kp T.b__law_stretch .nil pass0 (pa_cons (pv 1) (pa_cons (pv 2) pa_nil))))
    (pss_cons (ps_set (i := 4) sc_law.nd rfl (Or.inl rfl) (pe_call (ok__law_stretch T) (hr.mono (by decide)) rfl T.g__law_stretch T.F__law_stretch.kp T.b__law_stretch .nil pass0 (pa_cons (pv 1) (pa_cons (pv 2) pa_nil))))
    (pss_cons (ps_set (i := 5) sc_law.nd rfl (Or.inl rfl) (pe_call (ok__law_pick T) (hr.mono (by decide)) rfl T.g__law_pick T.F__law_pick.kp T.b__law_pick .nil pass0 (pa_cons (pv 1) (pa_cons pe_int pa_nil))))
    (pss_cons (ps_set (i := 6) sc_law.nd rfl (Or.inl rfl) (pe_op op_sub (pe_op op_add (pe_ix ix_list (pv 2) (pe_call (ok__law_pick T) (hr.mono (by decide)) rfl T.g__law_pick T.F__law_pick.kp T.b__law_pick .nil pass0 (pa_cons (pv 1) (pa_cons (pe_callB call_len_seq (by rfl) T.z_len (by decide +kernel) (pa_cons (pv 2) pa_nil)) pa_nil))) (fun _ _ => rfl)) (pe_call (ok__law_pick T) (hr.mono (by decide)) rfl T.g__law_pick T.F__law_pick.kp T.b__law_pick .nil pass0 (pa_cons (pv 1) (pa_cons pe_int pa_nil)))) pe_int))
    (Evl.pss_cut (ps_if (pt_cmpR op_gt (pv 5) pe_int (nomark _)) (pss_one (ps_set (i := 6) sc_law.nd rfl (Or.inl rfl) (pe_op op_sub (pe_op op_mul (pe_op op_mul (pv 6) (pe_op op_sub (pv 5) pe_int)) pe_int) (pe_op op_pow pe_int pe_int)))) pss_nil)
    (pss_cons (ps_set (i := 7) sc_law.nd rfl (Or.inl rfl) (pe_ix ix_tup (pe_tup (pa_cons (pe_un un_neg pe_int) (pa_cons pe_int (pa_cons pe_bl (pa_cons pe_bl (pa_cons pe_non (pa_cons pe_str (pa_cons (pe_tup (pa_cons pe_int pa_nil)) (pa_cons pe_int (pa_cons (pe_un un_neg pe_int) (pa_cons (pe_lst (pa_cons pe_int pa_nil)) pa_nil))))))))))) (pe_call (ok__law_pick T) (hr.mono (by decide)) rfl T.g__law_pick T.F__law_pick.kp T.b__law_pick .nil pass0 (pa_cons (pv 1) (pa_cons pe_int pa_nil))) (fun _ _ => rfl)))
    (pss_cons (ps_set (i := 8) sc_law.nd rfl (Or.inl rfl) (pe_tup (pa_cons (pe_tup (pa_cons pe_int (pa_cons pe_int pa_nil))) (pa_cons (pe_tup (pa_cons pe_int (pa_cons pe_int pa_nil))) (pa_cons (pe_tup (pa_cons (pe_un un_neg pe_int) (pa_cons pe_int pa_nil))) (pa_cons (pe_tup (pa_cons pe_int (pa_cons pe_int pa_nil))) (pa_cons (pe_lst (pa_cons pe_int (pa_cons pe_int pa_nil))) (pa_cons (pe_tup (pa_cons pe_int (pa_cons pe_int (pa_cons pe_int pa_nil)))) (pa_cons (pe_tup (pa_cons pe_bl (pa_cons pe_int pa_nil))) (pa_cons (pe_tup (pa_cons pe_int (pa_cons pe_non pa_nil))) (pa_cons pe_non (pa_cons (pe_tup (pa_cons pe_int pa_nil)) pa_nil))))))))))))
    (pss_cons (ps_set (i := 9) sc_law.nd rfl (Or.inl rfl) (pe_ix ix_tup (pv 8) (pe_call (ok__law_pick T) (hr.mono (by decide)) rfl T.g__law_pick T.F__law_pick.kp T.b__law_pick .nil pass0 (pa_cons (pv 1) (pa_cons pe_int pa_nil))) (fun _ _ => rfl)))
    (pss_cons (ps_set (i := 10) sc_law.nd rfl (Or.inl rfl) (pe_call (ok__law_pick T) (hr.mono (by decide)) rfl T.g__law_pick T.F__law_pick.kp T.b__law_pick .nil pass0 (pa_cons (pv 1) (pa_cons pe_int pa_nil))))
    (pss_cons (ps_set (i := 11) sc_law.nd rfl (Or.inl rfl) (pe_call (ok__law_look_keys T) (hr.mono (by decide)) rfl T.g__law_look_keys T.F__law_look_keys.kp T.b__law_look_keys .nil pass0 (pa_cons (pv 2) pa_nil)))
    (Evl.pss_cut (ps_for PassesOwn.never rfl (pi_list (pv 11)) (pg_name (i := 12) sc_law.nd rfl (Or.inl rfl)) (pss_one (ps_if (PW.pt (pw_or (pt_cmpR op_notBl (pe_call (ok_is_key T) (hr.mono (by decide)) rfl T.g_is_key T.F_is_key.kp T.b_is_key .nil pass0 (pa_cons (pv 12) pa_nil)) pe_bl (nomark _)) (pw_or (pt_not (pt_val (pe_call (ok__law_is_number T) (hr.mono (by decide)) rfl T.g__law_is_number T.F__law_is_number.kp T.b__law_is_number .nil pass0 (pa_cons (pe_call (ok_check_key T) (hr.mono (by decide)) rfl T.g_check_key T.F_check_key.kp T.b_check_key .nil passL (pa_cons (pv 12) pa_nil)) pa_nil)))) (pw_or1 (pt_cmpR op_ne (pe_call (ok_check_key T) (hr.mono (by decide)) rfl T.g_check_key T.F_check_key.kp T.b_check_key .nil passL (pa_cons (pv 12) pa_nil)) (pv 12) (nomark _)))))) (pss_one (ps_ret pe_bl)) pss_nil)))
    (Evl.pss_cut (ps_for PassesOwn.never rfl (pi_tup (pe_tup (pa_cons (pv 3) (pa_cons (pv 4) pa_nil)))) (pg_name (i := 13) sc_law.nd rfl (Or.inl rfl)) (pss_cons (ps_set (i := 14) sc_law.nd rfl (Or.inl rfl) (pe_lst (pa_cons (pe_call (ok_check_stretch T) (hr.mono (by decide)) rfl T.g_check_stretch T.F_check_stretch.kp hbd hvd passL (pa_cons (pv 13) pa_nil)) (pa_cons (pe_call (ok_check_stretch T) (hr.mono (by decide)) rfl T.g_check_stretch T.F_check_stretch.kp T.b_check_stretch .nil passL (pa_cons (pv 13) (pa_cons (pv 10) pa_nil))) pa_nil))))
    (pss_one (ps_if (PW.pt (pw_or (pt_cmpR op_notBl (pe_call (ok_is_stretch T) (hr.mono (by decide)) rfl T.g_is_stretch T.F_is_stretch.kp T.b_is_stretch .nil pass0 (pa_cons (pv 13) pa_nil)) pe_bl (nomark _)) (pw_or (pt_cmpR (op_neD hr.units) (pv 14) (pe_lst (pa_cons (pv 13) (pa_cons (pv 13) pa_nil))) (nomark _)) (pw_or1 (pt_not (pt_val (pe_call (ok__law_cut_there T) (hr.mono (by decide)) rfl T.g__law_cut_there T.F__law_cut_there.kp T.b__law_cut_there .nil pass0 (pa_cons (pv 13) (pa_cons (pv 6) pa_nil))))))))) (pss_one (ps_ret pe_bl)) pss_nil))))
    (pss_cons (ps_if (PW.pt (pw_or (pt_cmpR op_ne (pe_glob (v := .int 1000000) rfl c_TOP ⟨_, rfl⟩) pe_int (nomark _)) (pw_or (pt_not (pt_val (pe_call (ok__law_no_key T) (hr.mono (by decide)) rfl T.g__law_no_key T.F__law_no_key.kp T.b__law_no_key .nil pass0 (pa_cons (pv 7) pa_nil)))) (pw_or (pt_not (pt_val (pe_call (ok__law_no_stretch T) (hr.mono (by decide)) rfl T.g__law_no_stretch T.F__law_no_stretch.kp T.b__law_no_stretch .nil pass0 (pa_cons (pv 9) (pa_cons (pe_un un_neg pe_int) pa_nil))))) (pw_or1 (pt_not (pt_val (pe_call (ok__law_no_stretch T) (hr.mono (by decide)) rfl T.g__law_no_stretch T.F__law_no_stretch.kp T.b__law_no_stretch .nil pass0 (pa_cons (pv 9) (pa_cons (pv 10) pa_nil)))))))))) (pss_one (ps_ret pe_bl)) pss_nil)
    (pss_one (ps_ret (pe_and (pe_call (ok__law_two T) (hr.mono (by decide)) rfl T.g__law_two T.F__law_two.kp T.b__law_two .nil pass0 (pa_cons (pv 3) (pa_cons (pv 4) (pa_cons (pv 11) pa_nil)))) (pe_one (pe_call (ok__law_two T) (hr.mono (by decide)) rfl T.g__law_two T.F__law_two.kp T.b__law_two .nil pass0 (pa_cons (pv 4) (pa_cons (pv 3) (pa_cons (pv 11) pa_nil))))))))))))))))))))))), ?_⟩
    refine ⟨_, rfl, a, ns, rfl, hA, hl, fun S c H1 nS e1 hS => ?_⟩
    refine ⟨_, rfl, S, c, 8, rfl, hS, by decide, fun G gs H2 nG e2 hS2 hG ok => ?_⟩
    refine ⟨_, rfl, _, rfl, S, c, G, gs, rfl, hS2, hG, ok, fun p a1 b1 H3 np e3 hS3 hp p0 p1 p2 => ?_⟩
    have npS := tup_ne hS3 hp
    have hG := hG.ext e3
    refine ⟨_, rfl, _, rfl, S, c, G, gs, rfl, hS3, hG, ok, fun q c1 d1 H4 nq e4 hS4 hq q0 q1 q2 => ?_⟩
    have nqS := tup_ne hS4 hq
    have hG := hG.ext e4
    have hp := e4 _ _ npS hp
    refine ⟨_, rfl, S, c, 10, rfl, hS4, by decide, fun wy H5 w0 w1 _ hS5 e5 => ?_⟩
    have hG := hG.ext e5
    have hp := e5 _ _ npS hp
    have hq := e5 _ _ nqS hq
    have okt := ok.two
    refine ⟨_, rfl, _, rfl, _, rfl, G, _, rfl, .inl hG.sq, S, c, _, rfl, hS5, (by rw [List.length_map]; omega), fun bi H6 b0 b1' _ hS6 e6 => ?_⟩
    rw [List.length_map] at b1'
    obtain ⟨bi, rfl⟩ := Int.eq_ofNat_of_zero_le b0
    have hG := hG.ext e6
    have hp := e6 _ _ npS hp
    have hq := e6 _ _ nqS hq
    have hbi : bi < gs.length := by omega
    refine ⟨G, _, _, _, rfl, rfl, hG.sq, atI_nat (map_get hbi), _, rfl, S, c, 3, rfl, hS6, by decide, fun b3 H7 _ _ _ hS7 e7 => ⟨_, _, rfl, rfl, _, _, rfl, rfl, ?_⟩⟩
    have hG := hG.ext e7
    have hp := e7 _ _ npS hp
    have hq := e7 _ _ nqS hq
    have hbd := ok.rng _ (List.getElem_mem hbi)
    refine ⟨fun σ' H' => ∃ bd : Int, σ' = [some (.ref a), some (.ref S), some (.ref G), some (.ref p), some (.ref q), some (.int wy), some (.int bd), none, none, none, none, none, none, none, none] ∧ H' = H7, ?_, ?_⟩
    · refine ⟨_, rfl, _, _, rfl, rfl, _, rfl, ?_⟩
      refine if2 (fun _ => ?_) (fun _ => ⟨_, rfl, rfl⟩)
      refine ⟨_, rfl, _, rfl, _, _, rfl, rfl, _, _, rfl, rfl, .inr (by omega), _, _, rfl, rfl, .inr (by decide), _, _, rfl, rfl, ⟨by decide, by decide, by decide⟩, _, _, rfl, rfl, ?_⟩
      exact ⟨_, rfl, rfl⟩
    rintro σ' H' ⟨bd, rfl, rfl⟩
    refine ⟨_, rfl, (by show 1 ≤ sizeLine; decide), fun t1 nt1 => ?_⟩
    refine ⟨_, rfl, (by show 1 ≤ sizeLine; decide), fun l1 nl1 => ?_⟩
    refine ⟨(by show 10 ≤ sizeLine; decide), fun m nm => ?_⟩
    have g1 : Dp K _ _ _ := new_tupS (K := K) hS7 nt1 (.cons (.int 3) .nil)
    have hS8 := stm_new (o := .tup [.int 3]) hS7 nt1
    have g2 : Dp K _ _ _ := new_lstS (K := K) hS8 nl1 (.cons (.int 4) .nil)
    have g1 := keepS (o := .lst [.int 4]) nl1 g1
    have hS8 := stm_new (o := .lst [.int 4]) hS8 nl1
    have nmS := ext_ne hS8 nm
    have s8 := ((same_new (o := .tup [.int 3]) nt1).trans (same_new (o := .lst [.int 4]) nl1))
    have keyOk : ∀ v ∈ ([.int (-1), .int 1000000, .bl true, .bl false, .non, .str "5", .ref t1, .int 1000001, .int (-1000000000000), .ref l1] : List V), NoK K (hid S (upd (upd H' t1 (.tup [.int 3])) l1 (.lst [.int 4]))) v := by
      intro v hv
      simp only [List.mem_cons, List.not_mem_nil, or_false] at hv
      rcases hv with rfl | rfl | rfl | rfl | rfl | rfl | rfl | rfl | rfl | rfl
      · exact nok_int rfl
      · exact nok_int rfl
      · exact ⟨_, .bl true, rfl, shOk_of (fun x e => by cases e), rfl⟩
      · exact ⟨_, .bl false, rfl, shOk_of (fun x e => by cases e), rfl⟩
      · exact ⟨_, .non, rfl, shOk_of (fun x e => by cases e), rfl⟩
      · exact ⟨_, .str "5", by decide +kernel, ⟨fun x e _ => by cases e; decide +kernel, fun x e => by cases e; decide +kernel⟩, rfl⟩
      · exact ⟨_, g1, rfl, shOk_of (fun x e => by cases e), rfl⟩
      · exact nok_int rfl
      · exact nok_int rfl
      · exact ⟨_, g2, rfl, shOk_of (fun x e => by cases e), rfl⟩
    generalize hxs : ([.int (-1), .int 1000000, .bl true, .bl false, .non, .str "5", .ref t1, .int 1000001, .int (-1000000000000), .ref l1] : List V) = xs at keyOk
    have hS9 := stm_new (o := .tup xs) hS8 nm
    subst hxs
    refine ⟨_, rfl, S, c, 10, rfl, hS9, by decide, fun r H8 r0 r1 _ hS10 e8 => ?_⟩
    obtain ⟨n, rfl⟩ := Int.eq_ofNat_of_zero_le r0
    obtain ⟨vk, hvk, mk⟩ := atI_mem (xs := [.int (-1), .int 1000000, .bl true, .bl false, .non, .str "5", .ref t1, .int 1000001, .int (-1000000000000), .ref l1]) (n := n) (by show n < 10; omega)
    have hNK := ((keyOk vk mk).same (hid_same (same_new nm))).same (hid_ext e8)
    have eK : Ext S H' H8 := ((Ext.of s8).trans (.new nm)).trans e8
    refine ⟨m, _, _, vk, rfl, rfl, .inl (.inl (e8 _ _ nmS upd_same)), hvk, ?_⟩
    have hG := hG.ext eK
    have hp := eK _ _ npS hp
    have hq := eK _ _ nqS hq
    refine ⟨(by show 2 ≤ sizeLine; decide), fun o1 no1 => ?_⟩
    have u1 : Dp K _ _ _ := new_tupS (K := K) hS10 no1 (.cons (.int 3) (.cons (.int 3) .nil))
    have hT1 := stm_new (o := .tup [.int 3, .int 3]) hS10 no1
    have z1 := same_new (o := .tup [.int 3, .int 3]) no1
    refine ⟨(by show 2 ≤ sizeLine; decide), fun o2 no2 => ?_⟩
    have u2 : Dp K _ _ _ := new_tupS (K := K) hT1 no2 (.cons (.int 5) (.cons (.int 2) .nil))
    have u1 := keepS (o := .tup [.int 5, .int 2]) no2 u1
    have hT2 := stm_new (o := .tup [.int 5, .int 2]) hT1 no2
    have z2 := z1.trans (same_new (o := .tup [.int 5, .int 2]) no2)
    refine ⟨_, rfl, (by show 2 ≤ sizeLine; decide), fun o3 no3 => ?_⟩
    have u3 : Dp K _ _ _ := new_tupS (K := K) hT2 no3 (.cons (.int (-1)) (.cons (.int 4) .nil))
    have u1 := keepS (o := .tup [.int (-1), .int 4]) no3 u1
    have u2 := keepS (o := .tup [.int (-1), .int 4]) no3 u2
    have hT3 := stm_new (o := .tup [.int (-1), .int 4]) hT2 no3
    have z3 := z2.trans (same_new (o := .tup [.int (-1), .int 4]) no3)
    refine ⟨(by show 2 ≤ sizeLine; decide), fun o4 no4 => ?_⟩
    have u4 : Dp K _ _ _ := new_tupS (K := K) hT3 no4 (.cons (.int 0) (.cons (.int 1000001) .nil))
    have u1 := keepS (o := .tup [.int 0, .int 1000001]) no4 u1
    have u2 := keepS (o := .tup [.int 0, .int 1000001]) no4 u2
    have u3 := keepS (o := .tup [.int 0, .int 1000001]) no4 u3
    have hT4 := stm_new (o := .tup [.int 0, .int 1000001]) hT3 no4
    have z4 := z3.trans (same_new (o := .tup [.int 0, .int 1000001]) no4)
    refine ⟨(by show 2 ≤ sizeLine; decide), fun o5 no5 => ?_⟩
    have u5 : Dp K _ _ _ := new_lstS (K := K) hT4 no5 (.cons (.int 0) (.cons (.int 4) .nil))
    have u1 := keepS (o := .lst [.int 0, .int 4]) no5 u1
    have u2 := keepS (o := .lst [.int 0, .int 4]) no5 u2
    have u3 := keepS (o := .lst [.int 0, .int 4]) no5 u3
    have u4 := keepS (o := .lst [.int 0, .int 4]) no5 u4
    have hT5 := stm_new (o := .lst [.int 0, .int 4]) hT4 no5
    have z5 := z4.trans (same_new (o := .lst [.int 0, .int 4]) no5)
    refine ⟨(by show 3 ≤ sizeLine; decide), fun o6 no6 => ?_⟩
    have u6 : Dp K _ _ _ := new_tupS (K := K) hT5 no6 (.cons (.int 0) (.cons (.int 4) (.cons (.int 5) .nil)))
    have u1 := keepS (o := .tup [.int 0, .int 4, .int 5]) no6 u1
    have u2 := keepS (o := .tup [.int 0, .int 4, .int 5]) no6 u2
    have u3 := keepS (o := .tup [.int 0, .int 4, .int 5]) no6 u3
    have u4 := keepS (o := .tup [.int 0, .int 4, .int 5]) no6 u4
    have u5 := keepS (o := .tup [.int 0, .int 4, .int 5]) no6 u5
    have hT6 := stm_new (o := .tup [.int 0, .int 4, .int 5]) hT5 no6
    have z6 := z5.trans (same_new (o := .tup [.int 0, .int 4, .int 5]) no6)
    refine ⟨(by show 2 ≤ sizeLine; decide), fun o7 no7 => ?_⟩
    have u7 : Dp K _ _ _ := new_tupS (K := K) hT6 no7 (.cons (.bl true) (.cons (.int 4) .nil))
    have u1 := keepS (o := .tup [.bl true, .int 4]) no7 u1
    have u2 := keepS (o := .tup [.bl true, .int 4]) no7 u2
    have u3 := keepS (o := .tup [.bl true, .int 4]) no7 u3
    have u4 := keepS (o := .tup [.bl true, .int 4]) no7 u4
    have u5 := keepS (o := .tup [.bl true, .int 4]) no7 u5
    have u6 := keepS (o := .tup [.bl true, .int 4]) no7 u6
    have hT7 := stm_new (o := .tup [.bl true, .int 4]) hT6 no7
    have z7 := z6.trans (same_new (o := .tup [.bl true, .int 4]) no7)
    refine ⟨(by show 2 ≤ sizeLine; decide), fun o8 no8 => ?_⟩
    have u8 : Dp K _ _ _ := new_tupS (K := K) hT7 no8 (.cons (.int 0) (.cons .non .nil))
    have u1 := keepS (o := .tup [.int 0, .non]) no8 u1
    have u2 := keepS (o := .tup [.int 0, .non]) no8 u2
    have u3 := keepS (o := .tup [.int 0, .non]) no8 u3
    have u4 := keepS (o := .tup [.int 0, .non]) no8 u4
    have u5 := keepS (o := .tup [.int 0, .non]) no8 u5
    have u6 := keepS (o := .tup [.int 0, .non]) no8 u6
    have u7 := keepS (o := .tup [.int 0, .non]) no8 u7
    have hT8 := stm_new (o := .tup [.int 0, .non]) hT7 no8
    have z8 := z7.trans (same_new (o := .tup [.int 0, .non]) no8)
    refine ⟨(by show 1 ≤ sizeLine; decide), fun o9 no9 => ?_⟩
    have u9 : Dp K _ _ _ := new_tupS (K := K) hT8 no9 (.cons (.int 4) .nil)
    have u1 := keepS (o := .tup [.int 4]) no9 u1
    have u2 := keepS (o := .tup [.int 4]) no9 u2
    have u3 := keepS (o := .tup [.int 4]) no9 u3
    have u4 := keepS (o := .tup [.int 4]) no9 u4
    have u5 := keepS (o := .tup [.int 4]) no9 u5
    have u6 := keepS (o := .tup [.int 4]) no9 u6
    have u7 := keepS (o := .tup [.int 4]) no9 u7
    have u8 := keepS (o := .tup [.int 4]) no9 u8
    have hT9 := stm_new (o := .tup [.int 4]) hT8 no9
    have z9 := z8.trans (same_new (o := .tup [.int 4]) no9)
    refine ⟨(by show 10 ≤ sizeLine; decide), fun od nod => ?_⟩
    have nodS := ext_ne hT9 nod
    have oddOk := odd_ok u1 u2 u3 u4 u5 u6 u7 u8 u9
    have hS11 := stm_new (o := .tup [.ref o1, .ref o2, .ref o3, .ref o4, .ref o5, .ref o6, .ref o7, .ref o8, .non, .ref o9]) hT9 nod
    have hNK := (hNK.same (hid_same z9)).same (hid_same (same_new (o := .tup [.ref o1, .ref o2, .ref o3, .ref o4, .ref o5, .ref o6, .ref o7, .ref o8, .non, .ref o9]) nod))
    have eO : Ext S H8 _ := (Ext.of z9).trans (.new (o := .tup [.ref o1, .ref o2, .ref o3, .ref o4, .ref o5, .ref o6, .ref o7, .ref o8, .non, .ref o9]) nod)
    refine ⟨_, rfl, _, rfl, S, c, 10, rfl, hS11, by decide, fun r H9 r0 r1 _ hS12 e9 => ?_⟩
    obtain ⟨n2, rfl⟩ := Int.eq_ofNat_of_zero_le r0
    obtain ⟨vt, hvt, mt⟩ := atI_mem (xs := [.ref o1, .ref o2, .ref o3, .ref o4, .ref o5, .ref o6, .ref o7, .ref o8, .non, .ref o9]) (n := n2) (by show n2 < 10; omega)
    have hNS := ((oddOk vt mt).same (hid_same (same_new nod))).same (hid_ext e9)
    have hNK := hNK.same (hid_ext e9)
    have eT := eO.trans e9
    refine ⟨od, _, _, vt, rfl, rfl, .inl (.inl (e9 _ _ nodS upd_same)), hvt, ?_⟩
    refine ⟨_, rfl, S, c, 10, rfl, hS12, by decide, fun pl H10 l0 l1 _ hS13 e10 => ?_⟩
    have hNS := (hNS.same (hid_ext e10)).same hid_le
    have hNK := (hNK.same (hid_ext e10)).same hid_le
    have hG := (hG.ext eT).ext e10
    have hp := e10 _ _ npS (eT _ _ npS hp)
    have hq := e10 _ _ nqS (eT _ _ nqS hq)
    have atp : At2 K H10 p a1 b1 := .inl (.inl hp)
    have atq : At2 K H10 q c1 d1 := .inl (.inl hq)
    clear oddOk u1 u2 u3 u4 u5 u6 u7 u8 u9 hT1 hT2 hT3 hT4 hT5 hT6 hT7 hT8 hT9 z1 z2 z3 z4 z5 z6 z7 z8 z9
    refine ⟨_, rfl, G, gs, rfl, hG.sq, (by have := ok.most; omega), fun kk ks H11 nkk e11 hkk hks hkl => ?_⟩
    have hNS := hNS.same e11
    have hNK := hNK.same e11
    have atp := atp.same e11
    have atq := atq.same e11
    refine ⟨fun σ' H' => ∃ y, σ' = [some (.ref a), some (.ref S), some (.ref G), some (.ref p), some (.ref q), some (.int wy), some (.int bd), some vk, some (.ref od), some vt, some (.int pl), some (.ref kk), y, none, none] ∧ H' = H11, ?_, ?_⟩
    · refine ⟨_, rfl, kk, rfl, ⟨_, SqL.of hkk⟩, for_list (K := K) (a := kk) (xs := ks.map V.int) (fun i σ' H' => ∃ y, σ' = [some (.ref a), some (.ref S), some (.ref G), some (.ref p), some (.ref q), some (.int wy), some (.int bd), some vk, some (.ref od), some vt, some (.int pl), some (.ref kk), y, none, none] ∧ H' = H11) ⟨_, rfl, rfl⟩ (fun i σ' H' _ ⟨_, _, e⟩ => by rw [e]; exact SqL.of hkk) ?_ (fun _ _ h => h)⟩
      rintro i z σ' H' hi ⟨y, rfl, rfl⟩
      obtain ⟨n3, hn3, rfl⟩ := map_some hi
      have hk3 := hks n3 (List.mem_of_getElem? hn3)
      have key3 : isKey (.int n3) = true := by
        show (decide (0 ≤ n3) && decide (n3 < 1000000)) = true
        simp [hk3.1, hk3.2]
      have nokey : isKey (.int n3) = false → False := fun h => by rw [key3] at h; cases h
      refine ⟨_, rfl, .int n3, .int n3, rfl, .int n3, _, _, rfl, rfl, _, rfl, ?_⟩
      rw [key3]
      refine ifF rfl ?_
      refine ⟨_, rfl, .int n3, .int n3, rfl, .int n3, shOk_int n3, fun _ => ⟨.int n3, .int n3, rfl, .int n3, _, rfl, ?_⟩, fun h => (nokey h).elim⟩
      rw [isW_int]
      refine ifF rfl ?_
      refine ⟨_, rfl, .int n3, .int n3, rfl, .int n3, shOk_int n3, fun _ => ⟨_, rfl, rfl, _, rfl, ?_⟩, fun h => (nokey h).elim⟩
      refine ifF (by simp) ?_
      exact ⟨_, rfl, rfl⟩
    rintro σ' H' ⟨y, rfl, rfl⟩
    have spd : isStr (.tuple [.int a1, .int b1]) = true := str_ok p0 p1 p2
    have sqd : isStr (.tuple [.int c1, .int d1]) = true := str_ok q0 q1 q2
    refine ⟨fun σ' H2 => ∃ y y2 y3, σ' = [some (.ref a), some (.ref S), some (.ref G), some (.ref p), some (.ref q), some (.int wy), some (.int bd), some vk, some (.ref od), some vt, some (.int pl), some (.ref kk), y, y2, y3] ∧ Same H' H2, ?_, ?_⟩
    · refine ⟨_, rfl, _, rfl, (by show 2 ≤ sizeLine; decide), fun t2 nt2 => ?_⟩
      refine ⟨t2, rfl, ⟨_, .inl (.inl upd_same)⟩, for_tup (K := K) (a := t2) (xs := [.ref p, .ref q]) (fun j σ' H2 => (∃ y y2 y3, σ' = [some (.ref a), some (.ref S), some (.ref G), some (.ref p), some (.ref q), some (.int wy), some (.int bd), some vk, some (.ref od), some vt, some (.int pl), some (.ref kk), y, y2, y3] ∧ Same H' H2) ∧ H2 t2 = some (.tup [.ref p, .ref q]))
        ⟨⟨_, _, _, rfl, same_new nt2⟩, upd_same⟩ (fun j σ' H2 _ h => .inl (.inl h.2)) ?_ (fun σ' H2 h => h.1)⟩
      rintro j x σ' H2 hj ⟨⟨y, y2, y3, rfl, e12⟩, ht2⟩
      obtain ⟨xr, x1, x2, rfl, hx, x0, x12, xb⟩ : ∃ (xr : Addr) (x1 x2 : Int), x = .ref xr ∧ At2 K H' xr x1 x2 ∧ 0 ≤ x1 ∧ x1 < x2 ∧ x2 ≤ 1000000 := by
        match j, hj with
        | 0, h => exact ⟨p, a1, b1, (Option.some.inj h).symm, atp, p0, p1, p2⟩
        | 1, h => exact ⟨q, c1, d1, (Option.some.inj h).symm, atq, q0, q1, q2⟩
      have sx := str_ok x0 x12 xb
      have nostr : isStr (.tuple [.int x1, .int x2]) = false → False := fun h => by rw [sx] at h; cases h
      have hx2 := hx.same e12
      refine ⟨_, rfl, .ref xr, .int 0, _, .int 0, rfl, hx2.dp, .int 0, shOk_int 0, fun _ => ?_, fun h => (nostr h).elim⟩
      refine ⟨_, rfl, _, rfl, .ref xr, .int pl, _, .int pl, rfl, hx2.dp, .int pl, shOk_int pl, fun _ => ?_, fun h => (nostr h).elim⟩
      refine ⟨(by show 2 ≤ sizeLine; decide), fun tl ntl => ?_⟩
      have e13 := same_new (o := .lst [.ref xr, .ref xr]) ntl
      refine ⟨_, rfl, .ref xr, _, rfl, (hx2.same e13).dp, _, _, rfl, rfl, _, rfl, ?_⟩
      rw [sx]
      refine ifF rfl ?_
      refine ⟨_, rfl, _, rfl, _, rfl, (by show 2 ≤ sizeLine; decide), fun t3 nt3 => ?_⟩
      have e14 := same_new (o := .lst [.ref xr, .ref xr]) nt3
      have hx4 := ((hx2.same e13).same e14)
      have all2 := DpAll.cons hx4.dp (.cons hx4.dp .nil)
      refine ⟨_, _, .lst (SqL.of (by rw [upd_ne (ne_of_none upd_same nt3)]; exact upd_same)) all2, .lst (SqL.of upd_same) all2, rfl, rfl, _, rfl, ?_⟩
      refine ifF (by rw [eqv_self rfl] <;> rfl) ?_
      refine ⟨_, rfl, _, rfl, xr, x1, x2, bd, rfl, hx4, x0, x12, xb, fun H5 e15 => ⟨_, rfl, ?_⟩⟩
      refine ifF rfl ?_
      have e25 := (e13.trans e14).trans e15
      exact ⟨⟨_, _, _, rfl, e12.trans e25⟩, e25 _ _ ht2⟩
    rintro σ' H2 ⟨y, y2, y3, rfl, e12⟩
    obtain ⟨dk, hk1, hk2, hk3, hk4⟩ := hNK.same e12
    obtain ⟨dt, ht1, ht2⟩ := hNS.same e12
    refine ⟨rfl, _, rfl, ?_⟩
    refine ifF (by simp) ?_
    refine ⟨_, rfl, vk, dk, rfl, hk1, hk2, hk3, hk4, fun H3 e3 => ⟨_, rfl, ?_⟩⟩
    refine ifF rfl ?_
    have ht3 := dp_same e3 ht1
    refine ⟨_, rfl, _, rfl, vt, dt, -1, rfl, ht3, ht2, fun H4 e4 => ⟨_, rfl, ?_⟩⟩
    refine ifF rfl ?_
    have ht4 := dp_same e4 ht3
    refine ⟨_, rfl, _, rfl, vt, dt, pl, rfl, ht4, ht2, fun H5 e5 => ⟨_, rfl, ?_⟩⟩
    refine ifF rfl ?_
    have e25 := ((e12.trans e3).trans e4).trans e5
    have hkk5 := e25 _ _ hkk
    refine ⟨_, rfl, _, rfl, _, rfl, p, q, kk, a1, b1, c1, d1, ks, rfl, atp.same e25, atq.same e25, p1, q1, SqL.of hkk5, hkl, fun H6 e6 => ⟨_, rfl, ?_⟩⟩
    refine iteT ?_
    have e26 := e25.trans e6
    exact ⟨_, rfl, _, rfl, _, rfl, q, p, kk, c1, d1, a1, b1, ks, rfl, atq.same e26, atp.same e26, q1, p1, SqL.of (e6 _ _ hkk5), hkl, fun H7 _ => k _⟩
end
end Kx

set_option Elab.async false
set_option linter.all false
set_option maxRecDepth 100000
set_option maxHeartbeats 4000000
namespace Kx
open PySem PySem.Spec PyProof.Rows L2 Lk
/-! ### the head: what the top has left, told by names -/
def fnD : List He.DefD := [⟨("shown", none), "shown", "shown", defArgs s_shown, defBody s_shown, defScope s_shown, [], []⟩,
  ⟨("is_whole", none), "is_whole", "is_whole", defArgs s_is_whole, defBody s_is_whole, defScope s_is_whole, [], []⟩,
  ⟨("common_stretch", none), "common_stretch", "common_stretch", defArgs s_common_stretch, defBody s_common_stretch, defScope s_common_stretch, [], []⟩,
  ⟨("lies_within", none), "lies_within", "lies_within", defArgs s_lies_within, defBody s_lies_within, defScope s_lies_within, [], []⟩,
  ⟨("cut_at", none), "cut_at", "cut_at", defArgs s_cut_at, defBody s_cut_at, defScope s_cut_at, [], []⟩,
  ⟨("_law_stream", none), "_law_stream", "_law_stream", defArgs s__law_stream, defBody s__law_stream, defScope s__law_stream, [], []⟩,
  ⟨("_law_mixed", none), "_law_mixed", "_law_mixed", defArgs s__law_mixed, defBody s__law_mixed, defScope s__law_mixed, [], []⟩,
  ⟨("_law_is_number", none), "_law_is_number", "_law_is_number", defArgs s__law_is_number, defBody s__law_is_number, defScope s__law_is_number, [], []⟩,
  ⟨("_law_look_keys", none), "_law_look_keys", "_law_look_keys", defArgs s__law_look_keys, defBody s__law_look_keys, defScope s__law_look_keys, [], []⟩,
  ⟨("is_key", none), "is_key", "is_key", defArgs s_is_key, defBody s_is_key, defScope s_is_key, [], []⟩,
  ⟨("is_stretch", none), "is_stretch", "is_stretch", defArgs s_is_stretch, defBody s_is_stretch, defScope s_is_stretch, [], []⟩,
  ⟨("_law_draw", none), "_law_draw", "_law_draw", defArgs s__law_draw, defBody s__law_draw, defScope s__law_draw, [], []⟩,
  ⟨("_law_same_stretch", none), "_law_same_stretch", "_law_same_stretch", defArgs s__law_same_stretch, defBody s__law_same_stretch, defScope s__law_same_stretch, [], []⟩,
  ⟨("_law_pick", none), "_law_pick", "_law_pick", defArgs s__law_pick, defBody s__law_pick, defScope s__law_pick, [], []⟩,
  ⟨("_law_two", none), "_law_two", "_law_two", defArgs s__law_two, defBody s__law_two, defScope s__law_two, [], []⟩,
  ⟨("_law_cut_there", none), "_law_cut_there", "_law_cut_there", defArgs s__law_cut_there, defBody s__law_cut_there, defScope s__law_cut_there, [], []⟩,
  ⟨("check_key", none), "check_key", "check_key", defArgs s_check_key, defBody s_check_key, defScope s_check_key, [], []⟩,
  ⟨("check_stretch", none), "check_stretch", "check_stretch", defArgs s_check_stretch, defBody s_check_stretch, defScope s_check_stretch, [.int (0)], []⟩,
  ⟨("_law_grid", none), "_law_grid", "_law_grid", defArgs s__law_grid, defBody s__law_grid, defScope s__law_grid, [], []⟩,
  ⟨("_law_stretch", none), "_law_stretch", "_law_stretch", defArgs s__law_stretch, defBody s__law_stretch, defScope s__law_stretch, [], []⟩,
  ⟨("_law_no_key", none), "_law_no_key", "_law_no_key", defArgs s__law_no_key, defBody s__law_no_key, defScope s__law_no_key, [], []⟩,
  ⟨("_law_no_stretch", none), "_law_no_stretch", "_law_no_stretch", defArgs s__law_no_stretch, defBody s__law_no_stretch, defScope s__law_no_stretch, [], []⟩,
  ⟨("law", none), "law", "law", defArgs s_law, defBody s_law, defScope s_law, [], []⟩]
def faD0 : List He.Fa := [.glo "shown",
  .glo "is_whole",
  .glo "common_stretch",
  .glo "lies_within",
  .glo "cut_at",
  .glo "_law_stream",
  .glo "_law_mixed",
  .glo "_law_is_number",
  .glo "_law_look_keys",
  .glo "is_key",
  .glo "is_stretch",
  .glo "_law_draw",
  .glo "_law_same_stretch",
  .glo "_law_pick",
  .glo "_law_two",
  .glo "_law_cut_there",
  .glo "check_key",
  .glo "check_stretch",
  .glo "_law_grid",
  .glo "_law_stretch",
  .glo "_law_no_key",
  .glo "_law_no_stretch",
  .glo "law",
  .glo "StoreError",
  .glo "KeyFault",
  .glo "PlaceFault",
  .glo "BadKey",
  .glo "BadStretch",
  .glo "BadField",
  .glo "BadBatch"]
def faD1 : List He.Fa := [.free "abs",
  .free "bool",
  .free "int",
  .free "isinstance",
  .free "len",
  .free "list",
  .free "max",
  .free "min",
  .free "range",
  .free "repr",
  .free "str",
  .free "super",
  .free "tuple",
  .int "TOP" 1000000]
def faD : List He.Fa := faD0 ++ faD1
def iniD : List Hk.IniD := [⟨"KeyFault", "KeyFault.__init__", defArgs si_KeyFault, defBody si_KeyFault, defScope si_KeyFault⟩,
  ⟨"PlaceFault", "PlaceFault.__init__", defArgs si_PlaceFault, defBody si_PlaceFault, defScope si_PlaceFault⟩]
def ceD : List Hk.Ce := [.sup "BadKey" "KeyFault" "key",
  .ini "BadKey" "KeyFault",
  .exd "BadKey",
  .xf "BadKey",
  .exm "BadKey",
  .sup "BadStretch" "PlaceFault" "place",
  .ini "BadStretch" "PlaceFault",
  .exd "BadStretch",
  .xf "BadStretch",
  .exm "BadStretch",
  .kit "BadKey" "StoreError" true,
  .kit "BadKey" "KeyFault" true,
  .kit "BadKey" "PlaceFault" false,
  .kit "BadKey" "BadStretch" false,
  .kit "BadKey" "BadField" false,
  .kit "BadKey" "BadBatch" false,
  .kit "BadStretch" "StoreError" true,
  .kit "BadStretch" "KeyFault" false,
  .kit "BadStretch" "PlaceFault" true,
  .kit "BadStretch" "BadKey" false,
  .kit "BadStretch" "BadField" false,
  .kit "BadStretch" "BadBatch" false]
def looseN : List Str := ["shown",
  "is_whole",
  "common_stretch",
  "lies_within",
  "cut_at",
  "_law_stream",
  "_law_mixed",
  "_law_is_number",
  "_law_look_keys",
  "is_key",
  "is_stretch",
  "_law_draw",
  "_law_same_stretch",
  "_law_pick",
  "_law_two",
  "_law_cut_there",
  "check_key",
  "check_stretch",
  "_law_grid",
  "_law_stretch",
  "_law_no_key",
  "_law_no_stretch",
  "StoreError",
  "KeyFault",
  "PlaceFault",
  "BadKey",
  "BadStretch",
  "BadField",
  "BadBatch",
  "TOP"]
abbrev R : PySem.W.OpenRow := PySem.W.OpenLaw.row PySem.Challenge.rw_leastshelf_k09_stretches
abbrev hk : PySem.W.Hook := Hk.hookK 6 faD fnD "/claim/cut.py" iniD ceD
def ob (s : PySem.W.SharedT) : Hk.AlK := Hk.obsKG 6 faD fnD "/claim/cut.py" iniD ceD (HandSHeadRun.getT s)
theorem ob_eq (s : PySem.W.SharedT) : ob s = hk.obs s.abs := Hk.obsKG_eq (HandSHeadRun.getT_eq s)
theorem run (w : World) : HandSHeadRun.RunEq R (PySem.W.view R.prog [34]) hk ob 4000 looseN w := by
  intro os
  kernel_rfl
theorem facts {P : Program} {w : World} {K : PySem.W.Frag} {h : Heap} {mg : Str → Option Value} {f0 : Addr} (X : K.In h) (G : h.Ns mainGlobals mg) (hP : P.main.file = "/claim/cut.py") (hS : (P.main.scope.names.lookup ("super" : Str)).isSome = false) (hfa : mg ("law" : Str) = some (.ref f0)) (c : Hk.Says faD fnD "/claim/cut.py" iniD ceD K) :
    ∃ fd : FuncData, (∀ (s : Shared) (v : Value), BindsTo s fd ⟨[v], []⟩ [("_law_script", v)]) ∧ ∀ base : Heap, K.In base → base.Ns mainGlobals mg → FnOk P w K mg base CX0 6 f0 fd ["_law_script"] (sp_law K) := by
  have D := c.d
  obtain ⟨fd0, F0⟩ : ∃ fd, Hk.Fn K "shown" s_shown [] (He.ga K "shown") fd := D.def_ 0 rfl
  obtain ⟨fd1, F1⟩ : ∃ fd, Hk.Fn K "is_whole" s_is_whole [] (He.ga K "is_whole") fd := D.def_ 1 rfl
  obtain ⟨fd2, F2⟩ : ∃ fd, Hk.Fn K "common_stretch" s_common_stretch [] (He.ga K "common_stretch") fd := D.def_ 2 rfl
  obtain ⟨fd3, F3⟩ : ∃ fd, Hk.Fn K "lies_within" s_lies_within [] (He.ga K "lies_within") fd := D.def_ 3 rfl
  obtain ⟨fd4, F4⟩ : ∃ fd, Hk.Fn K "cut_at" s_cut_at [] (He.ga K "cut_at") fd := D.def_ 4 rfl
  obtain ⟨fd5, F5⟩ : ∃ fd, Hk.Fn K "_law_stream" s__law_stream [] (He.ga K "_law_stream") fd := D.def_ 5 rfl
  obtain ⟨fd6, F6⟩ : ∃ fd, Hk.Fn K "_law_mixed" s__law_mixed [] (He.ga K "_law_mixed") fd := D.def_ 6 rfl
  obtain ⟨fd7, F7⟩ : ∃ fd, Hk.Fn K "_law_is_number" s__law_is_number [] (He.ga K "_law_is_number") fd := D.def_ 7 rfl
  obtain ⟨fd8, F8⟩ : ∃ fd, Hk.Fn K "_law_look_keys" s__law_look_keys [] (He.ga K "_law_look_keys") fd := D.def_ 8 rfl
  obtain ⟨fd9, F9⟩ : ∃ fd, Hk.Fn K "is_key" s_is_key [] (He.ga K "is_key") fd := D.def_ 9 rfl
  obtain ⟨fd10, F10⟩ : ∃ fd, Hk.Fn K "is_stretch" s_is_stretch [] (He.ga K "is_stretch") fd := D.def_ 10 rfl
  obtain ⟨fd11, F11⟩ : ∃ fd, Hk.Fn K "_law_draw" s__law_draw [] (He.ga K "_law_draw") fd := D.def_ 11 rfl
  obtain ⟨fd12, F12⟩ : ∃ fd, Hk.Fn K "_law_same_stretch" s__law_same_stretch [] (He.ga K "_law_same_stretch") fd := D.def_ 12 rfl
  obtain ⟨fd13, F13⟩ : ∃ fd, Hk.Fn K "_law_pick" s__law_pick [] (He.ga K "_law_pick") fd := D.def_ 13 rfl
  obtain ⟨fd14, F14⟩ : ∃ fd, Hk.Fn K "_law_two" s__law_two [] (He.ga K "_law_two") fd := D.def_ 14 rfl
  obtain ⟨fd15, F15⟩ : ∃ fd, Hk.Fn K "_law_cut_there" s__law_cut_there [] (He.ga K "_law_cut_there") fd := D.def_ 15 rfl
  obtain ⟨fd16, F16⟩ : ∃ fd, Hk.Fn K "check_key" s_check_key [] (He.ga K "check_key") fd := D.def_ 16 rfl
  obtain ⟨fd17, F17⟩ : ∃ fd, Hk.Fn K "check_stretch" s_check_stretch [.int (0)] (He.ga K "check_stretch") fd := D.def_ 17 rfl
  obtain ⟨fd18, F18⟩ : ∃ fd, Hk.Fn K "_law_grid" s__law_grid [] (He.ga K "_law_grid") fd := D.def_ 18 rfl
  obtain ⟨fd19, F19⟩ : ∃ fd, Hk.Fn K "_law_stretch" s__law_stretch [] (He.ga K "_law_stretch") fd := D.def_ 19 rfl
  obtain ⟨fd20, F20⟩ : ∃ fd, Hk.Fn K "_law_no_key" s__law_no_key [] (He.ga K "_law_no_key") fd := D.def_ 20 rfl
  obtain ⟨fd21, F21⟩ : ∃ fd, Hk.Fn K "_law_no_stretch" s__law_no_stretch [] (He.ga K "_law_no_stretch") fd := D.def_ 21 rfl
  obtain ⟨fd22, F22⟩ : ∃ fd, Hk.Fn K "law" s_law [] (He.ga K "law") fd := D.def_ 22 rfl
  have j0 := c.i 0 rfl
  obtain ⟨fi0, S0, B0⟩ : ∃ fd, Sup.SupF P K (He.ga K "KeyFault") (He.fAd K ("KeyFault", some "__init__")) "KeyFault.__init__" (defArgs si_KeyFault) (defBody si_KeyFault) (defScope si_KeyFault) fd ∧ Binds K fd ["self", "key"] [] := Hk.ini_ok hP hS j0.1 j0.2 fun _ _ _ _ _ _ _ us hl => match us, hl with | [_, _], _ => rfl
  have j1 := c.i 1 rfl
  obtain ⟨fi1, S1, B1⟩ : ∃ fd, Sup.SupF P K (He.ga K "PlaceFault") (He.fAd K ("PlaceFault", some "__init__")) "PlaceFault.__init__" (defArgs si_PlaceFault) (defBody si_PlaceFault) (defScope si_PlaceFault) fd ∧ Binds K fd ["self", "place"] [] := Hk.ini_ok hP hS j1.1 j1.2 fun _ _ _ _ _ _ _ us hl => match us, hl with | [_, _], _ => rfl
  have b0 : Binds K fd0 ["value"] [] := FunD.bindsN F0 fun _ _ _ _ _ _ us hl => match us, hl with | [_], _ => rfl
  have b1 : Binds K fd1 ["thing"] [] := FunD.bindsN F1 fun _ _ _ _ _ _ us hl => match us, hl with | [_], _ => rfl
  have b2 : Binds K fd2 ["one", "other"] [] := FunD.bindsN F2 fun _ _ _ _ _ _ us hl => match us, hl with | [_, _], _ => rfl
  have b3 : Binds K fd3 ["one", "other"] [] := FunD.bindsN F3 fun _ _ _ _ _ _ us hl => match us, hl with | [_, _], _ => rfl
  have b4 : Binds K fd4 ["stretch", "border"] [] := FunD.bindsN F4 fun _ _ _ _ _ _ us hl => match us, hl with | [_, _], _ => rfl
  have b5 : Binds K fd5 ["_law_script"] [] := FunD.bindsN F5 fun _ _ _ _ _ _ us hl => match us, hl with | [_], _ => rfl
  have b6 : Binds K fd6 ["_law_cell", "_law_place"] [] := FunD.bindsN F6 fun _ _ _ _ _ _ us hl => match us, hl with | [_, _], _ => rfl
  have b7 : Binds K fd7 ["_law_thing"] [] := FunD.bindsN F7 fun _ _ _ _ _ _ us hl => match us, hl with | [_], _ => rfl
  have b8 : Binds K fd8 ["_law_grid_here"] [] := FunD.bindsN F8 fun _ _ _ _ _ _ us hl => match us, hl with | [_], _ => rfl
  have b9 : Binds K fd9 ["thing"] [] := FunD.bindsN F9 fun _ _ _ _ _ _ us hl => match us, hl with | [_], _ => rfl
  have b10 : Binds K fd10 ["thing"] [] := FunD.bindsN F10 fun _ _ _ _ _ _ us hl => match us, hl with | [_], _ => rfl
  have b11 : Binds K fd11 ["_law_stream_here", "_law_many"] [] := FunD.bindsN F11 fun _ _ _ _ _ _ us hl => match us, hl with | [_, _], _ => rfl
  have b12 : Binds K fd12 ["_law_told", "_law_due"] [] := FunD.bindsN F12 fun _ _ _ _ _ _ us hl => match us, hl with | [_, _], _ => rfl
  have b13 : Binds K fd13 ["_law_stream_here", "_law_many"] [] := FunD.bindsN F13 fun _ _ _ _ _ _ us hl => match us, hl with | [_, _], _ => rfl
  have b14 : Binds K fd14 ["_law_one", "_law_other", "_law_keys"] [] := FunD.bindsN F14 fun _ _ _ _ _ _ us hl => match us, hl with | [_, _, _], _ => rfl
  have b15 : Binds K fd15 ["_law_stretch_here", "_law_border"] [] := FunD.bindsN F15 fun _ _ _ _ _ _ us hl => match us, hl with | [_, _], _ => rfl
  have b16 : Binds K fd16 ["key"] [] := FunD.bindsN F16 fun _ _ _ _ _ _ us hl => match us, hl with | [_], _ => rfl
  have b17 : Binds K fd17 ["stretch", "place"] [] := by
    obtain ⟨ds, hv, hb⟩ := FunD.binds1 (ps := ["stretch", "place"]) F17 2 1 (by simp) (by rfl) fun _ _ _ _ _ _ _ us its hl hi => match us, its, hl, hi with | [_, _], [_], _, _ => ⟨_, rfl, rfl⟩
    cases hv
    exact hb
  have d17_1 : ∃ ds : List Value, Binds K fd17 ["stretch", "place"] ds ∧ Vals [.int (0)] ds := by
    obtain ⟨ds, hv, hb⟩ := FunD.binds1 (ps := ["stretch", "place"]) F17 1 0 (by simp) (by rfl) fun _ _ _ _ _ _ _ us its hl hi => match us, its, hl, hi with | [_], [_], _, _ => ⟨_, rfl, rfl⟩
    exact ⟨ds, hb, hv⟩
  have b18 : Binds K fd18 ["_law_stream_here", "_law_upper"] [] := FunD.bindsN F18 fun _ _ _ _ _ _ us hl => match us, hl with | [_, _], _ => rfl
  have b19 : Binds K fd19 ["_law_stream_here", "_law_grid_here"] [] := FunD.bindsN F19 fun _ _ _ _ _ _ us hl => match us, hl with | [_, _], _ => rfl
  have b20 : Binds K fd20 ["_law_key"] [] := FunD.bindsN F20 fun _ _ _ _ _ _ us hl => match us, hl with | [_], _ => rfl
  have b21 : Binds K fd21 ["_law_thing", "_law_place"] [] := FunD.bindsN F21 fun _ _ _ _ _ _ us hl => match us, hl with | [_, _], _ => rfl
  have b22 : Binds K fd22 ["_law_script"] [] := FunD.bindsN F22 fun _ _ _ _ _ _ us hl => match us, hl with | [_], _ => rfl
  let A' : Ad := {
    f_shown := He.ga K "shown",
    fd_shown := fd0,
    f_is_whole := He.ga K "is_whole",
    fd_is_whole := fd1,
    f_common_stretch := He.ga K "common_stretch",
    fd_common_stretch := fd2,
    f_lies_within := He.ga K "lies_within",
    fd_lies_within := fd3,
    f_cut_at := He.ga K "cut_at",
    fd_cut_at := fd4,
    f__law_stream := He.ga K "_law_stream",
    fd__law_stream := fd5,
    f__law_mixed := He.ga K "_law_mixed",
    fd__law_mixed := fd6,
    f__law_is_number := He.ga K "_law_is_number",
    fd__law_is_number := fd7,
    f__law_look_keys := He.ga K "_law_look_keys",
    fd__law_look_keys := fd8,
    f_is_key := He.ga K "is_key",
    fd_is_key := fd9,
    f_is_stretch := He.ga K "is_stretch",
    fd_is_stretch := fd10,
    f__law_draw := He.ga K "_law_draw",
    fd__law_draw := fd11,
    f__law_same_stretch := He.ga K "_law_same_stretch",
    fd__law_same_stretch := fd12,
    f__law_pick := He.ga K "_law_pick",
    fd__law_pick := fd13,
    f__law_two := He.ga K "_law_two",
    fd__law_two := fd14,
    f__law_cut_there := He.ga K "_law_cut_there",
    fd__law_cut_there := fd15,
    f_check_key := He.ga K "check_key",
    fd_check_key := fd16,
    f_check_stretch := He.ga K "check_stretch",
    fd_check_stretch := fd17,
    f__law_grid := He.ga K "_law_grid",
    fd__law_grid := fd18,
    f__law_stretch := He.ga K "_law_stretch",
    fd__law_stretch := fd19,
    f__law_no_key := He.ga K "_law_no_key",
    fd__law_no_key := fd20,
    f__law_no_stretch := He.ga K "_law_no_stretch",
    fd__law_no_stretch := fd21,
    f_law := He.ga K "law",
    fd_law := fd22,
    c_StoreError := He.ga K "StoreError",
    c_KeyFault := He.ga K "KeyFault",
    c_PlaceFault := He.ga K "PlaceFault",
    c_BadKey := He.ga K "BadKey",
    c_BadStretch := He.ga K "BadStretch",
    c_BadField := He.ga K "BadField",
    c_BadBatch := He.ga K "BadBatch",
    i_KeyFault := He.fAd K ("KeyFault", some "__init__"),
    fdi_KeyFault := fi0,
    i_PlaceFault := He.fAd K ("PlaceFault", some "__init__"),
    fdi_PlaceFault := fi1 }
  have T : Txt P K mg A' := {
    F_shown := F0,
    g_shown := He.glo_ok X G (D.fact 0 (f := .glo "shown") rfl),
    b_shown := b0,
    F_is_whole := F1,
    g_is_whole := He.glo_ok X G (D.fact 1 (f := .glo "is_whole") rfl),
    b_is_whole := b1,
    F_common_stretch := F2,
    g_common_stretch := He.glo_ok X G (D.fact 2 (f := .glo "common_stretch") rfl),
    b_common_stretch := b2,
    F_lies_within := F3,
    g_lies_within := He.glo_ok X G (D.fact 3 (f := .glo "lies_within") rfl),
    b_lies_within := b3,
    F_cut_at := F4,
    g_cut_at := He.glo_ok X G (D.fact 4 (f := .glo "cut_at") rfl),
    b_cut_at := b4,
    F__law_stream := F5,
    g__law_stream := He.glo_ok X G (D.fact 5 (f := .glo "_law_stream") rfl),
    b__law_stream := b5,
    F__law_mixed := F6,
    g__law_mixed := He.glo_ok X G (D.fact 6 (f := .glo "_law_mixed") rfl),
    b__law_mixed := b6,
    F__law_is_number := F7,
    g__law_is_number := He.glo_ok X G (D.fact 7 (f := .glo "_law_is_number") rfl),
    b__law_is_number := b7,
    F__law_look_keys := F8,
    g__law_look_keys := He.glo_ok X G (D.fact 8 (f := .glo "_law_look_keys") rfl),
    b__law_look_keys := b8,
    F_is_key := F9,
    g_is_key := He.glo_ok X G (D.fact 9 (f := .glo "is_key") rfl),
    b_is_key := b9,
    F_is_stretch := F10,
    g_is_stretch := He.glo_ok X G (D.fact 10 (f := .glo "is_stretch") rfl),
    b_is_stretch := b10,
    F__law_draw := F11,
    g__law_draw := He.glo_ok X G (D.fact 11 (f := .glo "_law_draw") rfl),
    b__law_draw := b11,
    F__law_same_stretch := F12,
    g__law_same_stretch := He.glo_ok X G (D.fact 12 (f := .glo "_law_same_stretch") rfl),
    b__law_same_stretch := b12,
    F__law_pick := F13,
    g__law_pick := He.glo_ok X G (D.fact 13 (f := .glo "_law_pick") rfl),
    b__law_pick := b13,
    F__law_two := F14,
    g__law_two := He.glo_ok X G (D.fact 14 (f := .glo "_law_two") rfl),
    b__law_two := b14,
    F__law_cut_there := F15,
    g__law_cut_there := He.glo_ok X G (D.fact 15 (f := .glo "_law_cut_there") rfl),
    b__law_cut_there := b15,
    F_check_key := F16,
    g_check_key := He.glo_ok X G (D.fact 16 (f := .glo "check_key") rfl),
    b_check_key := b16,
    F_check_stretch := F17,
    g_check_stretch := He.glo_ok X G (D.fact 17 (f := .glo "check_stretch") rfl),
    b_check_stretch := b17,
    F__law_grid := F18,
    g__law_grid := He.glo_ok X G (D.fact 18 (f := .glo "_law_grid") rfl),
    b__law_grid := b18,
    F__law_stretch := F19,
    g__law_stretch := He.glo_ok X G (D.fact 19 (f := .glo "_law_stretch") rfl),
    b__law_stretch := b19,
    F__law_no_key := F20,
    g__law_no_key := He.glo_ok X G (D.fact 20 (f := .glo "_law_no_key") rfl),
    b__law_no_key := b20,
    F__law_no_stretch := F21,
    g__law_no_stretch := He.glo_ok X G (D.fact 21 (f := .glo "_law_no_stretch") rfl),
    b__law_no_stretch := b21,
    F_law := F22,
    g_law := He.glo_ok X G (D.fact 22 (f := .glo "law") rfl),
    b_law := b22,
    dd1_check_stretch := d17_1,
    z_abs := He.free_ok X G (D.fact 30 (f := .free "abs") rfl),
    z_bool := He.free_ok X G (D.fact 31 (f := .free "bool") rfl),
    z_int := He.free_ok X G (D.fact 32 (f := .free "int") rfl),
    z_isinstance := He.free_ok X G (D.fact 33 (f := .free "isinstance") rfl),
    z_len := He.free_ok X G (D.fact 34 (f := .free "len") rfl),
    z_list := He.free_ok X G (D.fact 35 (f := .free "list") rfl),
    z_max := He.free_ok X G (D.fact 36 (f := .free "max") rfl),
    z_min := He.free_ok X G (D.fact 37 (f := .free "min") rfl),
    z_range := He.free_ok X G (D.fact 38 (f := .free "range") rfl),
    z_repr := He.free_ok X G (D.fact 39 (f := .free "repr") rfl),
    z_str := He.free_ok X G (D.fact 40 (f := .free "str") rfl),
    z_super := He.free_ok X G (D.fact 41 (f := .free "super") rfl),
    z_tuple := He.free_ok X G (D.fact 42 (f := .free "tuple") rfl),
    c_TOP := He.int_ok X G (D.fact 43 (f := .int "TOP" 1000000) rfl),
    m_StoreError := He.glo_ok X G (D.fact 23 (f := .glo "StoreError") rfl),
    m_KeyFault := He.glo_ok X G (D.fact 24 (f := .glo "KeyFault") rfl),
    m_PlaceFault := He.glo_ok X G (D.fact 25 (f := .glo "PlaceFault") rfl),
    m_BadKey := He.glo_ok X G (D.fact 26 (f := .glo "BadKey") rfl),
    m_BadStretch := He.glo_ok X G (D.fact 27 (f := .glo "BadStretch") rfl),
    m_BadField := He.glo_ok X G (D.fact 28 (f := .glo "BadField") rfl),
    m_BadBatch := He.glo_ok X G (D.fact 29 (f := .glo "BadBatch") rfl),
    S_KeyFault := S0,
    bi_KeyFault := B0,
    S_PlaceFault := S1,
    bi_PlaceFault := B1,
    s_BadKey := Hk.supB_ok (c.cls 0 (e := .sup "BadKey" "KeyFault" "key") rfl),
    i_BadKey := He.eqO_ok (c.cls 1 (e := .ini "BadKey" "KeyFault") rfl),
    x_BadKey := Hk.exdB_ok (c.cls 2 (e := .exd "BadKey") rfl),
    y_BadKey := xfB_ok (c.cls 3 (e := .xf "BadKey") rfl),
    e_BadKey := of_decide_eq_true (c.cls 4 (e := .exm "BadKey") rfl),
    s_BadStretch := Hk.supB_ok (c.cls 5 (e := .sup "BadStretch" "PlaceFault" "place") rfl),
    i_BadStretch := He.eqO_ok (c.cls 6 (e := .ini "BadStretch" "PlaceFault") rfl),
    x_BadStretch := Hk.exdB_ok (c.cls 7 (e := .exd "BadStretch") rfl),
    y_BadStretch := xfB_ok (c.cls 8 (e := .xf "BadStretch") rfl),
    e_BadStretch := of_decide_eq_true (c.cls 9 (e := .exm "BadStretch") rfl),
    k_BadKey_StoreError := of_decide_eq_true (c.cls 10 (e := .kit "BadKey" "StoreError" true) rfl),
    k_BadKey_KeyFault := of_decide_eq_true (c.cls 11 (e := .kit "BadKey" "KeyFault" true) rfl),
    k_BadKey_PlaceFault := of_decide_eq_true (c.cls 12 (e := .kit "BadKey" "PlaceFault" false) rfl),
    k_BadKey_BadStretch := of_decide_eq_true (c.cls 13 (e := .kit "BadKey" "BadStretch" false) rfl),
    k_BadKey_BadField := of_decide_eq_true (c.cls 14 (e := .kit "BadKey" "BadField" false) rfl),
    k_BadKey_BadBatch := of_decide_eq_true (c.cls 15 (e := .kit "BadKey" "BadBatch" false) rfl),
    k_BadStretch_StoreError := of_decide_eq_true (c.cls 16 (e := .kit "BadStretch" "StoreError" true) rfl),
    k_BadStretch_KeyFault := of_decide_eq_true (c.cls 17 (e := .kit "BadStretch" "KeyFault" false) rfl),
    k_BadStretch_PlaceFault := of_decide_eq_true (c.cls 18 (e := .kit "BadStretch" "PlaceFault" true) rfl),
    k_BadStretch_BadKey := of_decide_eq_true (c.cls 19 (e := .kit "BadStretch" "BadKey" false) rfl),
    k_BadStretch_BadField := of_decide_eq_true (c.cls 20 (e := .kit "BadStretch" "BadField" false) rfl),
    k_BadStretch_BadBatch := of_decide_eq_true (c.cls 21 (e := .kit "BadStretch" "BadBatch" false) rfl) }
  have e := hfa.symm.trans (He.glo_ok X G (D.fact 22 (f := .glo "law") rfl))
  cases e
  have b := FunD.bindsA (ps := ["_law_script"]) F22 fun _ _ _ _ _ _ us hl => match us, hl with | [_], _ => rfl
  exact ⟨fd22, fun s v => b s [v] rfl, fun base _ _ => ok_law T⟩
end Kx
set_option maxHeartbeats 0
open PySem PySem.W PySem.Calls PyProof.Rows
theorem PySem.Challenge.cw_leastshelf_k09_stretches_holds : PySem.Challenge.rw_leastshelf_k09_stretches.Holds := by
  w_on; o_law
  refine HandSHeadRun.head_any (r := OpenLaw.row PySem.Challenge.rw_leastshelf_k09_stretches) (q := view (OpenLaw.row PySem.Challenge.rw_leastshelf_k09_stretches).prog [34]) (H := Kx.hk) (ob := Kx.ob) (M := 4000) (loose := Kx.looseN) (d := HandSHeadRun.topDef (OpenLaw.row PySem.Challenge.rw_leastshelf_k09_stretches).prog 34) (kwd := []) Kx.ob_eq
    (by kernel_rfl) (fun s => by kernel_rfl) Kx.run (by kernel_rfl) (by kernel_rfl) (by kernel_rfl) (by rfl) (by first | assumption | decide +kernel) (by decide +kernel) ⟨rfl, rfl, rfl, rfl, rfl, by decide +kernel⟩ ?hw ?hc
  case hw => w_witness2
  case hc =>
    refine L2.walk_ofE (l := PySem.Challenge.rw_leastshelf_k09_stretches) (n := 63) (k := 6) (x := "_law_script") (CX := L2.CX0) rfl (by decide) (by kernel_rfl) ⟨rfl, by decide, by decide⟩ ?F (fun _ _ _ _ z => z)
    intro w mg fa h Y G hmg0
    obtain ⟨K, KX, c⟩ := Y
    have hmg : mg ("law" : PySem.Str) = some (.ref fa) := by
      have e : (HandSHeadRun.topDef (OpenLaw.row PySem.Challenge.rw_leastshelf_k09_stretches).prog 34).name = ("law" : PySem.Str) := by kernel_rfl
      rw [← e]
      exact hmg0
    obtain ⟨fd, hb, hF⟩ := Kx.facts (P := (PySem.Challenge.rw_leastshelf_k09_stretches).prog) (w := w) KX G (by kernel_rfl) (by kernel_rfl) hmg c
    exact ⟨K, fd, Kx.sp_law K, KX, hb, fun H a ns hl _ hS => ⟨a, ns, rfl, hS, hl, fun _ => rfl⟩, hF⟩
