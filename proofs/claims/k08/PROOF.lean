import PyProof.Rows.All
import Wide.All
import OpenK.AllK
import Wide.FinOn
import KE.KExcSuper
import KE.KSuper
import HandS.Base
import HandS.Call
import HandS.Exc
import HandS.ExcInit
import HandS.Nested
import KE.KExcIs
import HandS.ForMost
import HandS.ForExc
import HandS.IsInst
import HandS.FStr
import HandS.RaiseMore
import HandS.Style
import HandS.ExcField
import HandS.Wide
import HandS.Evl
import HandS.CallSlots
import KE.KStateDown
import KE.KExcInit
import HandS.Defaults
import HandS.Head0
import HandS.Head1
import HandS.Head2
import HandS.HeadEnd
import HandS.HeadHook1
import HandS.HeadHook2
import HandS.HeadHook3
import HandS.Property
import HandS.SetFor
import HandS.Strs
import HandS.SortInts
import HandS.TupAny
import HandS.Star
import HandS.Small
import HandS.SetBool
import PyProof.Draws
import PyProof.EnumMake
import HandS.TupSets
import PyProof.FactsAll.set_2
import HandS.DictComp
import HandS.Deep
import PyProof.P3In
import PySem.Challenge.RW_leastshelf_k08_whole_rows_of_effects
set_option Elab.async false
set_option linter.all false
set_option maxRecDepth 100000
set_option maxHeartbeats 4000000
/-! own error classes whose __init__ says super().__init__(text) and then stores its one field -/
namespace Sup
open PySem PySem.Spec PyProof.Rows L2 NdefX PySem.W
/-- what the class C (own or inheriting the __init__ of D) says -/
structure SupC (K : Frag) (C D : Addr) (fld : Str) : Prop where
  ox : OexC K C
  sub : subIn K (.ref C) (.type "ValueError") = some true
  sD : mroIn K C (.ref D) = some true
  al : ks_superIn K C D "__init__" = some (some (.builtin "ValueError.__init__"))
  nf : findIn K (.ref C) fld = some none
/-- what the written part says of the __init__ at f, of D -/
structure SupF (P : Program) (K : Frag) (D f : Addr) (qual : Str) (params : Arguments) (body : List Stmt) (scope : Scope) (fd : FuncData) : Prop where
  ex : ∃ (oc : Value) (od : Option Addr) (dV kV doc pm : Value) (an : Option Addr) (c cc : Addr) (ct : Value) (osl : Array (Option Value)) (ccl : Value) (cdd : Option Addr) (vs : Array Value) (ccs : Array (Option Value)) (file : Str) (tf : Tok) (cl : Value) (cld : Option Addr) (csl : Array (Option Value)),
    fd = fnX "__init__" qual params body scope [("__class__", cc)] dV kV doc pm an (.ref c) ct ∧
    K.lookup f = some ⟨oc, od, .func fd, osl⟩ ∧ codeIn K (.ref c) qual = true ∧
    K.lookup c = some ⟨ccl, cdd, .fields vs, ccs⟩ ∧ vs[2]? = some (.str file tf) ∧ ((P.main.file : Str) == file) = true ∧
    K.lookup cc = some ⟨cl, cld, .cell (some (.ref D)), csl⟩
  top : (P.main.scope.names.lookup ("super" : Str)).isSome = false
  cD : (clsIn K D).isSome = true
  op : nsIn K cStatics "thirdparty.any" = some none
  fn : typeIn K (.ref f) = some (.type "function")
/-- the promise: the field holds the argument -/
def spSup (K : Frag) (D : Addr) (fld : Str) (Pre : V → Hp → Prop) : Sp := fun vs H Q _ => ∃ (a C : Addr) (v : V), vs = [.ref a, v] ∧ H a = some (exo a C none) ∧ SupC K C D fld ∧ Pre v H ∧
  ∀ dx, H dx = none → dx ≠ a → Q .non (upd (upd H dx (exd dx [(fld, v)])) a (exo a C (some dx)))
theorem look1 {α : Type} {x y : Str} {a b : α} (h : List.lookup y [(x, a)] = some b) : y = x ∧ b = a := by
  by_cases e : y = x
  · subst e
    simp [List.lookup] at h
    exact ⟨rfl, h.symm⟩
  · have q : (y == x) = false := by simpa using e
    simp [List.lookup, q] at h
theorem fn_sup {CX : CXT} {P : Program} {w : World} {K : Frag} {mg : Str → Option Value} {base : Heap} {k : Nat} {f D : Addr} {qual : Str} {params : Arguments} {scope : Scope} {fd : FuncData} {fld : Str} {e : Expr} {te : TE} {Pre : V → Hp → Prop}
    {p0 p1 p2 p3 p4 p5 p6 p7 p8 : Pos} {ar : Arg} {pl : Sem Bool}
    (F : SupF P K D f qual params [.Expr (.Call (.Attribute (.Call (.Name "super" p0) [] [] p1) "__init__" p2) [e] [] p3) p4, .Assign [.Attribute (.Name "self" p5) fld p6] (.Name fld p7) p8] scope fd)
    (S : NScope [("self" : Str), fld, ("__class__" : Str)] [("self" : Str), fld] [("__class__" : Str)] scope) (hks : scope.names.lookup ("super" : Str) = some .globalImplicit) (hsm : mg ("super" : Str) = none)
    (hp : (params.posonlyargs ++ params.args).head? = some ar) (har : ar.arg = ("self" : Str))
    (hd1 : (fld == ("__debug__" : Str)) = false) (hd2 : (fld == ("__classdict__" : Str)) = false)
    (hsw : ∀ env : Env, swapsWith (.Name fld p7) (some (.Attribute (.Name "self" p5) fld p6)) p8.line env = pure false)
    (hsw2 : ∀ env : Env, swapsWith (.Call (.Attribute (.Call (.Name "super" p0) [] [] p1) "__init__" p2) [e] [] p3) none p4.line env = pure false)
    (hst : ∀ env : Env, starEach [e] env = (false, eval e env) :: starEach [] env)
    (hev : ∀ env : Env, eval (.Call (.Attribute (.Call (.Name "super" p0) [] [] p1) "__init__" p2) [e] [] p3) env = (do
      let ov ← attributeBase (.Call (.Name "super" p0) [] [] p1) "__init__" env (eval (.Call (.Name "super" p0) [] [] p1) env)
      standAt p2.atName
      let (f, first) ← holding [ov] (getMethod ov "__init__" pl)
      callWith p3 f first (backTo p3 (starEach [e] env)) []))
    (he : ∀ X : Cx, X.prog = P → X.w = w → X.K = K → X.mg = mg → X.base = base → X.N = [("self" : Str), fld, ("__class__" : Str)] → X.env.scope = scope → X.calm = true → Room k X.A → PE X e te)
    (hte : ∀ (a : Addr) (v : V) (H : Hp) (Q : VK), Pre v H → (∀ y : Str, y.length ≤ sizeLine → Q (.str y) H) → te [some (.ref a), some v, some (.ref D)] H Q) :
    FnOk P w K mg base CX (k + 1) f fd [("self" : Str), fld] (spSup K D fld Pre) := by
  obtain ⟨⟨oc, od, dV, kV, doc, pm, an, c, cc, ct, osl, ccl, cdd, vs, ccs, file, tf, cl, cld, csl, rfl, lk, hcd, hcode, hvs, hfile, hcell⟩, htop, hcD, hop, hfn⟩ := F
  refine ⟨fun vs H Q E ⟨a, C, v, e1, _⟩ => by rw [e1] <;> rfl, fun A outer s H args us vs' Q E hr e0 hb r hsp => ?_⟩
  obtain ⟨a, C, v, rfl, ha, SC, hpre, hq⟩ := hsp
  let NFF : NF := ⟨"__init__", qual, params, [.Expr (.Call (.Attribute (.Call (.Name "super" p0) [] [] p1) "__init__" p2) [e] [] p3) p4, .Assign [.Attribute (.Name "self" p5) fld p6] (.Name fld p7) p8], scope, [("__class__", cc)], c⟩
  have KX : K.In s.heap := e0.mod.kin.keeps fun b o e => (e0.bs b o e).1
  have lim : s.heap.NoLimit := e0.mod.nolimit.keeps fun b o e => (e0.bs b o e).1
  have hcn : H cc = none := (e0.bs _ _ (e0.mod.kin _ _ hcell)).2
  have CA : CellsAt NFF.cl [("__class__" : Str)] [some (.ref D)] s.heap H := by
    refine ⟨rfl, fun y q h => ?_, fun x y q h1 h2 => ?_, fun i y h => ?_⟩
    · obtain ⟨rfl, rfl⟩ := look1 (show List.lookup y [(("__class__" : Str), cc)] = some q from h)
      exact ⟨hcn, some (.ref D), _, KX _ _ hcell, rfl⟩
    · obtain ⟨e1, _⟩ := look1 (show List.lookup x [(("__class__" : Str), cc)] = some q from h1)
      obtain ⟨e2, _⟩ := look1 (show List.lookup y [(("__class__" : Str), cc)] = some q from h2)
      rw [e1, e2]
    · cases i with
      | zero =>
        have ey : ("__class__" : Str) = y := Option.some.inj h
        subst ey
        refine ⟨cc, ?_, fun v hv => ?_⟩
        · show List.lookup ("__class__" : Str) [(("__class__" : Str), cc)] = some cc
          simp [List.lookup]
        · have ev : V.ref D = v := Option.some.inj (Option.some.inj hv)
          subst ev
          exact ⟨.ref D, rfl, _, KX _ _ hcell, rfl⟩
      | succ i => simp at h
  have hnoc : ∀ x ∈ scope.names, x.2 ≠ .cell := S.nocell
  have hloc : ∀ y ∈ ([("self" : Str), fld].zip us), scope.names.lookup y.1 = some .local := fun ⟨n, u⟩ hy => S.par n (List.of_mem_zip hy).1
  refine ks_codeAny_call_defAt (fd := fnX "__init__" qual params _ scope [("__class__", cc)] dV kV doc pm an (.ref c) ct) (args := args) (binds := [("self" : Str), fld].zip us) hr.depth (KX _ _ lk) rfl lim (codeRec_of KX hcd) rfl hb hnoc hloc (fun h₁ hns kp => ?_) S.co S.gen S.kind
  have I : Inv (ncx CX P w K mg base [("self" : Str), fld, ("__class__" : Str)] NFF f A outer s H E) [] (startF [("self" : Str), fld, ("__class__" : Str)] [.ref a, v] [some (.ref D)]) H { s with heap := h₁, toks := s.toks + ([("self" : Str), fld].zip us).length } := inv_startN S hr.hd e0 rfl r CA hns kp
  let X : Cx := ncx CX P w K mg base [("self" : Str), fld, ("__class__" : Str)] NFF f A outer s H E
  have hr0 : Room k X.A := hr.deeper _
  have hka : scope.names.lookup ("self" : Str) = some .local := S.par _ (by simp)
  have hkf : scope.names.lookup fld = some .local := S.par _ (by simp)
  have hkc : scope.names.lookup ("__class__" : Str) = some .free := S.frk _ (by simp)
  obtain ⟨u0, u1, rfl, r0, r1⟩ : ∃ u0 u1, us = [u0, u1] ∧ RelV (.ref a) u0 ∧ RelV v u1 := by
    cases r with
    | cons p q =>
      cases q with
      | cons p' q' =>
        cases q'
        exact ⟨_, _, rfl, p, p'⟩
  cases (show u0 = Value.ref a from r0)
  have ndP : ([("self" : Str), fld] : List Str).Nodup := by
    have q := S.nd
    simp only [List.nodup_cons, List.mem_cons, List.not_mem_nil, or_false, not_or] at q ⊢
    exact ⟨q.1.1, by simp, List.nodup_nil⟩
  have hself : ([("self" : Str), fld].zip [Value.ref a, u1]).reverse.lookup ("self" : Str) = some (.ref a) := zip_look (i := 0) ndP rfl rfl
  obtain ⟨cdD, hD⟩ := Option.isSome_iff_exists.mp hcD
  obtain ⟨t1, hx⟩ := exo_at I.hok ha
  show _root_.PySem.wpAt (model P w) X.A (.func NFF.body X.env) (execs (.Expr (.Call (.Attribute (.Call (.Name "super" p0) [] [] p1) "__init__" p2) [e] [] p3) p4 :: [.Assign [.Attribute (.Name "self" p5) fld p6] (.Name fld p7) p8]) X.env) _ _ _
  refine ks_wpAt_execs_cons (ks_wpAt_Expr_any (ks_wpAt_MethodCall (pl := pl) ?_ (hev _)) (by first | rfl | (unfold interactive; rw [show X.env.scope.kind = .function from S.kind] <;> rfl) | (unfold interactive; simp [show X.env.scope.kind = .function from S.kind])) (hsw2 _))
  refine ks_wpAt_super_base (f := f) (cc := c) (ar := ar) hks hkc (by decide) rfl (I.kIn _ _ lk) rfl hp rfl (I.kIn _ _ hcode) rfl hvs hfile htop ?_
  obtain ⟨mb, hb1, hb2⟩ := I.mod.blt
  refine ks_loadName_global S.kind hks (Calls.loadGlobal_builtin (env := X.env) (by rw [I.ok.glob]; exact I.mod.glob.keeps I.bk) hsm (by rw [I.ok.blt]; exact hb1.keeps I.bk) ((hb2 ("super" : Str) (by decide)).trans Boot.«super») ⟨rfl, ?_⟩)
  refine wpAny_loadName_free S.kind hkc rfl ⟨_, I.kIn _ _ hcell, rfl⟩ ?_
  rw [har]
  refine wpAny_loadName_local S.kind hka hns hself ?_
  obtain ⟨oD, hD1, hD2⟩ : ∃ oD, K.lookup D = some oD ∧ oD.data = .cls cdD := by
    unfold clsIn at hD
    split at hD
    · rename_i c' d' cd' sl' ho
      cases hD
      exact ⟨_, ho, rfl⟩
    · cases hD
  have hD1' := I.kIn _ _ hD1
  refine ks_wpAny_isType_cls hD1' hD2 ⟨rfl, ?_⟩
  obtain ⟨nm, q, NN, bs, bm, sn, sub, ab, col, dd, k0, k1, k2, k3, k5, hC, hbm⟩ := SC.ox.cls
  refine ks_wpAny_call_super hD1' hD2 hx rfl (fun c e => by cases e) (looks_mroIn I.kIn SC.sD) (fun h' e1 kp1 => ?_)
  have I1 : Inv X [] (startF [("self" : Str), fld, ("__class__" : Str)] [.ref a, v] [some (.ref D)]) H { s with heap := h', toks := s.toks + ([("self" : Str), fld].zip [Value.ref a, u1]).length } := I.kept kp1
  have hcC : ∃ cd, clsIn K C = some cd := by
    unfold clsIn
    rw [hC]
    exact ⟨_, rfl⟩
  obtain ⟨cdC, hcC⟩ := hcC
  have hx1 := kp1 _ _ hx
  have hxC : a ≠ C := fun z => by
    have y := I1.kIn _ _ hC
    rw [← z, hx1] at y
    cases y
  have IA : InstAt h' a ({ cls := .ref C, dict := none, data := .fields #[.ref t1, .none, .none, .none, .bool false, .none] } : Obj) C none := ⟨hx1, rfl, rfl, trivial⟩
  have hal := SC.al
  unfold ks_superIn at hal
  rw [hcC] at hal
  refine kxs_getMethod kxs_ValueError (l₀ := cdC.mro) e1 (looks_opaque I1.kIn hop) (fun A Q E s k q => wpAny_bind ((looks_clsIn I1.kIn hcC) A _ E s k (wpAny_pure q))) rfl I1.kIn hal (IA.type.andThen (looks_subIn I1.kIn SC.sub)) hxC (by decide) ?_
  show wpAny (model P w) X.A (callWith p3 (.ref h'.objs.size) [] (backTo p3 (starEach [e] X.env)) []) _ _ _
  have hmw : (h'.push (kxs_mw "ValueError.__init__" a)).get? h'.objs.size = some (kxs_mw "ValueError.__init__" a) := Heap.get?_push_size h' rfl
  have I2 : Inv X [(h'.objs.size, kxs_mw "ValueError.__init__" a)] (startF [("self" : Str), fld, ("__class__" : Str)] [.ref a, v] [some (.ref D)]) H
      { s with heap := h'.push (kxs_mw "ValueError.__init__" a), toks := s.toks + ([("self" : Str), fld].zip [Value.ref a, u1]).length + 1 } := by
    have J : Inv X [] (startF [("self" : Str), fld, ("__class__" : Str)] [.ref a, v] [some (.ref D)]) H { s with heap := h'.push (kxs_mw "ValueError.__init__" a), toks := s.toks + ([("self" : Str), fld].zip [Value.ref a, u1]).length + 1 } :=
      I1.kept (t' := s.toks + ([("self" : Str), fld].zip [Value.ref a, u1]).length + 1) fun b o z => Heap.get?_push_of_some _ z
    refine J.pins_of fun p hp => ?_
    have ep : p = (h'.objs.size, kxs_mw "ValueError.__init__" a) := List.mem_singleton.mp hp
    subst ep
    have hlt := I1.lt
    refine ⟨hmw, I1.hok.fresh (Nat.le_refl _), Nat.ne_of_gt hlt, I1.nofs (Nat.le_refl _), fun v z => by cases z⟩
  have hPA : PA X [e] (tCons te tNil) := pa_cons (he X rfl rfl rfl rfl rfl rfl rfl rfl hr0) pa_nil (hs := hst X.env)
  refine kxs_callWith (i := "ValueError.__init__") (x := a) (by rw [hst]; rfl) ?_
  rw [hst]
  refine Calls.evalArgs_plain ?_
  show wpAny _ _ (spliced (backTo p3 ((false, eval e X.env) :: starEach [] X.env))) _ _ _
  rw [← hst]
  refine thn (hPA.run p3 _ _ _ H (fun vs H' => H' = H ∧ ∃ y, vs = [.str y]) I2 ?_) fun us s2 ⟨vs2, H2, I3, r3, eH, y, ev⟩ => ?_
  · refine hte a v H _ hpre fun y hy => ?_
    exact ⟨rfl, y, rfl⟩
  subst eH ev
  obtain ⟨hu, _⟩ := I3.pin (h'.objs.size, kxs_mw "ValueError.__init__" a) (by simp)
  refine ⟨hu, ?_⟩
  obtain ⟨t2, hx3⟩ := exo_at I3.hok ha
  have hlen : us.length ≤ sizeLine := by
    have q := r3.length
    simp at q
    rw [← q]
    decide
  obtain ⟨h3, g3, d3, t3, os3⟩ := s2
  refine wpAny_call (codeAny_of_tree ?_)
  show wpAny _ X.A.in1 (callAny (.ref h'.objs.size) ⟨us, []⟩) _ _ _
  simp only [callAny]
  refine wpAny_bind (wpAny_load hu ?_)
  simp only [kxs_mw, show (Value.type "method-wrapper" == Value.type "method" || Value.type "method-wrapper" == Value.type "builtin_function_or_method" || Value.type "method-wrapper" == Value.type "method-wrapper") = true by decide, if_true]
  refine KFB.if_so (by decide) ?_
  refine wpAny_bind (check_bound_init F.excBase_ValueError.toExcCallFacts (I3.kIn _ _ hC) hx3 rfl ?_)
  refine wpAny_bind (wpAny_pure (wpAny_pure ?_))
  refine ⟨plainId_quiet F.excBase_ValueError.init.plain _, codeAny_builtin F.excBase_ValueError.initEntry ?_⟩
  refine exc_init_tree (cls := .ref C) (t0 := t2) (dv := none) (c2 := .none) (c3 := .none) (b4 := .bool false) hx3 hlen fun h4 kp4 hx4 _ => ?_
  have I4 : Inv X [(h'.objs.size, kxs_mw "ValueError.__init__" a)] (startF [("self" : Str), fld, ("__class__" : Str)] [.ref a, v] [some (.ref D)]) H2 ⟨h4, g3, d3, t3, os3⟩ := by
    have J := I3.write (t' := t3) (x := a) (e := a) (o := exo a C none) (by rw [ha]; exact True.intro) (.inl rfl) kp4 ⟨_, hx4⟩ (exo_ok hx4)
    have eu : upd H2 a (exo a C none) = H2 := by
      funext b
      by_cases hb : b = a
      · rw [hb, upd_same, ha]
      · rw [upd_ne hb]
    rw [eu] at J
    exact J
  have I5 : Inv X [] (startF [("self" : Str), fld, ("__class__" : Str)] [.ref a, v] [some (.ref D)]) H2 ⟨h4, g3, d3, t3, os3⟩ := I4.pins_of fun p hp => by cases hp
  have hPS : PSs X [.Assign [.Attribute (.Name "self" p5) fld p6] (.Name fld p7) p8] (tOst X.K fld (tVar 0) (tVar 1)) := by
    refine pss_one (ps_ost (pe_var (i := 0) rfl (.inl hka)) (pe_var (i := 1) rfl (.inl hkf) hd1 hd2) (hsw _))
  show _root_.PySem.wpAt (model P w) X.A (.func NFF.body X.env) (execs [.Assign [.Attribute (.Name "self" p5) fld p6] (.Name fld p7) p8] X.env) _ _ _
  refine wpAt_of_wpAny ?_
  refine wpAny_mono (hPS.run [] _ _ H2 { nx := fun _ H' => Q .non H', rt := Q } I5 ?_) (fun fl s' hs => ?_) fun e s' hs => hs
  · refine ⟨v, rfl, .ref a, rfl, a, C, rfl, SC.ox, SC.nf, .inl ⟨ha, fun dx n ne => ?_⟩⟩
    exact hq dx n ne
  · cases fl with
    | ret u =>
      obtain ⟨v', σ', H', J, rv, q⟩ := hs
      exact ⟨v', H', J.os, J.bare, J.base, J.hok, rv, q⟩
    | next =>
      obtain ⟨σ', H', J, q⟩ := hs
      exact ⟨V.non, H', J.os, J.bare, J.base, J.hok, rfl, q⟩
    | brk =>
      obtain ⟨_, _, _, q⟩ := hs
      exact False.elim q
    | cont =>
      obtain ⟨_, _, _, q⟩ := hs
      exact False.elim q
end Sup

set_option Elab.async false
set_option linter.all false
set_option maxRecDepth 100000
set_option maxHeartbeats 4000000
namespace Lk
open PySem PySem.Spec PyProof.Rows L2
/-! ### more calls -/
section
variable {X : Cx}
theorem call_str_none : CallR X (.type "str") (fun xs H Q => xs = [.non] ∧ Q (.str "None") H) := by
  intro pins s σ H xs us Q I r h
  obtain ⟨rfl, q⟩ := h
  obtain ⟨u, rfl, r1⟩ := vals1 r
  cases (show u = Value.none from r1)
  exact PySem.P.str_of_none ⟨.str _, H, I.tok _, ⟨_, rfl⟩, q⟩
theorem call_str_bool : CallR X (.type "str") (fun xs H Q => ∃ b, xs = [.bl b] ∧ Q (.str (if b then "True" else "False")) H) := by
  intro pins s σ H xs us Q I r h
  obtain ⟨b, rfl, q⟩ := h
  obtain ⟨u, rfl, r1⟩ := vals1 r
  cases (show u = Value.bool b from r1)
  exact PySem.P.str_of_bool ⟨.str _, H, I.tok _, ⟨_, rfl⟩, q⟩
theorem CallR.or {f : Value} {r r' : List V → Hp → VK → Prop} (h : CallR X f r) (h' : CallR X f r') : CallR X f (fun xs H Q => r xs H Q ∨ r' xs H Q) := by
  intro pins s σ H xs us Q I rx q
  rcases q with q | q
  · exact h pins s σ H xs us Q I rx q
  · exact h' pins s σ H xs us Q I rx q
theorem call_repr_str : CallR X (.builtin "repr") (fun xs H Q => ∃ a, xs = [.str a] ∧ (reprText a).length ≤ sizeLine ∧ Q (.str (reprText a)) H) := by
  intro pins s σ H xs us Q I r h
  obtain ⟨a, rfl, hz, q⟩ := h
  obtain ⟨u, rfl, t, rfl⟩ := vals1 r
  exact PySem.P.repr_of_str ⟨.str _, H, I.tok _, ⟨_, rfl⟩, q⟩ hz
end
/-! ### a op b op c op d -/
section
variable {X : Cx} {a b c d : Expr} {ta tb tc td : TE} {pos : Pos}
def tChain3 (r r' r'' : R2) (ta tb tc td : TE) : TE := fun σ H Q => ta σ H fun x H1 => tb σ H1 fun y H2 => r x y H2 fun z H3 => ∃ k, z = .bl k ∧
  (if k = true then tc σ H3 fun w' H4 => r' y w' H4 fun z' H5 => ∃ k', z' = .bl k' ∧ (if k' = true then td σ H5 fun w2 H6 => r'' w' w2 H6 Q else Q (.bl false) H5) else Q (.bl false) H3)
theorem pe_chain3 {op op' op'' : CmpOp} {r r' r'' : R2} (ho : OpR X (compareOp op) r) (ho' : OpR X (compareOp op') r') (ho'' : OpR X (compareOp op'') r'') (ha : PE X a ta) (hb : PE X b tb) (hc : PE X c tc) (hd : PE X d td)
    (hm : lastMarks [op, op', op''] [b, c, d] = false := by with_unfolding_all rfl) : PE X (.Compare a [op, op', op''] [b, c, d] pos) (tChain3 r r' r'' ta tb tc td) := by
  refine ⟨fun pins s σ H Q I h => ?_⟩
  refine Compare_chain (thn (ha.run pins s σ H _ I h) fun v s1 ⟨x, H1, I1, r1, q1⟩ => chain_link (thn (hb.run pins s1 σ H1 _ I1 q1) fun u s2 ⟨y, H2, I2, r2, q2⟩ =>
    thn (ho pins s2 σ H2 x y v u _ I2 r1 r2 q2) fun d s3 ⟨z, H3, I3, r3, k, e, q3⟩ => ?_)) hm
  subst e
  cases r3
  refine wpAny_truthy_bool ?_
  cases k with
  | false => exact ite_ff ⟨.bl false, H3, I3, rfl, q3⟩
  | true =>
    refine ite_tt (chain_link (thn (hc.run pins s3 σ H3 _ I3 q3) fun w' s4 ⟨z', H4, I4, r4, q4⟩ => thn (ho' pins s4 σ H4 y z' u w' _ I4 r2 r4 q4) fun d' s5 ⟨z2, H5, I5, r5, k', e', q5⟩ => ?_))
    subst e'
    cases r5
    refine wpAny_truthy_bool ?_
    cases k' with
    | false => exact ite_ff ⟨.bl false, H5, I5, rfl, q5⟩
    | true => exact ite_tt (chain_last (thn (hd.run pins s5 σ H5 _ I5 q5) fun w2 s6 ⟨z3, H6, I6, r6, q6⟩ => ho'' pins s6 σ H6 z' z3 w' w2 Q I6 r4 r6 q6))
end
/-! ### data and their types -/
def tname : PyData → String
  | .none => "NoneType"
  | .bool _ => "bool"
  | .int _ => "int"
  | .str _ => "str"
  | .list _ => "list"
  | .tuple _ => "tuple"
  | .dict _ => "dict"
theorem ty_of {K : PySem.W.Frag} {H : Hp} {v : V} {d : PyData} (h : Dp K H v d) : TyX K H v (.type (tname d)) := by
  cases h with
  | non => exact .base .non
  | bl b => exact .base (.bl b)
  | int i => exact .base (.int i)
  | str x => exact .base (.str x)
  | lst h _ =>
    rcases h with (h | ⟨o, h⟩) | h
    · exact .base (.lst h)
    · exact .base (.frz h)
    · obtain ⟨o, its, n, e, c, _⟩ := h
      exact .kList e c
  | tup h _ =>
    rcases h with (h | ⟨o, h⟩) | h
    · exact .base (.tup h)
    · exact .fTuple h
    · obtain ⟨o, its, n, e, c, _⟩ := h
      exact .kTuple e c
/-- isinstance(data, T), T a built-in class -/
def isI (T : String) (d : PyData) : Bool := (kitB (tname d) T).getD false
def okT (T : String) : Bool := ["NoneType", "bool", "int", "str", "list", "tuple", "dict"].all fun t => (kitB t T).isSome
theorem kit_isI {T : String} (h : okT T = true) (d : PyData) : kitB (tname d) T = some (isI T d) := by
  have q : ∀ t ∈ ["NoneType", "bool", "int", "str", "list", "tuple", "dict"], (kitB t T).isSome = true := by
    unfold okT at h
    rw [List.all_eq_true] at h
    exact h
  have m : tname d ∈ ["NoneType", "bool", "int", "str", "list", "tuple", "dict"] := by cases d <;> simp [tname]
  obtain ⟨b, hb⟩ := Option.isSome_iff_exists.mp (q _ m)
  unfold isI
  rw [hb] <;> rfl
theorem okT_int : okT "int" = true := by decide +kernel
theorem okT_bool : okT "bool" = true := by decide +kernel
theorem okT_str : okT "str" = true := by decide +kernel
theorem okT_list : okT "list" = true := by decide +kernel
theorem okT_tuple : okT "tuple" = true := by decide +kernel
theorem okT_dict : okT "dict" = true := by decide +kernel
def rIsD (K : PySem.W.Frag) : List V → Hp → VK → Prop := fun xs H Q => ∃ (x : V) (T : String) (d : PyData), xs = [x, .ty T] ∧ okT T = true ∧ Dp K H x d ∧ Q (.bl (isI T d)) H
theorem call_isD {X : Cx} : CallR X (.builtin "isinstance") (rIsD X.K) := by
  intro pins s σ H xs us Q I r h
  obtain ⟨x, T, d, rfl, hT, hd, q⟩ := h
  exact call_isi pins s σ H _ us Q I r ⟨x, .ty T, .type (tname d), .type T, isI T d, rfl, .ty T, ty_of hd, kit_ty (kit_isI hT d), q⟩
theorem isI_int_int (i : Int) : isI "int" (.int i) = true := by show (kitB "int" "int").getD false = true; decide +kernel
theorem isI_int_bool (i : Bool) : isI "int" (.bool i) = true := by show (kitB "bool" "int").getD false = true; decide +kernel
theorem isI_int_none : isI "int" .none = false := by show (kitB "NoneType" "int").getD false = false; decide +kernel
theorem isI_int_str (i : Str) : isI "int" (.str i) = false := by show (kitB "str" "int").getD false = false; decide +kernel
theorem isI_int_list (i : List PyData) : isI "int" (.list i) = false := by show (kitB "list" "int").getD false = false; decide +kernel
theorem isI_int_tuple (i : List PyData) : isI "int" (.tuple i) = false := by show (kitB "tuple" "int").getD false = false; decide +kernel
theorem isI_bool_int (i : Int) : isI "bool" (.int i) = false := by show (kitB "int" "bool").getD false = false; decide +kernel
theorem isI_bool_bool (i : Bool) : isI "bool" (.bool i) = true := by show (kitB "bool" "bool").getD false = true; decide +kernel
theorem isI_bool_none : isI "bool" .none = false := by show (kitB "NoneType" "bool").getD false = false; decide +kernel
theorem isI_bool_str (i : Str) : isI "bool" (.str i) = false := by show (kitB "str" "bool").getD false = false; decide +kernel
theorem isI_bool_list (i : List PyData) : isI "bool" (.list i) = false := by show (kitB "list" "bool").getD false = false; decide +kernel
theorem isI_bool_tuple (i : List PyData) : isI "bool" (.tuple i) = false := by show (kitB "tuple" "bool").getD false = false; decide +kernel
theorem isI_str_int (i : Int) : isI "str" (.int i) = false := by show (kitB "int" "str").getD false = false; decide +kernel
theorem isI_str_bool (i : Bool) : isI "str" (.bool i) = false := by show (kitB "bool" "str").getD false = false; decide +kernel
theorem isI_str_none : isI "str" .none = false := by show (kitB "NoneType" "str").getD false = false; decide +kernel
theorem isI_str_str (i : Str) : isI "str" (.str i) = true := by show (kitB "str" "str").getD false = true; decide +kernel
theorem isI_str_list (i : List PyData) : isI "str" (.list i) = false := by show (kitB "list" "str").getD false = false; decide +kernel
theorem isI_str_tuple (i : List PyData) : isI "str" (.tuple i) = false := by show (kitB "tuple" "str").getD false = false; decide +kernel
theorem isI_tuple_int (i : Int) : isI "tuple" (.int i) = false := by show (kitB "int" "tuple").getD false = false; decide +kernel
theorem isI_tuple_bool (i : Bool) : isI "tuple" (.bool i) = false := by show (kitB "bool" "tuple").getD false = false; decide +kernel
theorem isI_tuple_none : isI "tuple" .none = false := by show (kitB "NoneType" "tuple").getD false = false; decide +kernel
theorem isI_tuple_str (i : Str) : isI "tuple" (.str i) = false := by show (kitB "str" "tuple").getD false = false; decide +kernel
theorem isI_tuple_list (i : List PyData) : isI "tuple" (.list i) = false := by show (kitB "list" "tuple").getD false = false; decide +kernel
theorem isI_tuple_tuple (i : List PyData) : isI "tuple" (.tuple i) = true := by show (kitB "tuple" "tuple").getD false = true; decide +kernel
theorem isI_list_int (i : Int) : isI "list" (.int i) = false := by show (kitB "int" "list").getD false = false; decide +kernel
theorem isI_list_bool (i : Bool) : isI "list" (.bool i) = false := by show (kitB "bool" "list").getD false = false; decide +kernel
theorem isI_list_none : isI "list" .none = false := by show (kitB "NoneType" "list").getD false = false; decide +kernel
theorem isI_list_str (i : Str) : isI "list" (.str i) = false := by show (kitB "str" "list").getD false = false; decide +kernel
theorem isI_list_list (i : List PyData) : isI "list" (.list i) = true := by show (kitB "list" "list").getD false = true; decide +kernel
theorem isI_list_tuple (i : List PyData) : isI "list" (.tuple i) = false := by show (kitB "tuple" "list").getD false = false; decide +kernel
/-! ### heaps: what stands, but for one object -/
/-- all that was tracked, but at S, is as it was -/
def Ext (S : Addr) (H H' : Hp) : Prop := ∀ b o, b ≠ S → H b = some o → H' b = some o
theorem Ext.refl (S : Addr) (H : Hp) : Ext S H H := fun _ _ _ h => h
theorem Ext.trans {S : Addr} {H H1 H2 : Hp} (a : Ext S H H1) (b : Ext S H1 H2) : Ext S H H2 := fun c o n h => b c o n (a c o n h)
theorem Ext.of {S : Addr} {H H' : Hp} (e : Same H H') : Ext S H H' := fun b o _ h => e b o h
theorem Ext.new {S : Addr} {H : Hp} {p : Addr} {o : HO} (h : H p = none) : Ext S H (upd H p o) := fun a u _ e => by
  rw [upd_ne (ne_of_none e h)]
  exact e
theorem Ext.at {S : Addr} {H : Hp} {o : HO} : Ext S H (upd H S o) := fun a u n e => by
  rw [upd_ne n]
  exact e
theorem same_new {H : Hp} {p : Addr} {o : HO} (h : H p = none) : Same H (upd H p o) := fun a u e => by
  rw [upd_ne (ne_of_none e h)]
  exact e
theorem same_mut {H H' : Hp} {p : Addr} {o : HO} (e : Same H H') (h : H p = none) : Same H (upd H' p o) := fun a u ha => by
  rw [upd_ne (ne_of_none ha h)]
  exact e a u ha
/-- the heap without S -/
def hid (S : Addr) (H : Hp) : Hp := fun b => if b = S then none else H b
theorem hid_le {S : Addr} {H : Hp} : Same (hid S H) H := fun b o h => by
  unfold hid at h
  split at h
  · cases h
  · exact h
theorem hid_ext {S : Addr} {H H' : Hp} (e : Ext S H H') : Same (hid S H) (hid S H') := fun b o h => by
  unfold hid at h ⊢
  split at h
  · cases h
  · rename_i n
    rw [if_neg n]
    exact e b o n h
theorem hid_same {S : Addr} {H H' : Hp} (e : Same H H') : Same (hid S H) (hid S H') := hid_ext (.of e)
theorem hid_at {S b : Addr} {H : Hp} (n : b ≠ S) : hid S H b = H b := if_neg n
theorem seqT_same {K : PySem.W.Frag} {H H' : Hp} {a : Addr} {xs : List V} (e : Same H H') (h : SqT K H a xs) : SqT K H' a xs := by
  rcases h with (h | ⟨o, h⟩) | h
  · exact .inl (.inl (e _ _ h))
  · exact .inl (.inr ⟨o, e _ _ h⟩)
  · exact .inr h
mutual
theorem dp_same {K : PySem.W.Frag} {H H' : Hp} (e : Same H H') : ∀ {d : PyData} {v : V}, Dp K H v d → Dp K H' v d
  | .none, _, h => by cases h; exact .non
  | .bool b, _, h => by cases h; exact .bl b
  | .int i, _, h => by cases h; exact .int i
  | .str x, _, h => by cases h; exact .str x
  | .list ds, _, h => by cases h with | lst h1 h2 => exact .lst (e.seq h1) (dpa_same e h2)
  | .tuple ds, _, h => by cases h with | tup h1 h2 => exact .tup (seqT_same e h1) (dpa_same e h2)
  | .dict _, _, h => by cases h
theorem dpa_same {K : PySem.W.Frag} {H H' : Hp} (e : Same H H') : ∀ {ds : List PyData} {vs : List V}, DpAll K H vs ds → DpAll K H' vs ds
  | [], _, h => by cases h; exact .nil
  | _ :: _, _, h => by cases h with | cons h1 h2 => exact .cons (dp_same e h1) (dpa_same e h2)
end
theorem dpa_ints {K : PySem.W.Frag} {H : Hp} : ∀ (ns : List Int), DpAll K H (ns.map V.int) (ns.map PyData.int)
  | [] => .nil
  | n :: r => .cons (.int n) (dpa_ints r)
/-! ### isinstance of a caught error (its own dict told), one class or a written tuple of classes -/
/-- what the class D must say -/
structure ExD (K : PySem.W.Frag) (D : Addr) : Prop where
  hc : (PySem.W.clsIn K D).isSome = true
  hg : PySem.W.findIn K (.ref D) "__getattribute__" = some (some (.builtin "BaseException.__getattribute__"))
  hk : PySem.W.findIn K (.ref D) "__getattr__" = some none
  hs : PySem.W.subIn K (.ref D) (.type "BaseException") = some true
  ha : PySem.W.findIn K (.ref D) "__class__" = some (some (.builtin "object.__class__"))
  hn : PySem.W.specialIn K (.builtin "object.__class__") "__get__" = some (some (.builtin "getset_descriptor.__get__"))
  ht : PySem.W.takesIn K (.builtin "object.__class__") = some true
  hm : PySem.W.mroIn K D (.type "object") = some true
section
variable {X : Cx} {a D : Addr} {d : Option Addr} {oe : Obj} {pn : List (Addr × Obj)}
theorem inst_of {pins : List (Addr × Obj)} {σ : L2.St} {H : Hp} {s : Shared} {dd : Addr} {fs : List (Str × V)} (I : Inv (X.suite a ((a, oe) :: pn)) pins σ H s) (hz : Zc (.ref D) d oe) (hf : ∃ vs, oe.data = .fields vs) (ed : d = some dd) (hd : H dd = some (.xd fs)) :
    ∃ od, PySem.W.InstAt s.heap a oe D (some od) := by
  obtain ⟨hget, _⟩ := I.pin (a, oe) (List.mem_append_left _ List.mem_cons_self)
  obtain ⟨vs, hv⟩ := hf
  have hx : ObjOk X.prog X.w H s.heap dd (.xd fs) := I.hok dd _ hd
  obtain ⟨mA, hns, _⟩ := hx
  obtain ⟨od, ho, _⟩ := lookIn_ns hns
  exact ⟨od, hget, hz.1, by unfold PySem.W.notCls; rw [hv] <;> rfl, by rw [hz.2, ed]; exact ho⟩
def rIsX (K : PySem.W.Frag) (D a : Addr) (cls : Value) (d : Option Addr) : List V → Hp → VK → Prop := fun xs H Q => ∃ (c : V) (cv : Value) (b : Bool) (dd : Addr) (fs : List (Str × V)), xs = [.ref a, c] ∧ ClsV c cv ∧ cls = .ref D ∧ d = some dd ∧ H dd = some (.xd fs) ∧ PySem.W.kitOne K (.ref D) cv = some b ∧ Q (.bl b) H
theorem call_isX {cls : Value} (C : ExD X.K D) (hz : Zc cls d oe) (hf : ∃ vs, oe.data = .fields vs) : CallR (X.suite a ((a, oe) :: pn)) (.builtin "isinstance") (rIsX X.K D a cls d) := by
  intro pins s σ H xs us Q I r h
  obtain ⟨c, cv, b, dd, fs, rfl, hcv, ecl, ed, hd, e, q⟩ := h
  subst ecl
  obtain ⟨u1, u2, rfl, r1, r2⟩ := vals2 r
  cases (show u1 = Value.ref a from r1)
  have ec := hcv.eq r2
  subst ec
  obtain ⟨od, J⟩ := inst_of I hz hf ed hd
  exact PySem.W.kia_one (PySem.W.kitx_exc C.hc C.hg C.hk C.hs C.ha C.hn C.ht C.hm) I.kIn J e (fun z => nomatch z) fun tk => ⟨.bl b, H, I.tok tk, rfl, q⟩
def rIsXT (K : PySem.W.Frag) (D a : Addr) (cls : Value) (d : Option Addr) : List V → Hp → VK → Prop := fun xs H Q => ∃ (tp : Addr) (cs : List V) (us : List Value) (b : Bool) (dd : Addr) (fs : List (Str × V)), xs = [.ref a, .ref tp] ∧ H tp = some (.tup cs) ∧ Paired ClsV cs us ∧
  cls = .ref D ∧ d = some dd ∧ H dd = some (.xd fs) ∧ PySem.W.kitAny K (.ref D) us = some b ∧ Q (.bl b) H
theorem call_isXT {cls : Value} (C : ExD X.K D) (hz : Zc cls d oe) (hf : ∃ vs, oe.data = .fields vs) : CallR (X.suite a ((a, oe) :: pn)) (.builtin "isinstance") (rIsXT X.K D a cls d) := by
  intro pins s σ H xs us Q I r h
  obtain ⟨tp, cs, ws, b, dd, fs, rfl, hT, k, ecl, ed, hd, e, q⟩ := h
  subst ecl
  obtain ⟨u1, u2, rfl, r1, r2⟩ := vals2 r
  cases (show u1 = Value.ref a from r1)
  cases (show u2 = Value.ref tp from r2)
  obtain ⟨od, J⟩ := inst_of I hz hf ed hd
  obtain ⟨_, its, rv, o, h1, h2, n, h3⟩ := (show ObjOk X.prog X.w H s.heap tp (.tup cs) from I.hok tp _ hT)
  have e3 := ClsV.all k rv
  subst e3
  obtain ⟨oc, od', dt, sl⟩ := o
  simp only at h2 h3
  subst h2 h3
  exact PySem.W.kia_tup (PySem.W.kitx_exc C.hc C.hg C.hk C.hs C.ha C.hn C.ht C.hm) I.kIn J h1 e (fun z => nomatch z) fun tk => ⟨.bl b, H, I.tok tk, rfl, q⟩
end
/-! ### tests whose answer is known -/
theorem ifT {c : Bool} {A B : Prop} (hc : c = true) (h : A) : if c = true then A else B := by
  rw [if_pos hc]
  exact h
theorem ifF {c : Bool} {A B : Prop} (hc : c = false) (h : B) : if c = true then A else B := by
  rw [hc, if_neg Bool.false_ne_true]
  exact h
theorem if2 {c : Bool} {A B : Prop} (h1 : c = true → A) (h2 : c = false → B) : if c = true then A else B := by
  cases c with
  | true => exact iteT (h1 rfl)
  | false => exact iteF (h2 rfl)
theorem len_int {i : Int} {k : Nat} (hk : 0 < k) (h : i.natAbs < 10 ^ k) : (Str.ofString (toString i)).length ≤ k + 1 := by
  rw [PySem.ofString_length]
  exact int_text_length_le10 hk h
theorem log_int {i : Int} (h : i.natAbs < 10 ^ 18) : i.natAbs.log2 < 1920 := by
  by_cases h0 : i.natAbs = 0
  · rw [h0]; decide
  · rw [Nat.log2_lt h0]
    exact Nat.lt_of_lt_of_le h (by decide +kernel)
theorem tup_of {d : PyData} (h : isI "tuple" d = true) : ∃ ds, d = .tuple ds := by
  cases d with
  | tuple ds => exact ⟨ds, rfl⟩
  | none => rw [isI_tuple_none] at h; cases h
  | bool b => rw [isI_tuple_bool] at h; cases h
  | int b => rw [isI_tuple_int] at h; cases h
  | str b => rw [isI_tuple_str] at h; cases h
  | list b => rw [isI_tuple_list] at h; cases h
  | dict b =>
    have e : isI "tuple" (.dict b) = false := by show (kitB "dict" "tuple").getD false = false; decide +kernel
    rw [e] at h; cases h
theorem lst_of {d : PyData} (h : isI "list" d = true) : ∃ ds, d = .list ds := by
  cases d with
  | list ds => exact ⟨ds, rfl⟩
  | none => rw [isI_list_none] at h; cases h
  | bool b => rw [isI_list_bool] at h; cases h
  | int b => rw [isI_list_int] at h; cases h
  | str b => rw [isI_list_str] at h; cases h
  | tuple b => rw [isI_list_tuple] at h; cases h
  | dict b =>
    have e : isI "list" (.dict b) = false := by show (kitB "dict" "list").getD false = false; decide +kernel
    rw [e] at h; cases h
theorem isW_aux (d : PyData) (h : isI "int" d = true) : (∃ i, d = .int i) ∨ ∃ b, d = .bool b := by
  cases d with
  | int ds => exact .inl ⟨ds, rfl⟩
  | bool b => exact .inr ⟨b, rfl⟩
  | none => rw [isI_int_none] at h; cases h
  | list b => rw [isI_int_list] at h; cases h
  | str b => rw [isI_int_str] at h; cases h
  | tuple b => rw [isI_int_tuple] at h; cases h
  | dict b =>
    have e : isI "int" (.dict b) = false := by show (kitB "dict" "int").getD false = false; decide +kernel
    rw [e] at h; cases h
theorem dpa_len {K : PySem.W.Frag} {H : Hp} : ∀ {vs : List V} {ds : List PyData}, DpAll K H vs ds → vs.length = ds.length
  | _, [], h => by cases h; rfl
  | _, _ :: _, h => by cases h with | cons _ h2 => simp [dpa_len h2]
/-- the heap behind the making of an own error -/
theorem same_exc {H : Hp} {a dx : Addr} {o1 o2 o3 o4 : HO} (na : H a = none) (nd : upd H a o1 dx = none) (ne : dx ≠ a) : Same H (upd (del (upd (upd (upd H a o1) dx o2) a o3) a) dx o4) := fun b o h => by
  have hba : b ≠ a := ne_of_none h na
  have hbd : b ≠ dx := by
    rw [upd_ne ne] at nd
    exact ne_of_none h nd
  rw [upd_ne hbd, del_ne hba, upd_ne hba, upd_ne hbd, upd_ne hba]
  exact h
theorem eqv_self {d : PyData} (h : SeqAt.shaped d = true) : PyData.eqv d d = true := SeqAt.eqv_refl d (SeqAt.canLay_of_shaped h)
/-- of equal data == says True -/
theorem q_eqv {d : PyData} {Q : VK} {H : Hp} (h : SeqAt.shaped d = true) (q : Q (.bl true) H) : Q (.bl (PyData.eqv d d)) H := by
  rw [eqv_self h]
  exact q
/-! ### rules whose readings name K alone (for the block of a comprehension) -/
section
variable {X : Cx} {K : PySem.W.Frag}
theorem ixTK (h : X.K = K) : IxR X (rIxT K) := by subst h; exact ix_tup
theorem ixLK (h : X.K = K) : IxR X (rIxL K) := by subst h; exact ix_list
theorem lenK (h : X.K = K) : CallR X (.builtin "len") (fun xs H Q => ∃ p ys, xs = [.ref p] ∧ (SqL K H p ys ∨ SqT K H p ys) ∧ Q (.int ys.length) H) := by subst h; exact call_len_seq
theorem isDK (h : X.K = K) : CallR X (.builtin "isinstance") (rIsD K) := by subst h; exact call_isD
theorem eqDK (h : X.K = K) (hu : X.A.units + 64 < cLine) : OpR X (compareOp .Eq) (rEqD K) := by subst h; exact op_eqD hu
theorem neDK (h : X.K = K) (hu : X.A.units + 64 < cLine) : OpR X (compareOp .NotEq) (rNeD K) := by subst h; exact op_neD hu
end
/-! ### what evaluates to a value and leaves the heap as it is -/
def Vl (te : TE) (σ : L2.St) (H : Hp) (v : V) : Prop := ∀ Q : VK, Q v H → te σ H Q
section
variable {K : PySem.W.Frag} {σ : L2.St} {H : Hp} {ta tb tc : TE} {v u : V} {D : Ends} {i : Nat}
theorem vl_var (h : σ[i]? = some (some v)) : Vl (tVar i) σ H v := fun _ q => ⟨v, h, q⟩
theorem vl_c : Vl (tC v) σ H v := fun _ q => q
theorem vl_op {r : R2} {x y z : V} (ha : Vl ta σ H x) (hb : Vl tb σ H y) (hr : ∀ Q : VK, Q z H → r x y H Q) : Vl (tOp r ta tb) σ H z := fun Q q => ha _ (hb _ (hr Q q))
theorem vl_I0 {g : Int → Int → V} {x y : Int} (ha : Vl ta σ H (.int x)) (hb : Vl tb σ H (.int y)) : Vl (tOp (rI0 g) ta tb) σ H (g x y) := vl_op ha hb fun _ q => ⟨x, y, rfl, rfl, q⟩
theorem vl_ixT {p : Addr} {xs : List V} {j : Int} (ha : Vl ta σ H (.ref p)) (hb : Vl tb σ H (.int j)) (h : SqT K H p xs) (hj : atI xs j = some v) : Vl (tOp (rIxT K) ta tb) σ H v := vl_op ha hb fun _ q => ⟨p, xs, j, v, rfl, rfl, h, hj, q⟩
theorem vl_ixL {p : Addr} {xs : List V} {j : Int} (ha : Vl ta σ H (.ref p)) (hb : Vl tb σ H (.int j)) (h : SqL K H p xs) (hj : atI xs j = some v) : Vl (tOp (rIxL K) ta tb) σ H v := vl_op ha hb fun _ q => ⟨p, xs, j, v, rfl, rfl, h, hj, q⟩
theorem vl_eq (ha : Vl ta σ H v) (hb : Vl tb σ H u) (hs : scal v u = true) : Vl (tOp rEq ta tb) σ H (.bl (decide (v = u))) := vl_op ha hb fun _ q => ⟨hs, q⟩
theorem vl_ne (ha : Vl ta σ H v) (hb : Vl tb σ H u) (hs : scal v u = true) : Vl (tOp rNe ta tb) σ H (.bl (!decide (v = u))) := vl_op ha hb fun _ q => ⟨hs, q⟩
theorem vl_and {a b : Bool} (ha : Vl ta σ H (.bl a)) (hb : a = true → Vl tb σ H (.bl b)) : Vl (tAndV ta tb) σ H (.bl (a && b)) := fun Q q => ha _ ⟨a, rfl, by
  cases a with
  | true => exact iteT (hb rfl Q q)
  | false => exact iteF q⟩
theorem vl_or {a b : Bool} (ha : Vl ta σ H (.bl a)) (hb : a = false → Vl tb σ H (.bl b)) : Vl (tOrV ta tb) σ H (.bl (a || b)) := fun Q q => ha _ ⟨a, rfl, by
  cases a with
  | true => exact iteT q
  | false => exact iteF (hb rfl Q q)⟩
theorem vl_not {a : Bool} (ha : Vl ta σ H (.bl a)) : Vl (tNotV ta) σ H (.bl (!a)) := fun Q q => ha _ ⟨a, rfl, q⟩
theorem vl_is {w : V} (h : Vl ta σ H v) (e : v = w) : Vl ta σ H w := e ▸ h
/-- two comparisons of ints in a chain -/
theorem vl_chain {f g : Int → Int → Bool} {x y z : Int} (ha : Vl ta σ H (.int x)) (hb : Vl tb σ H (.int y)) (hc : Vl tc σ H (.int z)) :
    Vl (tChain (rI0 fun i j => .bl (f i j)) (rI0 fun i j => .bl (g i j)) ta tb tc) σ H (.bl (f x y && g y z)) := fun Q q => ha _ (hb _ ⟨x, y, rfl, rfl, f x y, rfl, by
  cases e : f x y with
  | true =>
    rw [e] at q
    exact iteT (hc _ ⟨y, z, rfl, rfl, q⟩)
  | false =>
    rw [e] at q
    exact iteF q⟩)
theorem st_set (h : Vl ta σ H v) (q : D.nx (σ.set i (some v)) H) : tAsg ta (gName i) D σ H := h _ q
theorem st_ret (h : Vl ta σ H v) (q : D.rt v H) : tRet ta D σ H := h _ q
/-- a test by its value -/
theorem tt_val {b : Bool} {Q : Bool → Hp → Prop} (h : Vl ta σ H (.bl b)) (q : Q b H) : tTest ta σ H Q := h _ ⟨b, rfl, q⟩
theorem tb_val {b : Bool} {Q : Bool → Hp → Prop} (h : Vl ta σ H (.bl b)) (q : Q b H) : tB ta σ H Q := h _ ⟨b, rfl, q⟩
theorem sif_test {b : Bool} {t1 t2 : TS} (h : Vl ta σ H (.bl b)) (h1 : b = true → t1 D σ H) (h2 : b = false → t2 D σ H) : tIfS (tTest ta) t1 t2 D σ H := by
  refine tt_val h ?_
  cases b with
  | true => exact iteT (h1 rfl)
  | false => exact iteF (h2 rfl)
end
theorem lk1 {x : Str} {v : V} : List.lookup x [(x, v)] = some v := by simp [List.lookup]
theorem kit3 {K : PySem.W.Frag} {t a b c : Value} (h1 : PySem.W.kitOne K t a = some false) (h2 : PySem.W.kitOne K t b = some false) (h3 : PySem.W.kitOne K t c = some false) : PySem.W.kitAny K t [a, b, c] = some false :=
  kitAny_cons h1 (fun _ => kitAny_cons h2 (fun _ => kitAny_cons h3 (fun _ => kitAny_nil) (fun z => Bool.noConfusion z)) (fun z => Bool.noConfusion z)) (fun z => Bool.noConfusion z)
end Lk

set_option Elab.async false
set_option linter.all false
set_option maxRecDepth 100000
set_option maxHeartbeats 4000000
/-! the stream that a law draws from; lists of numbers; grids -/
namespace Kx
open PySem PySem.Spec PyProof.Rows L2 Lk
/-- the stream of a script, at S: its cells (at c), the next place, what is left of the last number -/
def Stm (S c : Addr) (H : Hp) : Prop := ∃ (ns : List Int) (p : Nat) (v : Int), H S = some (.lst [.ref c, .int (p : Int), .int v]) ∧ H c = some (.lst (ns.map V.int)) ∧ ns.length ≤ 63 ∧ p ≤ ns.length ∧ 0 ≤ v
theorem take_map {α : Type} {l : List α} {i : Nat} {x : α} (h : l[i]? = some x) : l.take (i + 1) = l.take i ++ [x] := by
  rw [List.take_succ, h]
  rfl
theorem map_get {gs : List Int} {i : Nat} (h : i < gs.length) : (gs.map V.int)[i]? = some (V.int gs[i]) := by
  rw [List.getElem?_map, List.getElem?_eq_getElem h] <;> rfl
theorem map_some {gs : List Int} {i : Nat} {x : V} (h : (gs.map V.int)[i]? = some x) : ∃ n, gs[i]? = some n ∧ x = V.int n := by
  rw [List.getElem?_map] at h
  cases e : gs[i]? with
  | none => rw [e] at h; cases h
  | some n => rw [e] at h; exact ⟨n, rfl, (Option.some.inj h).symm⟩
section
variable {S c p : Addr} {H H' : Hp} {o : HO}
theorem Stm.ne (h : Stm S c H) : c ≠ S := fun e => by
  obtain ⟨ns, q, v, hS, hC, _⟩ := h
  rw [e, hS] at hC
  cases ns with
  | nil => cases hC
  | cons n r =>
    have z := HO.lst.inj (Option.some.inj hC)
    cases (List.cons.inj z).1
theorem ext_ne (hS : Stm S c H) (hp : H p = none) : p ≠ S := fun e => by
  obtain ⟨_, _, _, h, _⟩ := hS
  rw [e, h] at hp
  cases hp
theorem ext_nc (hS : Stm S c H) (hp : H p = none) : p ≠ c := fun e => by
  obtain ⟨_, _, _, _, h, _⟩ := hS
  rw [e, h] at hp
  cases hp
theorem ext_free (hS' : Stm S c H') (e : Ext S H H') (hp : H' p = none) : H p = none := by
  cases h : H p with
  | none => rfl
  | some o =>
    rw [e p o (ext_ne hS' hp) h] at hp
    cases hp
theorem stm_put (hS : Stm S c H) (n1 : p ≠ S) (n2 : p ≠ c) : Stm S c (upd H p o) := by
  obtain ⟨ns, q, v, h1, h2, h3⟩ := hS
  exact ⟨ns, q, v, by rw [upd_ne n1.symm]; exact h1, by rw [upd_ne n2.symm]; exact h2, h3⟩
theorem stm_new (hS : Stm S c H) (hp : H p = none) : Stm S c (upd H p o) := stm_put hS (ext_ne hS hp) (ext_nc hS hp)
theorem stm_same (hS : Stm S c H) (e : Same H H') : Stm S c H' := by
  obtain ⟨ns, q, v, h1, h2, h3⟩ := hS
  exact ⟨ns, q, v, e _ _ h1, e _ _ h2, h3⟩
end
/-- at G a list of these numbers, which is not the stream -/
def Lst (S c G : Addr) (gs : List Int) (H : Hp) : Prop := G ≠ S ∧ G ≠ c ∧ H G = some (.lst (gs.map V.int))
theorem Lst.ext {S c G : Addr} {gs : List Int} {H H' : Hp} (e : Ext S H H') (h : Lst S c G gs H) : Lst S c G gs H' := ⟨h.1, h.2.1, e _ _ h.1 h.2.2⟩
theorem Lst.sq {K : PySem.W.Frag} {S c G : Addr} {gs : List Int} {H : Hp} (h : Lst S c G gs H) : SqL K H G (gs.map V.int) := SqL.of h.2.2
/-- a mutated list that H did not know -/
theorem ext_mut {S p : Addr} {H H' : Hp} {o : HO} (e : Ext S H H') (h : H p = none) : Ext S H (upd H' p o) := fun a u n ha => by
  rw [upd_ne (ne_of_none ha h)]
  exact e a u n ha
/-- a grid of points -/
structure GridOk (gs : List Int) : Prop where
  two : 2 ≤ gs.length
  most : gs.length ≤ 11
  rng : ∀ x ∈ gs, 0 ≤ x ∧ x ≤ 1000000
  asc : gs.Pairwise (· < ·)
theorem grid_first {gs : List Int} (h : gs.Pairwise (· < ·)) (h0 : ∀ x ∈ gs, 0 ≤ x) : (gs.set 0 0).Pairwise (· < ·) := by
  cases gs with
  | nil => exact h
  | cons a r =>
    rw [List.pairwise_cons] at h
    show (0 :: r).Pairwise (· < ·)
    rw [List.pairwise_cons]
    refine ⟨fun x hx => ?_, h.2⟩
    have h1 := h.1 x hx
    have h2 := h0 a (by simp)
    omega
theorem grid_last {B : Int} : ∀ {gs : List Int} {j : Nat}, gs.Pairwise (· < ·) → (∀ x ∈ gs, x < B) → gs.length = j + 1 → (gs.set j B).Pairwise (· < ·)
  | [], j, _, _, hl => by simp at hl
  | a :: r, 0, _, _, hl => by
    have e : r = [] := by simpa using hl
    subst e
    exact List.pairwise_singleton _ _
  | a :: r, j + 1, h, hb, hl => by
    rw [List.pairwise_cons] at h
    show (a :: r.set j B).Pairwise (· < ·)
    rw [List.pairwise_cons]
    refine ⟨fun x hx => ?_, grid_last h.2 (fun x hx => hb x (List.mem_cons_of_mem _ hx)) (by simpa using hl)⟩
    rcases List.mem_or_eq_of_mem_set hx with hx | rfl
    · exact h.1 x hx
    · exact hb a (by simp)
/-- a tuple that is not the stream -/
theorem tup_ne {S c t : Addr} {H : Hp} {xs : List V} (hS : Stm S c H) (h : H t = some (.tup xs)) : t ≠ S := fun e => by
  obtain ⟨ns, q, v, h1, _⟩ := hS
  rw [e, h1] at h
  cases h
/-- data of which the stream is no part -/
theorem dp_hid {K : PySem.W.Frag} {S : Addr} {H : Hp} {v : V} {d : PyData} (h : Dp K (hid S H) v d) : Dp K H v d := dp_same hid_le h
theorem dp_ext {K : PySem.W.Frag} {S : Addr} {H H' : Hp} {v : V} {d : PyData} (e : Ext S H H') (h : Dp K (hid S H) v d) : Dp K (hid S H') v d := dp_same (hid_ext e) h
theorem new_tupS {K : PySem.W.Frag} {S c p : Addr} {H : Hp} {xs : List V} {ds : List PyData} (hS : Stm S c H) (np : H p = none) (h : DpAll K (hid S H) xs ds) : Dp K (hid S (upd H p (.tup xs))) (.ref p) (.tuple ds) := by
  have n := ext_ne hS np
  exact .tup (.inl (.inl (by rw [hid_at n]; exact upd_same))) (dpa_same (hid_same (same_new np)) h)
theorem new_lstS {K : PySem.W.Frag} {S c p : Addr} {H : Hp} {xs : List V} {ds : List PyData} (hS : Stm S c H) (np : H p = none) (h : DpAll K (hid S H) xs ds) : Dp K (hid S (upd H p (.lst xs))) (.ref p) (.list ds) := by
  have n := ext_ne hS np
  exact .lst (.inl (.inl (by rw [hid_at n]; exact upd_same))) (dpa_same (hid_same (same_new np)) h)
theorem keepS {K : PySem.W.Frag} {S p : Addr} {H : Hp} {o : HO} {v : V} {d : PyData} (np : H p = none) (h : Dp K (hid S H) v d) : Dp K (hid S (upd H p o)) v d := dp_same (hid_same (same_new np)) h
end Kx

set_option Elab.async false
set_option linter.all false
set_option maxRecDepth 100000
set_option maxHeartbeats 4000000
/-! what the top has left, told by a Hook: defs, own error classes, their one field's def -/
namespace Hk
open PySem PySem.Spec PyProof.Rows L2 He
/-! ### a def, its defaults told -/
abbrev Fn (K : PySem.W.Frag) (x : Str) (st : Stmt) (dvs : List V) (f : Addr) (fd : FuncData) : Prop := FunD K x x (defArgs st) (defBody st) (defScope st) dvs [] f fd
section
variable {P : Program} {w : World} {K : PySem.W.Frag} {mg : Str → Option Value} {base : Heap} {x : Str} {st : Stmt} {dvs : List V} {f : Addr} {fd : FuncData} {N ps : List Str} {k : Nat} {sp : Sp}
theorem okN (F : Fn K x st dvs f fd) (S : FnScope N ps (defScope st)) (len : ∀ vs H Q E, sp vs H Q E → vs.length = ps.length)
    (hbody : ∀ (cdv : Value) (A : Around) (outer : List Env) (s : Shared) (H : Hp) (vs : List V) (Q : VK) (E : XK), Room k (A.deeper (envOfC x (defScope st) s.heap.objs.size f cdv)) → sp vs H Q E →
      ∃ t, PSs (cxOf CX0 P w K mg base N x (defScope st) f cdv A outer s H E).nox (defBody st) t ∧ t { nx := fun _ H' => Q .non H', rt := Q } (start N vs) H) : FnOk P w K mg base CX0 (k + 1) f fd ps sp :=
  F.ok S len fun cdv A outer s H vs Q E hr hsp => by
    obtain ⟨t, h, q⟩ := hbody cdv A outer s H vs Q E hr hsp
    exact ⟨t, h.nox, q⟩
theorem okX (F : Fn K x st dvs f fd) (S : FnScope N ps (defScope st)) (len : ∀ vs H Q E, sp vs H Q E → vs.length = ps.length)
    (hbody : ∀ (cdv : Value) (A : Around) (outer : List Env) (s : Shared) (H : Hp) (vs : List V) (Q : VK) (E : XK), Room k (A.deeper (envOfC x (defScope st) s.heap.objs.size f cdv)) → sp vs H Q E →
      ∃ t, PSs (cxOf (L2.CX P w) P w K mg base N x (defScope st) f cdv A outer s H E) (defBody st) t ∧ t { nx := fun _ H' => Q .non H', rt := Q } (start N vs) H) : FnOk P w K mg base (L2.CX P w) (k + 1) f fd ps sp :=
  F.ok S len hbody
end
/-- the same of a method -/
abbrev FnM (K : PySem.W.Frag) (x qual : Str) (st : Stmt) (dvs : List V) (f : Addr) (fd : FuncData) : Prop := FunD K x qual (defArgs st) (defBody st) (defScope st) dvs [] f fd
section
variable {P : Program} {w : World} {K : PySem.W.Frag} {mg : Str → Option Value} {base : Heap} {x qual : Str} {st : Stmt} {dvs : List V} {f : Addr} {fd : FuncData} {N ps : List Str} {k : Nat} {sp : Sp}
theorem okM (F : FnM K x qual st dvs f fd) (S : FnScope N ps (defScope st)) (len : ∀ vs H Q E, sp vs H Q E → vs.length = ps.length)
    (hbody : ∀ (cdv : Value) (A : Around) (outer : List Env) (s : Shared) (H : Hp) (vs : List V) (Q : VK) (E : XK), Room k (A.deeper (envOfC qual (defScope st) s.heap.objs.size f cdv)) → sp vs H Q E →
      ∃ t, PSs (cxOf CX0 P w K mg base N qual (defScope st) f cdv A outer s H E).nox (defBody st) t ∧ t { nx := fun _ H' => Q .non H', rt := Q } (start N vs) H) : FnOk P w K mg base CX0 (k + 1) f fd ps sp :=
  F.ok S len fun cdv A outer s H vs Q E hr hsp => by
    obtain ⟨t, h, q⟩ := hbody cdv A outer s H vs Q E hr hsp
    exact ⟨t, h.nox, q⟩
end
/-! ### own error classes -/
def oexB (K : PySem.W.Frag) (C : Addr) : Bool := (match K.lookup C with
  | some ⟨.type "type", _, .cls cd, sl⟩ => (match cd.mro, sl.toList with
    | .ref C' :: bm, [_, _, _, _, some (.builtin n), _] => C' == C && n == "ValueError.__new__" && !cd.hasDel && cd.hasDict && PySem.HandSPX.refsVE bm
    | _, _ => false)
  | _ => false) && (eqO (PySem.W.findIn K (.ref C) "__setattr__") (some (some (.builtin "object.__setattr__"))) && (decide (PySem.W.subIn K (.ref C) (.type "BaseException") = some true) && (decide (PySem.W.typeIn K (.ref C) = some (.type "type")) && PySem.W.keepIn K (.ref C))))
theorem oexB_ok {K : PySem.W.Frag} {C : Addr} (h : oexB K C = true) : OexC K C := by
  obtain ⟨q, h⟩ := ba h
  obtain ⟨h1, h⟩ := ba h
  obtain ⟨h2, h⟩ := ba h
  obtain ⟨h3, h4⟩ := ba h
  refine ⟨?_, eqO_ok h1, of_decide_eq_true h2, of_decide_eq_true h3, h4⟩
  split at q
  · rename_i dd cd sl ho
    split at q
    · rename_i C' bm k0 k1 k2 k3 n k5 hm hs
      simp only [Bool.and_eq_true, beq_iff_eq, Bool.not_eq_true'] at q
      obtain ⟨⟨⟨⟨rfl, rfl⟩, hdel⟩, hdic⟩, ht⟩ := q
      obtain ⟨nm, bs, mro, ns, qn, hd, sn, sub, ab, col, del⟩ := cd
      dsimp only at hm hdel hdic
      subst hm hdel hdic
      have hsl : sl = #[k0, k1, k2, k3, some (.builtin "ValueError.__new__"), k5] := by
        obtain ⟨l⟩ := sl
        simp only at hs
        rw [hs]
      subst hsl
      exact ⟨nm, qn, ns, bs, bm, sn, sub, ab, col, dd, k0, k1, k2, k3, k5, ho, ht⟩
    · cases q
  · cases q
def supB (K : PySem.W.Frag) (C D : Addr) (fld : Str) : Bool := oexB K C && (decide (PySem.W.subIn K (.ref C) (.type "ValueError") = some true) && (decide (PySem.W.mroIn K C (.ref D) = some true) && (eqO (PySem.W.ks_superIn K C D "__init__") (some (some (.builtin "ValueError.__init__"))) && eqO (PySem.W.findIn K (.ref C) fld) (some none))))
theorem supB_ok {K : PySem.W.Frag} {C D : Addr} {fld : Str} (h : supB K C D fld = true) : Sup.SupC K C D fld := by
  obtain ⟨h0, h⟩ := ba h
  obtain ⟨h1, h⟩ := ba h
  obtain ⟨h2, h⟩ := ba h
  obtain ⟨h3, h4⟩ := ba h
  exact ⟨oexB_ok h0, of_decide_eq_true h1, of_decide_eq_true h2, eqO_ok h3, eqO_ok h4⟩
def exdB (K : PySem.W.Frag) (D : Addr) : Bool := (PySem.W.clsIn K D).isSome && (eqO (PySem.W.findIn K (.ref D) "__getattribute__") (some (some (.builtin "BaseException.__getattribute__"))) && (eqO (PySem.W.findIn K (.ref D) "__getattr__") (some none) && (decide (PySem.W.subIn K (.ref D) (.type "BaseException") = some true) &&
  (eqO (PySem.W.findIn K (.ref D) "__class__") (some (some (.builtin "object.__class__"))) && (eqO (PySem.W.specialIn K (.builtin "object.__class__") "__get__") (some (some (.builtin "getset_descriptor.__get__"))) && (decide (PySem.W.takesIn K (.builtin "object.__class__") = some true) && decide (PySem.W.mroIn K D (.type "object") = some true)))))))
theorem exdB_ok {K : PySem.W.Frag} {D : Addr} (h : exdB K D = true) : Lk.ExD K D := by
  obtain ⟨h0, h⟩ := ba h
  obtain ⟨h1, h⟩ := ba h
  obtain ⟨h2, h⟩ := ba h
  obtain ⟨h3, h⟩ := ba h
  obtain ⟨h4, h⟩ := ba h
  obtain ⟨h5, h⟩ := ba h
  obtain ⟨h6, h7⟩ := ba h
  exact ⟨h0, eqO_ok h1, eqO_ok h2, of_decide_eq_true h3, eqO_ok h4, eqO_ok h5, of_decide_eq_true h6, of_decide_eq_true h7⟩
/-- what of the classes is asked, by names -/
inductive Ce where
  | sup (C D fld : Str)
  | ini (C D : Str)
  | exd (C : Str)
  | xf (C : Str)
  | exm (C : Str)
  | kit (C E : Str) (b : Bool)
  | kitV (C : Str) (E : String) (b : Bool)
  | bare (C : Str)
  | tup (x : Str) (vs : List Dv)
  | eff (x : Str) (b : Bool)
/-- a class made without an __init__ of its own -/
def bareB (K : PySem.W.Frag) (C : Addr) : Bool := PySem.W.makesIn K C && (eqO (PySem.W.findIn K (.ref C) "__init__") (some (some (.builtin "object.__init__"))) && PySem.W.keepIn K (.ref C))
def isTupB (K : PySem.W.Frag) (a : Addr) (f : List Value → Bool) : Bool := match K.lookup a with
  | some ⟨.type c, _, .seq its _, _⟩ => decide (c = "tuple") && (decide (its.size ≤ sizeLine) && f its.toList)
  | _ => false
/-- a pair of a truth value and the empty tuple -/
def effB (K : PySem.W.Frag) (b : Bool) : List Value → Bool
  | [.bool c, .ref p] => decide (c = b) && isTupB K p (fun l => l.isEmpty)
  | _ => false
theorem isTupB_ok {K : PySem.W.Frag} {a : Addr} {f : List Value → Bool} (h : isTupB K a f = true) : ∃ its : List Value, f its = true ∧ ∀ (vs : List V) (H : Hp), Vals vs its → SqT K H a vs := by
  unfold isTupB at h
  split at h
  · rename_i c od its n sl e
    obtain ⟨h1, h2⟩ := ba h
    obtain ⟨h3, h4⟩ := ba h2
    exact ⟨its.toList, h4, fun vs H r => .inr ⟨_, its, n, e, congrArg Value.type (of_decide_eq_true h1), rfl, of_decide_eq_true h3, r⟩⟩
  · cases h
def Ce.ok (K : PySem.W.Frag) : Ce → Bool
  | .sup C D fld => supB K (ga K C) (ga K D) fld
  | .ini C D => eqO (PySem.W.findIn K (.ref (ga K C)) "__init__") (some (some (.ref (fAd K (D, some "__init__")))))
  | .exd C => exdB K (ga K C)
  | .xf C => xfB K (ga K C)
  | .exm C => decide (PySem.W.exmOne K (.ref (ga K C)) (.ref (ga K C)) = some true)
  | .kit C E b => decide (PySem.W.kitOne K (.ref (ga K C)) (.ref (ga K E)) = some b)
  | .kitV C E b => decide (PySem.W.kitOne K (.ref (ga K C)) (.type E) = some b)
  | .bare C => bareB K (ga K C)
  | .tup x vs => tupB K x vs
  | .eff x b => isTupB K (ga K x) (effB K b)
theorem eff_ok {K : PySem.W.Frag} {a : Addr} {b : Bool} (h : isTupB K a (effB K b) = true) : ∃ p, ∀ H : Hp, SqT K H a [.bl b, .ref p] ∧ SqT K H p [] := by
  obtain ⟨its, h1, h2⟩ := isTupB_ok h
  unfold effB at h1
  split at h1
  · rename_i c p
    obtain ⟨h3, h4⟩ := ba h1
    have e : c = b := of_decide_eq_true h3
    subst e
    obtain ⟨its2, h5, h6⟩ := isTupB_ok h4
    have e2 : its2 = [] := List.isEmpty_iff.mp h5
    subst e2
    exact ⟨p, fun H => ⟨h2 _ H (.cons rfl (.cons rfl .nil)), h6 [] H .nil⟩⟩
  · cases h1
/-! ### the __init__ of an own error class -/
abbrev FnI : Type := Option (Str × Str × Arguments × FuncBody × Scope × Addr × List Str × Addr)
structure IniD where
  cls : Str
  qual : Str
  params : Arguments
  body : List Stmt
  scope : Scope
def IniD.at_ (d : IniD) : Str × Option Str := (d.cls, some "__init__")
def IniD.val (d : IniD) : FnI := some ("__init__", d.qual, d.params, .stmts d.body, d.scope, mainGlobals, ["__class__"], builtinsNs)
def fnI (K : PySem.W.Frag) (p : Str × Option Str) : FnI := match K.lookup (fAd K p) with
  | some ⟨_, _, .func fd, _⟩ => some (fd.name, fd.qualname, fd.params, fd.body, fd.scope, fd.globals, fd.closure.map (·.1), fd.builtins)
  | _ => none
def cellB (K : PySem.W.Frag) (D : Addr) : List (Str × Addr) → Bool
  | [(_, cc)] => (match K.lookup cc with
    | some ⟨_, _, .cell (some (.ref D')), _⟩ => decide (D' = D)
    | _ => false)
  | _ => false
def fileB (K : PySem.W.Frag) (file : Str) : Value → Bool
  | .ref c => (match K.lookup c with
    | some ⟨_, _, .fields vs, _⟩ => (match (vs[2]? : Option Value) with
      | some (.str f _) => file == f
      | _ => false)
    | _ => false)
  | _ => false
def noneB : Value → Bool
  | .none => true
  | _ => false
def IniD.ok (file : Str) (K : PySem.W.Frag) (d : IniD) : Bool := (match K.lookup (fAd K d.at_) with
  | some ⟨_, _, .func fd, _⟩ => PySem.W.codeIn K fd.code d.qual && (fileB K file fd.code && (cellB K (ga K d.cls) fd.closure && noneB fd.defaults))
  | _ => false) && ((PySem.W.clsIn K (ga K d.cls)).isSome && (eqO (PySem.W.nsIn K cStatics "thirdparty.any") (some none) && decide (PySem.W.typeIn K (.ref (fAd K d.at_)) = some (.type "function"))))
theorem cellB_ok {K : PySem.W.Frag} {D : Addr} {cl : List (Str × Addr)} (h : cellB K D cl = true) : ∃ x cc o od sl, cl = [(x, cc)] ∧ K.lookup cc = some ⟨o, od, .cell (some (.ref D)), sl⟩ := by
  unfold cellB at h
  split at h
  · rename_i x cc
    split at h
    · rename_i o od D' sl e
      have q : D' = D := of_decide_eq_true h
      subst q
      exact ⟨_, _, _, _, _, rfl, e⟩
    · cases h
  · cases h
theorem fileB_ok {K : PySem.W.Frag} {file : Str} {cd : Value} (h : fileB K file cd = true) : ∃ c o od vs sl f t, cd = .ref c ∧ K.lookup c = some ⟨o, od, .fields vs, sl⟩ ∧ vs[2]? = some (.str f t) ∧ ((file : Str) == f) = true := by
  unfold fileB at h
  split at h
  · rename_i c
    split at h
    · rename_i o od vs sl e
      split at h
      · rename_i f t e2
        exact ⟨_, _, _, _, _, _, _, rfl, e, e2, h⟩
      · cases h
    · cases h
  · cases h
/-- the __init__: what Sup.SupF asks, its binding -/
theorem ini_ok {P : Program} {K : PySem.W.Frag} {file : Str} {d : IniD} (hf : P.main.file = file) (top : (P.main.scope.names.lookup ("super" : Str)).isSome = false) (e : fnI K d.at_ = d.val) (c : d.ok file K = true) {ps : List Str}
    (hb : ∀ (cc : Addr) (kV doc pm : Value) (an : Option Addr) (cdv ct : Value) (us : List Value), us.length = ps.length → bindArgs (PySem.W.fnX "__init__" d.qual d.params d.body d.scope [("__class__", cc)] .none kV doc pm an cdv ct) ⟨us, []⟩ = pure (ps.zip us)) :
    ∃ fd, Sup.SupF P K (ga K d.cls) (fAd K d.at_) d.qual d.params d.body d.scope fd ∧ Binds K fd ps [] := by
  obtain ⟨c1, c2⟩ := ba c
  obtain ⟨c3, c4⟩ := ba c2
  obtain ⟨c5, c6⟩ := ba c4
  unfold fnI at e
  split at c1
  · rename_i oc od fd osl lk
    rw [lk] at e
    obtain ⟨n1, n2, n3, n4, n5, n6, n7, n8, n9, n10, n11, n12, n13, n14, n15⟩ := fd
    have e2 : (some (n1, n2, n3, n4, n5, n6, n7.map (·.1), n15) : FnI) = d.val := e
    unfold IniD.val at e2
    simp only [Option.some.injEq, Prod.mk.injEq] at e2
    obtain ⟨h1, h2, h3, h4, h5, h6, h7, h8⟩ := e2
    subst h1 h2 h3 h4 h5 h6 h8
    obtain ⟨k1, c1⟩ := ba (show (PySem.W.codeIn K n13 d.qual && (fileB K file n13 && (cellB K (ga K d.cls) n7 && noneB n8))) = true from c1)
    obtain ⟨k2, c1⟩ := ba c1
    obtain ⟨k3, k4⟩ := ba c1
    obtain ⟨x, cc, cl, cld, csl, rfl, lcc⟩ := cellB_ok k3
    obtain ⟨cA, ccl, cdd, vs, ccs, fl, tf, rfl, lc, hv, hff⟩ := fileB_ok k2
    have hx : x = "__class__" := by
      have q : [x] = [("__class__" : Str)] := h7
      exact (List.cons.inj q).1
    subst hx
    have hn : n8 = .none := by
      cases n8 with
      | none => rfl
      | _ => cases k4
    subst hn
    exact ⟨_, ⟨⟨oc, od, _, n9, n10, n11, n12, cA, cc, n14, osl, ccl, cdd, vs, ccs, fl, tf, cl, cld, csl, rfl, lk, k1, lc, hv, by rw [hf]; exact hff, lcc⟩, top, c3, eqO_ok c5, of_decide_eq_true c6⟩, .all (fun us hl => hb cc n9 n10 n11 n12 (.ref cA) n14 us hl)⟩
  · cases c1
/-! ### the Hook -/
abbrev AlK : Type := AlD × (Bool × List FnI)
def obsK (fa : List Fa) (fn : List DefD) (file : Str) (ini : List IniD) (ce : List Ce) (K : PySem.W.Frag) : AlK := (obsD fa fn K, ((ini.all fun d => d.ok file K) && ce.all fun e => e.ok K, ini.map fun d => fnI K d.at_))
def valK (fn : List DefD) (ini : List IniD) : AlK := (valD fn, (true, ini.map IniD.val))
def Says (fa : List Fa) (fn : List DefD) (file : Str) (ini : List IniD) (ce : List Ce) (K : PySem.W.Frag) : Prop := obsK fa fn file ini ce K = valK fn ini
/-- what is looked at: what the module's names reach in n steps, and the model's own marks -/
def asK (g : Addr → Option Obj) (n : Nat) : List Addr := cStatics :: asD g n
def obsKG (n : Nat) (fa : List Fa) (fn : List DefD) (file : Str) (ini : List IniD) (ce : List Ce) (g : Addr → Option Obj) : AlK := obsK fa fn file ini ce (frG g (asK g n))
def hookK (n : Nat) (fa : List Fa) (fn : List DefD) (file : Str) (ini : List IniD) (ce : List Ce) : PySem.W.Hook where
  α := AlK
  obs := fun s => obsKG n fa fn file ini ce s.heap.get?
  val := fun _ => valK fn ini
  says := fun _ h => ∃ K : PySem.W.Frag, K.In h ∧ Says fa fn file ini ce K
  of := fun _ _ e => ⟨_, frG_in, e⟩
  keeps := fun _ _ _ ⟨K, hK, c⟩ k => ⟨K, PySem.W.Frag.In.keeps hK k, c⟩
theorem obsKG_eq {n : Nat} {fa : List Fa} {fn : List DefD} {file : Str} {ini : List IniD} {ce : List Ce} {g : Addr → Option Obj} {s : Shared} (h : ∀ a, g a = s.heap.get? a) : obsKG n fa fn file ini ce g = (hookK n fa fn file ini ce).obs s := by
  have e : g = s.heap.get? := funext h
  rw [e] <;> rfl
section
variable {fa : List Fa} {fn : List DefD} {file : Str} {ini : List IniD} {ce : List Ce} {K : PySem.W.Frag}
theorem Says.d (c : Says fa fn file ini ce K) : SaysD fa fn K := congrArg (fun z : AlK => z.1) c
theorem Says.i (c : Says fa fn file ini ce K) (i : Nat) {d : IniD} (h : ini[i]? = some d := by rfl) : fnI K d.at_ = d.val ∧ d.ok file K = true := by
  have c2 := (ba (show ((ini.all fun d => d.ok file K) && ce.all fun e => e.ok K) = true from congrArg (fun z : AlK => z.2.1) c)).1
  have e : ini.map (fun d => fnI K d.at_) = ini.map IniD.val := congrArg (fun z : AlK => z.2.2) c
  have e2 : (ini.map fun d => fnI K d.at_)[i]? = (ini.map IniD.val)[i]? := by rw [e]
  rw [List.getElem?_map, List.getElem?_map, h] at e2
  exact ⟨Option.some.inj e2, List.all_eq_true.mp c2 d (List.mem_of_getElem? h)⟩
theorem Says.cls (c : Says fa fn file ini ce K) (i : Nat) {e : Ce} (h : ce[i]? = some e := by rfl) : e.ok K = true := by
  have c2 := (ba (show ((ini.all fun d => d.ok file K) && ce.all fun e => e.ok K) = true from congrArg (fun z : AlK => z.2.1) c)).2
  exact List.all_eq_true.mp c2 e (List.mem_of_getElem? h)
end
end Hk

set_option Elab.async false
set_option linter.all false
set_option maxRecDepth 100000
set_option maxHeartbeats 4000000
/-! more that the top has left: nested tuples, tables with text keys, constants of classes, instances' types -/
namespace Hm
open PySem PySem.Spec PyProof.Rows L2 He
mutual
def datB (K : PySem.W.Frag) : PyData → Value → Bool
  | .none, .none => true
  | .bool b, .bool c => decide (b = c)
  | .int i, .int j _ => decide (i = j)
  | .str x, .str y _ => decide (x = y)
  | .tuple ds, .ref p => (match K.lookup p with
    | some ⟨.type c, _, .seq its _, _⟩ => decide (c = "tuple") && (decide (its.size ≤ sizeLine) && datAllB K ds its.toList)
    | _ => false)
  | _, _ => false
def datAllB (K : PySem.W.Frag) : List PyData → List Value → Bool
  | [], [] => true
  | d :: r, v :: s => datB K d v && datAllB K r s
  | _, _ => false
end
mutual
theorem datB_ok {K : PySem.W.Frag} : ∀ {d : PyData} {v : Value}, datB K d v = true → ∃ x : V, RelV x v ∧ ∀ H : Hp, Dp K H x d
  | .none, v, h => by
    cases v with
    | none => exact ⟨.non, rfl, fun _ => .non⟩
    | _ => cases h
  | .bool b, v, h => by
    cases v with
    | bool c =>
      have e : b = c := of_decide_eq_true h
      subst e
      exact ⟨.bl b, rfl, fun _ => .bl b⟩
    | _ => cases h
  | .int i, v, h => by
    cases v with
    | int j t =>
      have e : i = j := of_decide_eq_true h
      subst e
      exact ⟨.int i, ⟨t, rfl⟩, fun _ => .int i⟩
    | _ => cases h
  | .str i, v, h => by
    cases v with
    | str j t =>
      have e : i = j := of_decide_eq_true h
      subst e
      exact ⟨.str i, ⟨t, rfl⟩, fun _ => .str i⟩
    | _ => cases h
  | .list ds, v, h => by cases v <;> cases h
  | .dict ds, v, h => by cases v <;> cases h
  | .tuple ds, v, h => by
    cases v with
    | ref p =>
      have h : (match K.lookup p with
        | some ⟨.type c, _, .seq its _, _⟩ => decide (c = "tuple") && (decide (its.size ≤ sizeLine) && datAllB K ds its.toList)
        | _ => false) = true := h
      split at h
      · rename_i c od its n sl e
        obtain ⟨h1, h2⟩ := ba h
        obtain ⟨h3, h4⟩ := ba h2
        obtain ⟨xs, r, hd⟩ := datAllB_ok h4
        exact ⟨.ref p, rfl, fun H => .tup (.inr ⟨_, its, n, e, congrArg Value.type (of_decide_eq_true h1), rfl, of_decide_eq_true h3, r⟩) (hd H)⟩
      · cases h
    | _ => cases h
theorem datAllB_ok {K : PySem.W.Frag} : ∀ {ds : List PyData} {vs : List Value}, datAllB K ds vs = true → ∃ xs : List V, Vals xs vs ∧ ∀ H : Hp, DpAll K H xs ds
  | [], [], _ => ⟨[], .nil, fun _ => .nil⟩
  | [], _ :: _, h => by cases h
  | _ :: _, [], h => by cases h
  | d :: r, v :: s, h => by
    obtain ⟨h1, h2⟩ := ba (show (datB K d v && datAllB K r s) = true from h)
    obtain ⟨x, r1, d1⟩ := datB_ok h1
    obtain ⟨xs, r2, d2⟩ := datAllB_ok h2
    exact ⟨x :: xs, .cons r1 r2, fun H => .cons (d1 H) (d2 H)⟩
end
theorem datT_ok {K : PySem.W.Frag} {a : Addr} {d : PyData} (h : datB K d (.ref a) = true) : ∀ H : Hp, Dp K H (.ref a) d := by
  obtain ⟨x, r, k⟩ := datB_ok h
  cases x with
  | ref b => cases r; exact k
  | non => cases r
  | bl b => cases r
  | int b => obtain ⟨t, e⟩ := r; cases e
  | str b => obtain ⟨t, e⟩ := r; cases e
  | byt b => cases (k (fun _ => none))
  | flt b => cases (k (fun _ => none))
  | ty b => cases r
/-- a table's values: tuples of texts -/
def strsB (ss : List Str) (vs : List Value) : Bool := match ss, vs with
  | [], [] => true
  | s :: r, .str x _ :: q => decide (s = x) && strsB r q
  | _, _ => false
theorem strsB_ok : ∀ {ss : List Str} {vs : List Value}, strsB ss vs = true → Vals (ss.map V.str) vs
  | [], [], _ => .nil
  | [], _ :: _, h => by cases h
  | _ :: _, [], h => by cases h
  | s :: r, v :: q, h => by
    cases v with
    | str x t =>
      obtain ⟨h1, h2⟩ := ba (show (decide (s = x) && strsB r q) = true from h)
      have e : s = x := of_decide_eq_true h1
      subst e
      exact .cons ⟨t, rfl⟩ (strsB_ok h2)
    | _ => cases h
def tabB (K : PySem.W.Frag) (a : Addr) (kvs : List (Str × List Str)) : Bool := kvs.all fun q => match PySem.W.nsIn K a q.1 with
  | some (some (.ref p)) => Hk.isTupB K p (strsB q.2)
  | _ => false
theorem tabB_ok {K : PySem.W.Frag} {a : Addr} {kvs : List (Str × List Str)} (h : tabB K a kvs = true) {q : Str × List Str} (hq : q ∈ kvs) : ∃ p, PySem.W.nsIn K a q.1 = some (some (.ref p)) ∧ ∀ H : Hp, SqT K H p (q.2.map V.str) := by
  have h2 := List.all_eq_true.mp h q hq
  split at h2
  · rename_i p e
    obtain ⟨its, h3, h4⟩ := Hk.isTupB_ok h2
    exact ⟨p, e, fun H => h4 _ H (strsB_ok h3)⟩
  · cases h2
/-- what an instance's type asks of its class -/
structure InsT (K : PySem.W.Frag) (C : Addr) : Prop where
  cl : Cls K C
  ha : PySem.W.findIn K (.ref C) "__class__" = some (some (.builtin "object.__class__"))
  hn : PySem.W.specialIn K (.builtin "object.__class__") "__get__" = some (some (.builtin "getset_descriptor.__get__"))
  ht : PySem.W.takesIn K (.builtin "object.__class__") = some true
  hm : PySem.W.mroIn K C (.type "object") = some true
theorem InsT.ty {K : PySem.W.Frag} {C a dx : Addr} {fs : List (Str × V)} {H : Hp} (t : InsT K C) (e : H a = some (.ins C dx fs)) : TyX K H (.ref a) (.ref C) := .base (.ins e t.cl t.ha t.hn t.ht t.hm)
def insTB (K : PySem.W.Frag) (C : Addr) : Bool := eqO (PySem.W.findIn K (.ref C) "__class__") (some (some (.builtin "object.__class__"))) && (eqO (PySem.W.specialIn K (.builtin "object.__class__") "__get__") (some (some (.builtin "getset_descriptor.__get__"))) && (decide (PySem.W.takesIn K (.builtin "object.__class__") = some true) && decide (PySem.W.mroIn K C (.type "object") = some true)))
theorem insTB_ok {K : PySem.W.Frag} {C : Addr} (cl : Cls K C) (h : insTB K C = true) : InsT K C := by
  obtain ⟨h1, h⟩ := ba h
  obtain ⟨h2, h⟩ := ba h
  obtain ⟨h3, h4⟩ := ba h
  exact ⟨cl, eqO_ok h1, eqO_ok h2, of_decide_eq_true h3, of_decide_eq_true h4⟩
/-- what data and instances are seen as by isinstance against an own class, and by == -/
structure OwnT (K : PySem.W.Frag) (C : Addr) : Prop where
  ins : InsT K C
  self : PySem.W.kitOne K (.ref C) (.ref C) = some true
  kit : ∀ T ∈ ["NoneType", "bool", "int", "str", "list", "tuple"], PySem.W.kitOne K (.type T) (.ref C) = some false
  nf : ∀ T ∈ ["NoneType", "bool", "int", "str", "list", "tuple"], PySem.W.notFirst K C (.type T) = true
theorem OwnT.nfC {K : PySem.W.Frag} {C : Addr} : PySem.W.notFirst K C (.ref C) = true := by unfold PySem.W.notFirst; simp
def ownTB (K : PySem.W.Frag) (C : Addr) : Bool := decide (PySem.W.kitOne K (.ref C) (.ref C) = some true) && (["NoneType", "bool", "int", "str", "list", "tuple"].all fun T => decide (PySem.W.kitOne K (.type T) (.ref C) = some false) && PySem.W.notFirst K C (.type T))
theorem ownTB_ok {K : PySem.W.Frag} {C : Addr} (i : InsT K C) (h : ownTB K C = true) : OwnT K C := by
  obtain ⟨h1, h2⟩ := ba h
  have h3 := fun T hT => ba (List.all_eq_true.mp h2 T hT)
  exact ⟨i, of_decide_eq_true h1, fun T hT => of_decide_eq_true (h3 T hT).1, fun T hT => (h3 T hT).2⟩
/-- data that is no dict -/
def noD : PyData → Bool
  | .dict _ => false
  | _ => true
theorem tname_mem {d : PyData} (h : noD d = true) : Lk.tname d ∈ ["NoneType", "bool", "int", "str", "list", "tuple"] := by
  cases d with
  | dict _ => cases h
  | _ => simp [Lk.tname]
/-- a property of an own class: its object, its getter -/
def propP (K : PySem.W.Frag) (C : Addr) (f : Str) : Addr := match PySem.W.findIn K (.ref C) f with
  | some (some (.ref p)) => p
  | _ => 0
def propG (K : PySem.W.Frag) (C : Addr) (f : Str) : Addr := match PySem.W.recIn K (propP K C f) "property" with
  | some (.ref g :: _) => g
  | _ => 0
def propB (K : PySem.W.Frag) (C : Addr) (f : Str) : Bool := eqO (PySem.W.findIn K (.ref C) f) (some (some (.ref (propP K C f)))) && (eqO (PySem.W.specialIn K (.ref (propP K C f)) "__get__") (some (some (.builtin "property.__get__"))) && (decide (PySem.W.takesIn K (.ref (propP K C f)) = some true) &&
  (match PySem.W.recIn K (propP K C f) "property" with
  | some (.ref g :: _) => decide (g = propG K C f)
  | _ => false)))
theorem propB_ok {K : PySem.W.Frag} {C : Addr} {f : Str} (h : propB K C f = true) : PropOf K C f (propP K C f) (propG K C f) := by
  obtain ⟨h1, h⟩ := ba h
  obtain ⟨h2, h⟩ := ba h
  obtain ⟨h3, h4⟩ := ba h
  refine ⟨eqO_ok h1, eqO_ok h2, of_decide_eq_true h3, ?_⟩
  split at h4
  · rename_i g rest e
    have q := of_decide_eq_true h4
    exact ⟨rest, by rw [e, q]⟩
  · cases h4
inductive Cf where
  | prop (C f : Str)
  | nobool (C : Str)
  | own (C : Str)
  | emp (C m : Str) (i : Nat)
  | dat (x : Str) (d : PyData)
  | con (C f : Str) (v : Dv)
  | tab (x : Str) (kvs : List (Str × List Str))
  | insT (C : Str)
  | kit (C E : Str) (b : Bool)
def Cf.ok (K : PySem.W.Frag) : Cf → Bool
  | .prop C f => propB K (ga K C) f
  | .nobool C => eqO (PySem.W.findIn K (.ref (ga K C)) "__bool__") (some none)
  | .own C => ownTB K (ga K C)
  | .emp C m i => Hk.isTupB K (dflAt (C, some m) i K) (fun l => l.isEmpty)
  | .dat x d => datB K d (.ref (ga K x))
  | .con C f v => conB K C f v
  | .tab x kvs => tabB K (ga K x) kvs
  | .insT C => insTB K (ga K C)
  | .kit C E b => decide (PySem.W.kitOne K (.ref (ga K C)) (.ref (ga K E)) = some b)
abbrev Tb : Type := Str × List Str
abbrev AlM : Type := Hk.AlK × (Bool × List (Option (List (Option (Str × Int)))))
section
variable (fa : List Fa) (fn : List DefD) (file : Str) (ini : List Hk.IniD) (ce : List Hk.Ce) (cf : List Cf) (ts : List Tb)
def obsM (K : PySem.W.Frag) : AlM := (Hk.obsK fa fn file ini ce K, (cf.all fun e => e.ok K, ts.map fun t => dicW K (ga K t.1)))
def valM (w : World) : AlM := (Hk.valK fn ini, (true, ts.map fun t => some (keysIn w.params t.2)))
def Says (w : World) (K : PySem.W.Frag) : Prop := obsM fa fn file ini ce cf ts K = valM fn ini ts w
def obsMG (n : Nat) (g : Addr → Option Obj) : AlM := obsM fa fn file ini ce cf ts (frG g (Hk.asK g n))
def hookM (n : Nat) : PySem.W.Hook where
  α := AlM
  obs := fun s => obsMG fa fn file ini ce cf ts n s.heap.get?
  val := fun w => valM fn ini ts w
  says := fun w h => ∃ K : PySem.W.Frag, K.In h ∧ Says fa fn file ini ce cf ts w K
  of := fun _ _ e => ⟨_, frG_in, e⟩
  keeps := fun _ _ _ ⟨K, hK, c⟩ k => ⟨K, PySem.W.Frag.In.keeps hK k, c⟩
theorem obsMG_eq {n : Nat} {g : Addr → Option Obj} {s : Shared} (h : ∀ a, g a = s.heap.get? a) : obsMG fa fn file ini ce cf ts n g = (hookM fa fn file ini ce cf ts n).obs s := by
  have e : g = s.heap.get? := funext h
  rw [e] <;> rfl
end
section
variable {fa : List Fa} {fn : List DefD} {file : Str} {ini : List Hk.IniD} {ce : List Hk.Ce} {cf : List Cf} {ts : List Tb} {w : World} {K : PySem.W.Frag}
theorem Says.k (c : Says fa fn file ini ce cf ts w K) : Hk.Says fa fn file ini ce K := congrArg (fun z : AlM => z.1) c
theorem Says.f (c : Says fa fn file ini ce cf ts w K) (i : Nat) {e : Cf} (h : cf[i]? = some e := by rfl) : e.ok K = true := by
  have c2 : (cf.all fun e => e.ok K) = true := congrArg (fun z : AlM => z.2.1) c
  exact List.all_eq_true.mp c2 e (List.mem_of_getElem? h)
theorem Says.tab (c : Says fa fn file ini ce cf ts w K) (i : Nat) {t : Tb} (h : ts[i]? = some t := by rfl) : ∃ es n, KDict K w (ga K t.1) es n := by
  have e : ts.map (fun t => dicW K (ga K t.1)) = ts.map fun t => some (keysIn w.params t.2) := congrArg (fun z : AlM => z.2.2) c
  have e2 : (ts.map fun t => dicW K (ga K t.1))[i]? = (ts.map fun t => some (keysIn w.params t.2))[i]? := by rw [e]
  rw [List.getElem?_map, List.getElem?_map, h] at e2
  exact dicW_ok (Option.some.inj e2)
end
/-- a table's value, as a subscript asks it -/
theorem kdct {w : World} {K : PySem.W.Frag} {a : Addr} {kvs : List (Str × List Str)} (ht : ∃ es n, KDict K w a es n) (h : tabB K a kvs = true) {q : Str × List Str} (hq : q ∈ kvs) : ∃ p, KDct K w a q.1 (.ref p) ∧ ∀ H : Hp, SqT K H p (q.2.map V.str) := by
  obtain ⟨es, n, D⟩ := ht
  obtain ⟨p, e, s⟩ := tabB_ok h hq
  exact ⟨p, ⟨es, n, _, D.at_, D.lit, e, rfl⟩, s⟩
end Hm
namespace Hm
open PySem PySem.Spec PyProof.Rows L2 He
theorem datX_ok {K : PySem.W.Frag} {a : Addr} {ds : List PyData} (h : datB K (.tuple ds) (.ref a) = true) : ∃ xs : List V, (∀ H : Hp, SqT K H a xs) ∧ ∀ H : Hp, DpAll K H xs ds := by
  have h : (match K.lookup a with
    | some ⟨.type c, _, .seq its _, _⟩ => decide (c = "tuple") && (decide (its.size ≤ sizeLine) && datAllB K ds its.toList)
    | _ => false) = true := h
  split at h
  · rename_i c od its n sl e
    obtain ⟨h1, h2⟩ := ba h
    obtain ⟨h3, h4⟩ := ba h2
    obtain ⟨xs, r, hd⟩ := datAllB_ok h4
    exact ⟨xs, fun H => .inr ⟨_, its, n, e, congrArg Value.type (of_decide_eq_true h1), rfl, of_decide_eq_true h3, r⟩, hd⟩
  · cases h
theorem emp_ok {K : PySem.W.Frag} {a : Addr} (h : Hk.isTupB K a (fun l => l.isEmpty) = true) : ∀ H : Hp, SqT K H a [] := by
  obtain ⟨its, h1, h2⟩ := Hk.isTupB_ok h
  have e : its = [] := List.isEmpty_iff.mp h1
  subst e
  exact fun H => h2 [] H .nil
end Hm

set_option Elab.async false
set_option linter.all false
set_option maxRecDepth 100000
set_option maxHeartbeats 4000000
/-! the Hook's look, cheaper: what the module's names reach, each object asked once, code objects not opened -/
namespace Hq
open PySem PySem.Spec PyProof.Rows L2 He
def refsP (o : Obj) : List Addr := match o.data with
  | .fields vs => (match Nat.ble vs.size 6 with
    | true => vs.toList.flatMap refV
    | false => [])
  | .dict es _ => es.toList.flatMap fun e => refV e.val
  | .func fd => refV fd.code ++ (refV fd.defaults ++ (refV fd.kwdefaults ++ fd.closure.map (·.2)))
  | .cls cd => cd.ns :: cd.mro.flatMap refV
  | .seq its _ => its.toList.flatMap refV
  | .cell (some v) => refV v
  | _ => []
def mem (a : Nat) : List Nat → Bool
  | [] => false
  | b :: r => match Nat.beq a b with
    | true => true
    | false => mem a r
/-- the new ones of these, put ahead -/
def addP (seen : List Addr) : List Addr → List Addr → List Addr
  | [], acc => acc
  | b :: r, acc => match mem b seen with
    | true => addP seen r acc
    | false => (match mem b acc with
      | true => addP seen r acc
      | false => addP seen r (b :: acc))
def stepP (g : Addr → Option Obj) (seen : List Addr) : List Addr → List Addr → List Addr
  | [], acc => acc
  | a :: fr, acc => match g a with
    | some o => stepP g seen fr (addP seen (refsP o) acc)
    | none => stepP g seen fr acc
def goP (g : Addr → Option Obj) : Nat → List Addr → List Addr → List Addr
  | 0, seen, _ => seen
  | n + 1, seen, fr => match stepP g seen fr [] with
    | [] => seen
    | a :: r => goP g n (a :: r ++ seen) (a :: r)
def asP (g : Addr → Option Obj) (n : Nat) : List Addr := goP g n [cStatics, mainGlobals] [mainGlobals]
def obsKG (n : Nat) (fa : List Fa) (fn : List DefD) (file : Str) (ini : List Hk.IniD) (ce : List Hk.Ce) (g : Addr → Option Obj) : Hk.AlK := Hk.obsK fa fn file ini ce (frG g (asP g n))
def hookK (n : Nat) (fa : List Fa) (fn : List DefD) (file : Str) (ini : List Hk.IniD) (ce : List Hk.Ce) : PySem.W.Hook where
  α := Hk.AlK
  obs := fun s => obsKG n fa fn file ini ce s.heap.get?
  val := fun _ => Hk.valK fn ini
  says := fun _ h => ∃ K : PySem.W.Frag, K.In h ∧ Hk.Says fa fn file ini ce K
  of := fun _ _ e => ⟨_, frG_in, e⟩
  keeps := fun _ _ _ ⟨K, hK, c⟩ k => ⟨K, PySem.W.Frag.In.keeps hK k, c⟩
theorem obsKG_eq {n : Nat} {fa : List Fa} {fn : List DefD} {file : Str} {ini : List Hk.IniD} {ce : List Hk.Ce} {g : Addr → Option Obj} {s : Shared} (h : ∀ a, g a = s.heap.get? a) : obsKG n fa fn file ini ce g = (hookK n fa fn file ini ce).obs s := by
  have e : g = s.heap.get? := funext h
  rw [e] <;> rfl
section
variable (fa : List Fa) (fn : List DefD) (file : Str) (ini : List Hk.IniD) (ce : List Hk.Ce) (cf : List Hm.Cf) (ts : List Hm.Tb)
def obsMG (n : Nat) (g : Addr → Option Obj) : Hm.AlM := Hm.obsM fa fn file ini ce cf ts (frG g (asP g n))
def hookM (n : Nat) : PySem.W.Hook where
  α := Hm.AlM
  obs := fun s => obsMG fa fn file ini ce cf ts n s.heap.get?
  val := fun w => Hm.valM fn ini ts w
  says := fun w h => ∃ K : PySem.W.Frag, K.In h ∧ Hm.Says fa fn file ini ce cf ts w K
  of := fun _ _ e => ⟨_, frG_in, e⟩
  keeps := fun _ _ _ ⟨K, hK, c⟩ k => ⟨K, PySem.W.Frag.In.keeps hK k, c⟩
theorem obsMG_eq {n : Nat} {g : Addr → Option Obj} {s : Shared} (h : ∀ a, g a = s.heap.get? a) : obsMG fa fn file ini ce cf ts n g = (hookM fa fn file ini ce cf ts n).obs s := by
  have e : g = s.heap.get? := funext h
  rw [e] <;> rfl
end
/-! ### getters of properties -/
structure PDef where
  cls : Str
  prop : Str
  qual : Str
  params : Arguments
  body : List Stmt
  scope : Scope
def PDef.adr (K : PySem.W.Frag) (d : PDef) : Addr := Hm.propG K (ga K d.cls) d.prop
def PDef.val (d : PDef) : FnW := some (d.prop, d.qual, d.params, .stmts d.body, d.scope, mainGlobals, [], builtinsNs)
def fnA (K : PySem.W.Frag) (a : Addr) : FnW := match K.lookup a with
  | some ⟨_, _, .func fd, _⟩ => some (fd.name, fd.qualname, fd.params, fd.body, fd.scope, fd.globals, fd.closure, fd.builtins)
  | _ => none
def okA (K : PySem.W.Frag) (a : Addr) (qual : Str) : Bool := PySem.W.keepIn K (.ref a) && (match K.lookup a with
  | some ⟨_, _, .func fd, _⟩ => PySem.W.codeIn K fd.code qual && dflB K fd.defaults []
  | _ => false)
theorem fnA_funD {K : PySem.W.Frag} {a : Addr} {name qual : Str} {params : Arguments} {body : List Stmt} {scope : Scope} (e : fnA K a = some (name, qual, params, .stmts body, scope, mainGlobals, [], builtinsNs)) (c : okA K a qual = true) : ∃ fd, FunD K name qual params body scope [] [] a fd := by
  obtain ⟨kp, c2⟩ := ba c
  unfold fnA at e
  cases q : K.lookup a with
  | none =>
    rw [q] at c2
    cases c2
  | some o =>
    obtain ⟨oc, od, dt, osl⟩ := o
    rw [q] at c2 e
    cases dt with
    | func fd =>
      obtain ⟨n1, n2, n3, n4, n5, n6, n7, n8, n9, n10, n11, n12, n13, n14, n15⟩ := fd
      have e2 : (some (n1, n2, n3, n4, n5, n6, n7, n15) : FnW) = some (name, qual, params, .stmts body, scope, mainGlobals, [], builtinsNs) := e
      simp only [Option.some.injEq, Prod.mk.injEq] at e2
      obtain ⟨h1, h2, h3, h4, h5, h6, h7, h8⟩ := e2
      subst h1 h2 h3 h4 h5 h6 h7 h8
      obtain ⟨k1, k2⟩ := ba (show (PySem.W.codeIn K n13 n2 && dflB K n8 []) = true from c2)
      exact ⟨_, ⟨oc, od, n8, n9, n10, n11, n12, n13, n14, osl, rfl, q, k1, dflB_ok k2, .inl rfl⟩, kp⟩
    | _ => cases c2
abbrev AlP : Type := Hm.AlM × (Bool × List FnW)
section
variable (fa : List Fa) (fn : List DefD) (file : Str) (ini : List Hk.IniD) (ce : List Hk.Ce) (cf : List Hm.Cf) (ts : List Hm.Tb) (pd : List PDef)
def obsP (K : PySem.W.Frag) : AlP := (Hm.obsM fa fn file ini ce cf ts K, (pd.all fun d => okA K (d.adr K) d.qual, pd.map fun d => fnA K (d.adr K)))
def valP (w : World) : AlP := (Hm.valM fn ini ts w, (true, pd.map PDef.val))
def SaysP (w : World) (K : PySem.W.Frag) : Prop := obsP fa fn file ini ce cf ts pd K = valP fn ini ts pd w
def obsPG (n : Nat) (g : Addr → Option Obj) : AlP := obsP fa fn file ini ce cf ts pd (frG g (asP g n))
def hookP (n : Nat) : PySem.W.Hook where
  α := AlP
  obs := fun s => obsPG fa fn file ini ce cf ts pd n s.heap.get?
  val := fun w => valP fn ini ts pd w
  says := fun w h => ∃ K : PySem.W.Frag, K.In h ∧ SaysP fa fn file ini ce cf ts pd w K
  of := fun _ _ e => ⟨_, frG_in, e⟩
  keeps := fun _ _ _ ⟨K, hK, c⟩ k => ⟨K, PySem.W.Frag.In.keeps hK k, c⟩
theorem obsPG_eq {n : Nat} {g : Addr → Option Obj} {s : Shared} (h : ∀ a, g a = s.heap.get? a) : obsPG fa fn file ini ce cf ts pd n g = (hookP fa fn file ini ce cf ts pd n).obs s := by
  have e : g = s.heap.get? := funext h
  rw [e] <;> rfl
end
section
variable {fa : List Fa} {fn : List DefD} {file : Str} {ini : List Hk.IniD} {ce : List Hk.Ce} {cf : List Hm.Cf} {ts : List Hm.Tb} {pd : List PDef} {w : World} {K : PySem.W.Frag}
theorem SaysP.m (c : SaysP fa fn file ini ce cf ts pd w K) : Hm.Says fa fn file ini ce cf ts w K := congrArg (fun z : AlP => z.1) c
theorem SaysP.get (c : SaysP fa fn file ini ce cf ts pd w K) (i : Nat) {d : PDef} (h : pd[i]? = some d := by rfl) : ∃ fd, FunD K d.prop d.qual d.params d.body d.scope [] [] (d.adr K) fd := by
  have c2 : (pd.all fun d => okA K (d.adr K) d.qual) = true := congrArg (fun z : AlP => z.2.1) c
  have e : pd.map (fun d => fnA K (d.adr K)) = pd.map PDef.val := congrArg (fun z : AlP => z.2.2) c
  have e2 : (pd.map fun d => fnA K (d.adr K))[i]? = (pd.map PDef.val)[i]? := by rw [e]
  rw [List.getElem?_map, List.getElem?_map, h] at e2
  exact fnA_funD (Option.some.inj e2) (List.all_eq_true.mp c2 d (List.mem_of_getElem? h))
end
/-! ### a run's equation, part by part -/
theorem map3 {α β γ δ : Type} {o : Option α} {f : α → β} {g : α → γ} {h : α → δ} {a : β} {b : γ} {c : δ} (h1 : o.map f = some a) (h2 : o.map g = some b) (h3 : o.map h = some c) : o.map (fun s => (f s, g s, h s)) = some (a, b, c) := by
  cases o with
  | none => cases h1
  | some s =>
    have e1 := Option.some.inj h1
    have e2 := Option.some.inj h2
    have e3 := Option.some.inj h3
    show some (f s, g s, h s) = _
    rw [e1, e2, e3]
end Hq

set_option Elab.async false
set_option linter.all false
set_option maxRecDepth 100000
set_option maxHeartbeats 4000000
/-! more rules: set(list of ints), sorted(tuple), t[::-1] of a tuple, C() without an __init__, choices -/
namespace Kd
open PySem PySem.Spec PyProof.Rows L2 Lk
/-! ### a choice among readings -/
theorem pe_any {X : Cx} {e : Expr} {ι : Type} {t : ι → TE} (h : ∀ i, PE X e (t i)) : PE X e (fun σ H Q => ∃ i, t i σ H Q) := ⟨fun pins s σ H Q I ⟨i, q⟩ => (h i).run pins s σ H Q I q⟩
theorem pi_or {X : Cx} {tg it : Expr} {a b : TI} (h1 : PI X tg it a) (h2 : PI X tg it b) : PI X tg it (fun σ H R => a σ H R ∨ b σ H R) := ⟨fun pins s σ H R I q => q.elim (h1.run pins s σ H R I) (h2.run pins s σ H R I)⟩
theorem cr_or {X : Cx} {f : Value} {a b : List V → Hp → VK → Prop} (h1 : CallR X f a) (h2 : CallR X f b) : CallR X f (fun xs H Q => a xs H Q ∨ b xs H Q) := Lk.CallR.or h1 h2
theorem sl_or {X : Cx} {a b : V → Option Int → Option Int → Hp → VK → Prop} (h1 : SlR X a) (h2 : SlR X b) : SlR X (fun x lo hi H Q => a x lo hi H Q ∨ b x lo hi H Q) := fun pins s σ H x v vl vu lo hi sl Q I rx hs pl pu q =>
  q.elim (h1 pins s σ H x v vl vu lo hi sl Q I rx hs pl pu) (h2 pins s σ H x v vl vu lo hi sl Q I rx hs pl pu)
/-- what is never reached -/
theorem ps_dead {X : Cx} {st : Stmt} : PS X st (fun _ _ _ => False) := ⟨fun _ _ _ _ _ _ h => h.elim⟩
/-! ### C(), the class without an __init__ of its own -/
def tBare (C : Addr) : TE := fun _ H Q => ∀ x dx, H x = none → H dx = none → dx ≠ x → Q (.ref x) (upd (upd H dx (.own x)) x (.ins C dx []))
structure BareC (K : PySem.W.Frag) (C : Addr) : Prop where
  makes : PySem.W.makesIn K C = true
  init : PySem.W.findIn K (.ref C) "__init__" = some (some (.builtin "object.__init__"))
  kp : PySem.W.keepIn K (.ref C) = true
theorem pe_bare {X : Cx} {C : Addr} {x : Str} {p pos : Pos} (M : BareC X.K C) (hg : Gl X x) (hm : X.mg x = some (.ref C)) (hdb : (x == ("__debug__" : Str)) = false := by decide) : PE X (.Call (.Name x p) [] [] pos) (tBare C) := by
  refine ⟨fun pins s σ H Q I h => wpAny_Call_Name_kw (ld_glob I hg hm ?_ hdb)⟩
  refine PySem.W.callWith_K0 I.kIn M.kp (wpAny_call ?_)
  have q := h (s.heap.objs.size + 1) s.heap.objs.size (I.hok.fresh (Nat.le_succ _)) (I.hok.fresh (Nat.le_refl _)) (Nat.ne_of_lt (Nat.lt_succ_self _))
  have J := Inv.made (C := C) I
  have Y := PySem.W.makes_of (M := model X.prog X.w) I.kIn M.makes
  have hob : ((s.heap.push PySem.W.emptyDict).push (PySem.W.instObj C s.heap.objs.size)).get? (s.heap.objs.size + 1) = some (PySem.W.instObj C s.heap.objs.size) := by
    have z := Heap.get?_push_size (s.heap.push PySem.W.emptyDict) (o := PySem.W.instObj C s.heap.objs.size) rfl
    rwa [Heap.size_push] at z
  refine make_map0 I.kIn M.makes M.init (fun self => PySem.W.Looks.of_pure (PySem.W.oi_bind self)) ?_
  have ty : PySem.W.Looks (model X.prog X.w) ((s.heap.push PySem.W.emptyDict).push (PySem.W.instObj C s.heap.objs.size)) (typeOf (.ref (s.heap.objs.size + 1))) (.ref C) := (PySem.W.Looks.ld hob).andThen .now
  have is : PySem.W.Looks (model X.prog X.w) ((s.heap.push PySem.W.emptyDict).push (PySem.W.instObj C s.heap.objs.size)) (isInstance (.ref (s.heap.objs.size + 1)) (.type "object")) true :=
    ty.andThen (Y.top.keeps fun b o e => Heap.get?_push_of_some _ (Heap.get?_push_of_some _ e))
  obtain ⟨hp, g, dr, tk, os⟩ := s
  refine codeAny_call_builtin PySem.W.oi_plain PySem.W.entry_oi (@PySem.W.check_slot (model X.prog X.w) _ _ _ "object.__init__" "object" "__init__"
    (.ref (hp.objs.size + 1)) [] [] _ PySem.W.oi_kind PySem.W.oi_split is (PySem.W.oi_args (.ref (hp.objs.size + 1))) ?_)
  rw [PySem.W.oi_run]
  have z : EP X pins σ Q (.ref (hp.objs.size + 1)) ⟨(hp.push PySem.W.emptyDict).push (PySem.W.instObj C hp.objs.size), g, dr, tk, os⟩ := ⟨.ref (hp.objs.size + 1), _, J, rfl, q⟩
  exact wpAny_pure (And.intro rfl z)
/-! ### sorted(x), x a list or a tuple of ints -/
theorem vals_tup {X : Cx} {pins : List (Addr × Obj)} {σ : L2.St} {H : Hp} {s : Shared} {a : Addr} {ns : List Int} (I : Inv X pins σ H s) (h : SqT X.K H a (ns.map V.int)) : ∃ its, IntsAre its ns ∧ s.heap.IsTuple a its.toArray ∧ ns.length ≤ sizeLine := by
  obtain ⟨its, rv, pt, hz⟩ := I.tuple h
  exact ⟨its, ints_of_vals rv, pt, by rw [List.length_map] at hz; exact hz⟩
section
variable {prog : Program} {w : World} {A : Around} {E : Value → Shared → Prop} {s : Shared} {l : Addr} {vs : List Value} {ns : List Int}
/-- the list that collect lays -/
def lay (h : Heap) (vs : List Value) : Heap := (h.push (seqObj "list" #[] 0)).update h.objs.size (Obj.mapSeq fun a => a ++ vs.toArray)
theorem lay_size (h : Heap) (vs : List Value) : (lay h vs).objs.size = h.objs.size + 1 := by
  unfold lay; rw [Heap.size_update, size_push']
theorem lay_old {h : Heap} {vs : List Value} {b : Addr} {o : Obj} (e : h.get? b = some o) : (lay h vs).get? b = some o := by
  unfold lay
  rw [Heap.get?_update_ne _ _ _ _ (Nat.ne_of_lt (Heap.lt_size e))]
  exact Heap.get?_push_of_some _ e
theorem collect_tup {Q : List Value → Shared → Prop} (hl : s.heap.IsTuple l vs.toArray) (hz : vs.length ≤ sizeLine) (h : Q vs { s with heap := lay s.heap vs }) : wpAny (model prog w) A (collect (.ref l)) Q E s := by
  have ⟨o, ho, hc, n, hd⟩ := hl
  have hn : (s.heap.push (seqObj "list" #[] 0)).get? s.heap.objs.size = some (seqObj "list" #[] 0) := Heap.get?_push_size _ rfl
  have hk : (s.heap.push (seqObj "list" #[] 0)).get? l = some o := Heap.get?_push_of_some _ ho
  unfold collect
  refine wpAny_bind (wpAny_runValue (codeAny_builtin entry_proto_collect'
    (wpAny_bind (m := newList []) (wpAny_newList (wpAny_pure ⟨Code.quiet_builtin _ (by decide +kernel), codeAny_builtin entry_list_iadd' ?_⟩)))))
  show wpAny _ _ (Builtin.List.listExtendWith (.ref s.heap.objs.size) (.ref l) (.ref s.heap.objs.size)) _ _
    { s with heap := s.heap.push (seqObj "list" #[] 0) }
  unfold Builtin.List.listExtendWith
  refine wpAny_bind (wpAny_typeOf (T := "tuple") ⟨o, hk, hc⟩ ?_)
  rw [if_pos (by rw [show (Value.type "tuple" == Value.type "tuple") = true from rfl, Bool.or_true])]
  refine wpAny_bind (listItems_at hk hd (wpAny_bind (listItems_at (xs := #[]) (n := 0) hn rfl ?_)))
  rw [if_neg (by simp)]
  refine wpAny_bind (listUpdate_at (xs := #[]) (n := 0) hn rfl ?_ (Nat.zero_le _) (by rw [Array.size_append]; simp only [List.size_toArray, List.length_nil]; omega))
  refine wpAny_pure ?_
  show wpAny _ _ (load s.heap.objs.size >>= _) Q E { s with heap := lay s.heap vs }
  refine wpAny_bind (wpAny_load (get?_update_seq hn _) ?_)
  show wpAny _ _ (pure (#[] ++ vs.toArray).toList) Q E _
  have e : (#[] ++ vs.toArray).toList = vs := by simp
  rw [e]
  exact wpAny_pure h
theorem sorted_tup {Q : Value → Shared → Prop} (hl : s.heap.IsTuple l vs.toArray) (hI : IntsAre vs ns) (hz : vs.length ≤ sizeLine)
    (h : ∀ out : List Value, SrtO.Srtd SrtO.ltIv out → SrtO.Stb SrtO.ltIv out vs → Q (.ref (s.heap.objs.size + 1)) { s with heap := sortedAll s.heap vs out.toArray }) : wpAny (model prog w) A (call (.builtin "sorted") [.ref l]) Q E s := by
  refine Calls.call_function_entry kind_sorted plain_sorted entry_sorted (args_sorted1 _) ?_
  unfold Builtin.«sorted»
  refine wpAny_bind (m := checkCount "sorted" 1 1 _) (wpAny_pure (wpAny_bind (collect_tup hl hz (wpAny_bind (wpAny_newList ?_ hz)))))
  have hoL : ((lay s.heap vs).push (seqObj "list" vs.toArray 0)).get? (s.heap.objs.size + 1) = some (seqObj "list" vs.toArray 0) := by
    rw [← lay_size s.heap vs]; exact Heap.get?_push_size _ rfl
  show wpAny _ _ _ _ _ { s with heap := (lay s.heap vs).push (seqObj "list" vs.toArray 0) }
  rw [show (lay s.heap vs).objs.size = s.heap.objs.size + 1 from lay_size _ _]
  exact wpAny_bind (wpAny_holding (wpAny_call_entry slot_list_sort ⟨_, hoL, rfl⟩ entry_list_sort
    (SrtO.list_sort_ord SrtO.swo_int hoL hz (fun h2 => SrtO.ints_sortable hI h2) fun out hs hb => ⟨_, rfl, wpAny_pure ⟨_, rfl, h out hs hb⟩⟩) (args_list_sort _)))
end
def rSortedTu (K : PySem.W.Frag) : List V → Hp → VK → Prop := fun vs H Q => ∃ (a : Addr) (ns : List Int), vs = [V.ref a] ∧ SqT K H a (ns.map V.int) ∧
  ∀ (ns' : List Int) (p : Addr), ns'.Perm ns → ns'.Pairwise (· ≤ ·) → H p = none → Q (.ref p) (upd H p (.lst (ns'.map V.int)))
theorem cr_sortedTu {X : Cx} : CallR X (.builtin "sorted") (rSortedTu X.K) := by
  intro pins s σ H vs us Q I r h
  obtain ⟨a, ns, rfl, hs, q⟩ := h
  obtain ⟨its, hi, hl, hz⟩ := vals_tup I hs
  rw [Vals.ref1 r]
  refine sorted_tup hl hi (by rw [hi.length]; exact hz) fun out h1 h2 => ?_
  obtain ⟨k1, k2, k3⟩ := SrtO.ints_out hi h1 h2
  obtain ⟨ep, he⟩ := PyProof.Rows.sortedAll_at s.heap its out.toArray
  exact ⟨.ref _, upd H (s.heap.objs.size + 1) (.lst ((out.map SrtO.iv).map V.int)),
    I.laid (t' := s.toks) (fun _ _ => PyProof.Rows.sortedAll_old) (Nat.le_succ _) ⟨by rw [List.length_map, k2.length_eq]; exact hz, out, ep, vals_of_ints k1, he⟩, rfl, q _ _ k2 k3 (I.hok.fresh (Nat.le_succ _))⟩
/-! ### set(x), x a list or a tuple of ints -/
section
variable {P : Program} {w : World} {A : Around} {E : Value → Shared → Prop} {s : Shared} {l : Addr} {items : Array Value} {ns : List Int}
/-- a new empty set -/
def s0 (w : World) : Obj := { cls := .type "set", dict := none, data := .set #[] 0 (.fresh 0 0 (!w.params.followText "set-order")) }
/-- what set.__init__ leaves -/
def Made (w : World) (s : Shared) (ns : List Int) (s2 : Shared) : Prop :=
  ∃ (h' : Heap) (tk c : Nat), s2 = { s with heap := h', toks := tk } ∧ SetR w h' s.heap.objs.size (fun j => decide (j ∈ ns)) c ∧ c ≤ ns.length ∧ (∀ b o, s.heap.get? b = some o → h'.get? b = some o)
theorem int_items (hit : IntsAre items.toList ns) (i : Nat) (v : Value) (hv : items[i]? = some v) : ∃ k t, ns[i]? = some k ∧ v = .int k t := by
  have hi : i < ns.length := by
    rw [← IntsAre.length hit, Array.length_toList]
    exact (Array.getElem?_eq_some_iff.mp hv).1
  obtain ⟨t, e⟩ := PyProof.Rows.IntsAre.int_at hit i v (by rw [Array.getElem?_toList]; exact hv)
  exact ⟨ns[i], t, List.getElem?_eq_getElem hi, by rw [e, List.getD_eq_getElem?_getD, List.getElem?_eq_getElem hi] <;> rfl⟩
set_option maxHeartbeats 8000000 in
theorem set_list {Q : Value → Shared → Prop} (hh : A.handled = none) (hl : s.heap.IsList l items) (hit : IntsAre items.toList ns) (hb : ns.length + 1 < scanBound) (h : ∀ s2, Made w s ns s2 → Q (.ref s.heap.objs.size) s2) :
    wpAny (model P w) A (call (.type "set") [.ref l]) Q E s := by
  obtain ⟨_, _, hmro⟩ := F.called_set.mro
  obtain ⟨hmade, hsub, h1, h2⟩ := And.intro F.called_set.made (And.intro F.called_set.sub (And.intro F.called_set.notType F.called_set.canCreate))
  have hct := F.typeCall_set_1 (.ref l)
  have hx : (s.heap.push (s0 w)).get? s.heap.objs.size = some (s0 w) := Heap.get?_push_size _ rfl
  have hT : Shared.TypeIs { s with heap := s.heap.push (s0 w) } (.ref s.heap.objs.size) "set" := ⟨_, hx, rfl⟩
  obtain ⟨hli, hbi⟩ := And.intro F.called_set.init.lookup (F.called_set.init.bind (.ref s.heap.objs.size))
  refine wpAny_call (codeAny_of_tree (wpAny_pure ⟨Code.quiet_builtin _ (by decide +kernel), codeAny_builtin F.entry_type_call ?_⟩))
  rw [Around.under_plain (weight_type_call_type "set" [.ref l] []) rfl]
  repeat (any_goals (first | assumption | wp_step))
  refine codeAny_mono (code_set_led1 (.ref l) (E := E) (Q₁ := fun ob s1 => ob = .ref s.heap.objs.size ∧ s1 = { s with heap := s.heap.push (s0 w) }) ⟨rfl, rfl⟩) fun r s1 hr => ?_
  rcases r with e | fl
  · exact hr
  rcases fl with _ | _ | _ | ob
  iterate 3 exact hr.elim
  obtain ⟨rfl, rfl⟩ := hr
  repeat (any_goals (first | assumption | wp_step))
  refine codeAny_mono (codeAny_call_builtin (R := wants (fun r s2 => r = .none ∧ Made w s ns s2) E) F.called_set.init.plain F.entry_set_init (check_set_init_1 hT ?_)) fun r2 s2 hr2 => ?_
  case refine_2 =>
    rcases r2 with e | fl2
    · exact hr2
    rcases fl2 with _ | _ | _ | r
    iterate 3 exact hr2.elim
    obtain ⟨rfl, hM⟩ := hr2
    repeat (any_goals (first | assumption | wp_step))
    exact h _ hM
  obtain ⟨⟨oc, od, dt, sl⟩, hol, hcl, nl, hdl⟩ := id hl
  simp only at hcl hdl
  subst hcl hdl
  have hk := Heap.get?_push_of_some (s0 w) hol
  have hL : (s.heap.push (s0 w)).IsList l items := ⟨_, hk, rfl, nl, rfl⟩
  obtain ⟨hsls, hslf⟩ := And.intro F.sub_list_set F.sub_list_frozenset
  have hne : (Value.type "list" == Value.type "dict") = false := by decide
  unfold Builtin.«set.__init__» noKeywords
  unfold Builtin.Frozenset.updateFrom
  generalize hPI : pyIter = PI
  wp_walk
  subst hPI
  refine wpAny_pyIter_list hL (wpAny_bind (wpAny_runValue ?_))
  have ll : l < s.heap.objs.size := Heap.lt_size hol
  have zz : (s.heap.push (s0 w)).objs.size = s.heap.objs.size + 1 := Heap.size_push ..
  have n1 : l ≠ (s.heap.push (s0 w)).objs.size := by rw [zz]; exact Nat.ne_of_lt (Nat.lt_succ_of_lt ll)
  have n2 : s.heap.objs.size ∉ [(s.heap.push (s0 w)).objs.size, l] := by
    rw [zz]
    simp only [List.mem_cons, List.not_mem_nil, or_false, not_or]
    exact ⟨Nat.ne_of_lt (Nat.lt_succ_self _), Nat.ne_of_gt ll⟩
  have hsz : items.size = ns.length := by rw [← IntsAre.length hit, Array.length_toList]
  refine set_update_ints ((Walks.list (by simp [hh]) _ l n1 items).toS) s.heap.objs.size n2 ns hsz hb (int_items hit) (items.size - 0) 0 _ (by omega) (Nat.zero_le _)
    ⟨⟨_, Heap.get?_push_size _ rfl, rfl, rfl⟩, hL.push _⟩ ⟨0, Nat.le_refl 0, setR_new_at (Heap.get?_push_of_some _ hx)⟩ ?_
  intro s3 c3 hm hc3 hS3
  obtain ⟨h', g, d, tk, os⟩ := s3
  obtain ⟨rfl, rfl, rfl⟩ : g = s.gens ∧ d = s.drawn ∧ os = s.os := ⟨hm.gens, hm.drawn, hm.os⟩
  show wpAny _ _ _ _ _ _
  refine wpAny_pure ?_
  show wpAny _ _ (ret Value.none) _ _ _
  refine wpAny_pure ⟨rfl, h', tk, c3, rfl, hS3, by rw [← hsz]; exact hc3, fun b o e => ?_⟩
  have lb : b < s.heap.objs.size := Heap.lt_size e
  refine hm.heap b o ?_ (Heap.get?_push_of_some _ (Heap.get?_push_of_some _ e))
  rw [zz]
  simp only [List.mem_cons, List.not_mem_nil, or_false, not_or]
  exact ⟨Nat.ne_of_lt lb, Nat.ne_of_lt (Nat.lt_succ_of_lt lb)⟩
end
def rSetOf (K : PySem.W.Frag) (w : World) : List V → Hp → VK → Prop := fun xs H Q => ∃ (p : Addr) (ns : List Int), xs = [.ref p] ∧ (SqL K H p (ns.map V.int) ∨ SqT K H p (ns.map V.int)) ∧ ns.length ≤ 1000 ∧
  ∀ a c, H a = none → c ≤ ns.length → Q (.ref a) (upd H a (SetO w a (fun j => decide (j ∈ ns)) c))
theorem cr_setOf {X : Cx} (hc : X.calm = true) : CallR X (.type "set") (rSetOf X.K X.w) := by
  intro pins s σ H xs us Q I r h
  obtain ⟨p, ns, rfl, hq, hz, q⟩ := h
  rw [Vals.ref1 r]
  have hb : ns.length + 1 < scanBound := by unfold scanBound; omega
  have fin : ∀ s2, Made X.w s ns s2 → EP X pins σ Q (.ref s.heap.objs.size) s2 := fun s2 ⟨h', tk, c, e, R, hcn, k⟩ => by
    subst e
    exact ⟨.ref _, upd H s.heap.objs.size (SetO X.w s.heap.objs.size (fun j => decide (j ∈ ns)) c), I.laid (t' := tk) k (Nat.le_refl _) (setO_new R), rfl, q _ c (I.hok.fresh (Nat.le_refl _)) hcn⟩
  rcases hq with hq | hq
  · obtain ⟨its, rv, hl, _⟩ := I.list hq
    exact set_list (I.ok.hd hc) hl.isList rv.ints hb fin
  · obtain ⟨its, hi, hl, _⟩ := vals_tup I hq
    exact call_set_tupI ns (I.ok.hd hc) hl hi hb fun h' tk c R hcn k => fin _ ⟨h', tk, c, rfl, R, hcn, k⟩
end Kd

set_option Elab.async false
set_option linter.all false
set_option maxRecDepth 100000
set_option maxHeartbeats 4000000
/-! t[::-1] of a tuple; defs with a star parameter, called plainly -/
namespace Kd
open PySem PySem.Spec PyProof.Rows L2 Lk StX
section
variable {prog : Program} {w : World} {A : Around} {E : Value → Shared → Prop} {s : Shared}
theorem fm_range {α : Type} : ∀ (l : List α) (f : Nat → Option α), (∀ k, k < l.length → f k = l[k]?) → (List.range l.length).filterMap f = l
  | [], _, _ => rfl
  | a :: r, f, h => by
    have h0 : f 0 = some a := h 0 (by simp)
    rw [List.length_cons, List.range_succ_eq_map, List.filterMap_cons, h0]
    show a :: List.filterMap f (List.map Nat.succ (List.range r.length)) = a :: r
    rw [List.filterMap_map]
    exact congrArg _ (fm_range r (f ∘ Nat.succ) fun k hk => h (k + 1) (by simp; exact hk))
theorem rev_pick (xs : Array Value) : ((List.range xs.size).filterMap fun (k : Nat) => xs[(((xs.size : Int) - 1) + (k : Int) * (-1)).toNat]?).toArray = xs.toList.reverse.toArray := by
  have e := fm_range xs.toList.reverse (fun (k : Nat) => xs[(((xs.size : Int) - 1) + (k : Int) * (-1)).toNat]?) fun k hk => by
    have hk' : k < xs.size := by simpa using hk
    have z : (((xs.size : Int) - 1) + (k : Int) * (-1)).toNat = xs.size - 1 - k := by omega
    show xs[(((xs.size : Int) - 1) + (k : Int) * (-1)).toNat]? = _
    rw [z, List.getElem?_reverse (by rw [Array.length_toList]; exact hk'), Array.length_toList, Array.getElem?_toList]
  rw [List.length_reverse, Array.length_toList] at e
  rw [e]
theorem applied_rev {sl : Addr} {vl vu vs : Value} {n : Nat} {Q : Int × Int × Nat → Shared → Prop} (hs : s.heap.IsSliceOf sl vl vu vs) (pl : IsPart vl none) (pu : IsPart vu none) (ps : IsPart vs (some (-1)))
    (h : Q ((n : Int) - 1, -1, n) s) : wpAny (model prog w) A (Builtin.Slice.sliceApplied (.ref sl) (pure (n : Int))) Q E s := by
  obtain ⟨os, hos, hcs, hds⟩ := id hs
  unfold Builtin.Slice.sliceApplied
  unfold Builtin.Slice.sliceFields
  refine wpAny_bind (wpAny_bind (wpAny_field hos hds (x := vl) rfl (wpAny_bind (wpAny_field hos hds (x := vu) rfl (wpAny_bind (wpAny_field hos hds (x := vs) rfl (wpAny_pure ?_)))))))
  refine wpAny_bind (HT.slicePart_ ps ?_)
  show wpAny _ _ (if ((-1 : Int) == 0) = true then _ else _) _ _ s
  rw [if_neg (by decide)]
  refine wpAny_bind (HT.slicePart_ pl (wpAny_bind (HT.slicePart_ pu (wpAny_bind (wpAny_pure ?_)))))
  have e1 : Builtin.Slice.sliceAdjust none none (-1) (n : Int) = ((n : Int) - 1, -1) := by
    unfold Builtin.Slice.sliceAdjust
    rfl
  have e2 : Builtin.Slice.slicePlaces ((n : Int) - 1) (-1) (-1) = n := by
    unfold Builtin.Slice.slicePlaces
    rw [if_neg (by decide)]
    have z : ((n : Int) - 1 - -1 - 1) / - -1 = (n : Int) - 1 := by rw [show (- -1 : Int) = 1 from rfl, Int.ediv_one]; omega
    rw [z]
    split <;> omega
  show wpAny _ _ (match Builtin.Slice.sliceAdjust none none (-1) (n : Int) with | (lo, hi) => pure (lo, (-1 : Int), Builtin.Slice.slicePlaces lo hi (-1))) _ _ s
  rw [e1]
  show wpAny _ _ (pure ((n : Int) - 1, (-1 : Int), Builtin.Slice.slicePlaces ((n : Int) - 1) (-1) (-1))) _ _ s
  rw [e2]
  exact wpAny_pure h
theorem item_rev {t sl : Addr} {items : Array Value} {vl vu vs : Value} {Q : Value → Shared → Prop} (ht : IsTup s.heap t items) (hs : s.heap.IsSliceOf sl vl vu vs) (pl : IsPart vl none) (pu : IsPart vu none) (ps : IsPart vs (some (-1)))
    (h : Q (.ref s.heap.objs.size) { s with heap := s.heap.push { cls := .type "tuple", data := .seq items.toList.reverse.toArray } }) (hz : items.size ≤ sizeLine) : wpAny (model prog w) A (getItem (.ref t) (.ref sl)) Q E s := by
  have hok : sizeOk (.seq items.toList.reverse.toArray) := by
    show items.toList.reverse.toArray.size ≤ sizeLine
    rw [List.size_toArray, List.length_reverse, Array.length_toList]; exact hz
  have hTs : s.TypeIs (.ref sl) "slice" := hs.elim fun o q => ⟨o, q.1, q.2.1⟩
  unfold getItem
  try with_reducible refine wpAny_holding ?_
  first | refine wpAny_bind (wpAny_pure ?_) | skip
  refine wpAny_bind (wpAny_sequenceKey ht.typeIs (by decide) (wpAny_bind (wpAny_callSpecial?_slot (name := Str.ofString "__getitem__") ht.typeIs PyProof.Rows.slot_tuple_getitem
    (wpAny_call_entry PyProof.Rows.slot_tuple_getitem ht.typeIs entry_tuple_getitem ?_ (args_tuple_getitem _ _)))))
  show wpAny _ _ (Builtin.Tuple.tupleItemsOf (.ref t) >>= _) _ _ s
  refine wpAny_bind (tupleItemsOf_ ht (wpAny_bind (wpAny_typeOf hTs ?_)))
  rw [if_pos (by decide)]
  refine wpAny_bind (applied_rev hs pl pu ps ?_)
  have hno : ¬ (((items.size : Int) - 1 == 0 && (-1 : Int) == 1 && items.size == items.size) = true) := by simp
  show wpAny _ _ (if ((items.size : Int) - 1 == 0 && (-1 : Int) == 1 && items.size == items.size) = true then _ else _) _ _ s
  rw [if_neg hno, rev_pick]
  first
    | exact wpAny_bind (m := Builtin.Tuple.tupleExact _) (wpAny_newObj_type (wpAny_pure ⟨_, rfl, wpAny_pure h⟩) hok)
    | exact wpAny_bind (m := Builtin.Tuple.tupleExact _) (wpAny_newObj_type (wpAny_bind (wpAny_pure (wpAny_pure ⟨_, rfl, wpAny_pure h⟩))) hok)
    | exact wpAny_bind (wpAny_bind (m := Builtin.Tuple.tupleExact _) (wpAny_newObj_type (wpAny_pure (wpAny_pure ⟨_, rfl, wpAny_pure h⟩)) hok))
    | exact wpAny_bind (wpAny_bind (m := Builtin.Tuple.tupleExact _) (wpAny_newObj_type (wpAny_pure ⟨_, rfl, wpAny_pure h⟩) hok))
end
/-- x[::-1] of a list or a tuple -/
def tRev (K : PySem.W.Frag) (te : TE) : TE := fun σ H Q => te σ H fun x H1 => ∃ a xs, x = .ref a ∧ SqT K H1 a xs ∧ ∀ p, H1 p = none → Q (.ref p) (upd H1 p (.tup xs.reverse))
theorem pe_revT {X : Cx} {te : TE} {e : Expr} {k : Nat} {p1 p2 p3 pos : Pos} (he : PE X e te) : PE X (.Subscript e (.Slice none none (some (.UnaryOp .USub (.Constant (.int 1) k p1) p2)) p3) pos) (tRev X.K te) := by
  refine ⟨fun pins s σ H Q I h => Subscript_ (thn (he.run pins s σ H _ I h) fun v s1 ⟨x, H1, I1, r1, a, xs, ex, hx, q⟩ => ?_)⟩
  subst ex
  cases r1
  have hst : PO X (some (.UnaryOp .USub (.Constant (.int 1) k p1) p2)) _ := po_some (pe_un un_neg pe_int)
  refine wpAny_Slice (thn (po_none.run pins s1 σ H1 (fun o H2 => o = none ∧ H2 = H1) I1 ⟨rfl, rfl⟩) fun vl s2 ⟨lo, H2, I2, pl, e1, e2⟩ => ?_)
  subst e1 e2
  refine thn (po_none.run pins s2 σ H2 (fun o H3 => o = none ∧ H3 = H2) I2 ⟨rfl, rfl⟩) fun vu s3 ⟨up, H3, I3, pu, e1, e3⟩ => ?_
  subst e1 e3
  refine thn (hst.run pins s3 σ H3 (fun o H4 => o = some (-1) ∧ H4 = H3) I3 ⟨1, rfl, -1, rfl, rfl, rfl⟩) fun vs s4 ⟨st, H4, I4, ps, e1, e4⟩ => ?_
  subst e1 e4
  have I5 : Inv X pins σ H4 { s4 with heap := s4.heap.push { cls := .type "slice", data := .fields #[vl, vu, vs] } } := I4.kept (t' := s4.toks) fun b ob q => Heap.get?_push_of_some _ q
  obtain ⟨its, r, ht, hz⟩ := I5.tuple hx
  show wpAny (model X.prog X.w) X.A (subscriptTail e (.Slice none none (some (.UnaryOp .USub (.Constant (.int 1) k p1) p2)) p3) (.ref a) (.ref s4.heap.objs.size)) _ _ _
  refine tail_any (ops := [.ref a, .ref s4.heap.objs.size]) ht.typeIs PyProof.Rows.slot_tuple_getitem.lookup ?_ (by with_unfolding_all rfl)
  refine item_rev ht (Heap.IsSliceOf.new _ vl vu vs) pl pu ps ?_ (by rw [List.size_toArray, ← r.length]; exact hz)
  refine ⟨.ref _, _, I5.laid (t' := s4.toks) (o := .tup xs.reverse) (fun b ob q => Heap.get?_push_of_some _ q) (Nat.le_refl _) ?_, rfl, q _ (I5.hok.fresh (Nat.le_refl _))⟩
  exact ⟨by rw [List.length_reverse]; exact hz, its.reverse, r.reverse, IsTup.new _ _⟩
/-! ### defs with a star parameter -/
theorem pe_callR {X : Cx} {CX : CXT} {k : Nat} {f : Addr} {sp : Sp} {E : XK} {x : Str} {e : Expr} {es : List Expr} {t : TA} {p pos : Pos} (F : FnR X.prog X.w X.K X.mg X.base CX k f sp) (hr : Room k X.A) (hg : Gl X x) (hm : X.mg x = some (.ref f)) (hk : PySem.W.keepIn X.K (.ref f) = true) (hx : Passes CX X E) (ha : PA X (e :: es) t)
    (hd : (x == ("__debug__" : Str)) = false := by decide) (he : starEach (e :: es) X.env = (false, eval e X.env) :: starEach es X.env := by rfl) (hpl : (backTo pos (starEach es X.env)).any (·.1) = false := by rfl) :
    PE X (.Call (.Name x p) (e :: es) [] pos) (fun σ H Q => t σ H fun vs H1 => sp vs H1 Q E) := by
  refine ⟨fun pins s σ H Q I h => wpAny_Call_Name_kw (ld_glob I hg hm ?_ hd)⟩
  exact PySem.W.callWith_K (h₀ := X.base) I.ok.mod.kin hk (thn (ha.run pos pins s σ H _ I h) fun us s1 ⟨vs, H1, I1, r, q⟩ => ⟨I1.kIn, wpAny_call (run_fnR F hr hx I1 r q)⟩) he hpl
section
variable {P : Program} {w : World} {K : PySem.W.Frag} {mg : Str → Option Value} {base : Heap} {x : Str} {st : Stmt} {f : Addr} {fd : FuncData} {N ps : List Str} {pv : Str} {k : Nat} {sp : Sp}
/-- the promise of def f(a, .., *v): what is left over comes as a new tuple -/
def spStar (n : Nat) (sp : Sp) : Sp := fun vs H Q E => ∃ ws rest, vs = ws ++ rest ∧ ws.length = n ∧ rest.length ≤ sizeLine ∧ ∀ p, H p = none → sp (ws ++ [V.ref p]) (upd H p (.tup rest)) Q E
theorem okS (F : Hk.Fn K x st [] f fd) (S : FnScope N (ps ++ [pv]) (defScope st))
    (hb : ∀ (kV doc pm : Value) (an : Option Addr) (cdv ct : Value) (us rest : List Value), us.length = ps.length → bindArgs (PySem.W.fnOf x x (defArgs st) (defBody st) (defScope st) .none kV doc pm an cdv ct) ⟨us ++ rest, []⟩ = (newTuple rest >>= fun t => pure (ps.zip us ++ [(pv, t)])))
    (hbody : ∀ (cdv : Value) (A : Around) (outer : List Env) (s : Shared) (H : Hp) (vs : List V) (Q : VK) (E : XK), Room k (A.deeper (envOfC x (defScope st) s.heap.objs.size f cdv)) → sp vs H Q E →
      ∃ t, PSs (cxOf CX0 P w K mg base N x (defScope st) f cdv A outer s H E).nox (defBody st) t ∧ t { nx := fun _ H' => Q .non H', rt := Q } (start N vs) H) : FnR P w K mg base CX0 (k + 1) f (spStar ps.length sp) := by
  obtain ⟨oc, od, dV, kV, doc, pm, an, cdv, ct, osl, rfl, lk, hcd, hD, _⟩ := F.ex
  have e : dV = .none := by
    rcases hD with ⟨_, e⟩ | ⟨n, _⟩
    · exact e
    · exact absurd rfl n
  subst e
  refine fn_star lk hcd S cxUp_none (fun us rest hl => hb kV doc pm an cdv ct us rest hl) fun A outer s H vs Q E hr hsp => ?_
  obtain ⟨t, h, q⟩ := hbody cdv A outer s H vs Q E hr hsp
  exact ⟨t, h.nox, q⟩
end
/-! ### xs.extend(t), t a tuple -/
def rExtTu (K : PySem.W.Frag) : V → List V → Hp → VK → Prop := fun x vs H Q => ∃ l b xs zs, x = .ref l ∧ vs = [.ref b] ∧ H l = some (.lst xs) ∧ SqT K H b zs ∧ xs.length + zs.length ≤ sizeLine ∧ Q .non (upd H l (.lst (xs ++ zs)))
theorem mt_extTu {X : Cx} : MtM X "list.extend" (rExtTu X.K) := by
  intro pins s σ H x vs v us Q I rx rv h
  obtain ⟨l, b, xs, zs, rfl, rfl, hH, hB, hz, q⟩ := h
  cases rx
  obtain ⟨u, rfl, ru⟩ := rv.one
  cases ru
  obtain ⟨z, its, n, r, hl, e⟩ := I.lstM hH
  obtain ⟨its2, r2, ⟨o2, ho2, hc2, n2, hd2⟩, hz2⟩ := I.tuple hB
  have hsz : its.toArray.size + its2.toArray.size ≤ sizeLine := by rw [List.size_toArray, List.size_toArray, ← r.length, ← r2.length]; exact hz
  refine wpAny_call_entry PySem.F.slot_list_extend ⟨_, e, rfl⟩ PySem.F.entry_list_extend ?_ (PySem.F.args_list_extend_2 _ _)
  show wpAny _ _ (Builtin.List.listExtendWith (.ref l) (.ref b) .none) _ _ s
  unfold Builtin.List.listExtendWith
  refine wpAny_bind (wpAny_typeOf (T := "tuple") ⟨o2, ho2, hc2⟩ ?_)
  rw [if_pos (by rw [show (Value.type "tuple" == Value.type "tuple") = true from rfl, Bool.or_true])]
  refine wpAny_bind (listItems_at ho2 hd2 (wpAny_bind (listItems_at e rfl ?_)))
  rw [if_neg (by rw [notLongL hsz, Bool.and_false]; exact Bool.false_ne_true)]
  have hz1 : its.toArray.size ≤ sizeLine := by omega
  refine wpAny_bind (listUpdate_at e rfl ?_ hz1 (by rw [Array.size_append]; omega))
  refine wpAny_pure ⟨_, rfl, ?_⟩
  refine ⟨.non, _, I.lset (its' := its ++ its2) (t' := s.toks) hH e (by simp) (r.append r2) ?_, rfl, q⟩
  rw [List.length_append]
  exact hz
theorem bareB_ok {K : PySem.W.Frag} {C : Addr} (h : Hk.bareB K C = true) : BareC K C := by
  obtain ⟨h1, h2⟩ := He.ba h
  obtain ⟨h3, h4⟩ := He.ba h2
  exact ⟨h1, He.eqO_ok h3, h4⟩
/-! ### sorted(set of ints), up to 1000 of them -/
section
variable {P : Program} {w : World} {A : Around} {E : Value → Shared → Prop} {s : Shared} {a : Addr}
theorem sorted_many {S : Int → Bool} {n : Nat} {Q : Value → Shared → Prop} (R : SetR w s.heap a S n) (hh : A.handled = none) (h1000 : n ≤ 1000)
    (hQ : ∀ (s2 : Shared) (p : Addr) (out : List Value) (c : Nat) (ns : List Int), (∀ b u, s.heap.get? b = some u → s2.heap.get? b = some u) → s2.gens = s.gens → s2.os = s.os → s.heap.objs.size ≤ p →
      s2.heap.get? p = some (seqObj "list" out.toArray c) → IntsAre out ns → ns.Pairwise (· < ·) → (∀ k, k ∈ ns ↔ S k = true) → ns.length = n → Q (.ref p) s2) : wpAny (model P w) A (call (.builtin "sorted") [.ref a]) Q E s := by
  obtain ⟨o, es, ep, t, ho, hex, hd, g, nd, hm, hb, hf, hn, hr, hl⟩ := R
  refine Calls.call_function_entry kind_sorted plain_sorted entry_sorted (args_sorted1 _) ?_
  unfold Builtin.«sorted»
  refine wpAny_bind (m := checkCount "sorted" 1 1 _) (wpAny_pure (wpAny_bind (collect_set (A := A.in1) hh ⟨o, ho, hex.1, hd⟩ hf hb hr hl fun s1 vs k1 hz g1 o1 pm => ?_)))
  have hvl : vs.length = n := (pm.length_eq.trans (by rw [List.length_map, Array.length_toList])).trans hn
  have hI : IntsAre vs (vs.map Builtin.Re.reRawOf) := ints_of vs fun v hv => (List.mem_map.mp (pm.mem_iff.mp hv)).elim fun e he => (g e he.1).elim fun k hk => hk.elim fun tk hk => ⟨k, tk, by rw [← he.2]; exact hk.1⟩
  have pk : (vs.map Builtin.Re.reRawOf).Perm (es.toList.map keyOf) := by
    have q := pm.map Builtin.Re.reRawOf
    rwa [List.map_map] at q
  have hsz : vs.length ≤ sizeLine := by rw [hvl, sizeLine_eq]; omega
  refine wpAny_bind (wpAny_newList ?_ hsz)
  have hoL : (s1.heap.push (seqObj "list" vs.toArray 0)).get? s1.heap.objs.size = some (seqObj "list" vs.toArray 0) := Heap.get?_push_size _ rfl
  refine wpAny_bind (wpAny_holding (wpAny_call_entry slot_list_sort ⟨_, hoL, rfl⟩ entry_list_sort
    (SrtO.list_sort_ord SrtO.swo_int hoL hsz (fun h2 => SrtO.ints_sortable hI h2) fun out h1 h2 => ⟨_, rfl, ?_⟩) (args_list_sort _)))
  obtain ⟨a1, a2, a3⟩ := SrtO.ints_out hI h1 h2
  obtain ⟨c, hc⟩ := sortedHeap_at (vs := vs) (out := out.toArray) hoL
  have pn := a2.trans pk
  refine wpAny_pure ⟨_, rfl, hQ _ s1.heap.objs.size out c (out.map SrtO.iv) (fun b u e => ?_) g1 o1 hz hc a1 (lt_of_le_nodup _ a3 (pn.nodup_iff.mpr nd)) (fun k => by rw [pn.mem_iff, ← hm k]) ?_⟩
  · have lt := Heap.lt_size (k1 b u e)
    show (sortedHeap (s1.heap.push (seqObj "list" vs.toArray 0)) s1.heap.objs.size vs out.toArray).get? b = some u
    rw [sortedHeap_old (Nat.ne_of_lt lt) (by rw [size_push']; exact Nat.lt_succ_of_lt lt)]
    exact Heap.get?_push_of_some _ (k1 b u e)
  · exact (pn.length_eq.trans (by rw [List.length_map, Array.length_toList])).trans hn
end
def rSortedS (w : World) : List V → Hp → VK → Prop := fun vs H Q => ∃ (a : Addr) (S : Int → Bool) (n : Nat), vs = [V.ref a] ∧ H a = some (SetO w a S n) ∧ n ≤ 1000 ∧
  ∀ (ns : List Int) (p : Addr), ns.Pairwise (· < ·) → (∀ k : Int, k ∈ ns ↔ S k = true) → H p = none → Q (.ref p) (upd H p (.lst (ns.map V.int)))
theorem cr_sortedS {X : Cx} (hc : X.calm = true) : CallR X (.builtin "sorted") (rSortedS X.w) := by
  intro pins s σ H vs us Q I r h
  obtain ⟨a, S, n, rfl, ha, hz, q⟩ := h
  rw [Vals.ref1 r]
  refine sorted_many (setO_get I ha) (I.ok.hd hc) hz fun s2 p out c ns k g o hp hg hi hs hm hl => ?_
  have hlen : (ns.map V.int).length ≤ sizeLine := by rw [List.length_map, hl, sizeLine_eq]; omega
  have hn : H p = none := I.hok.fresh hp
  obtain ⟨h2, g2, d2, t2, o2⟩ := s2
  obtain rfl : g2 = s.gens := g
  obtain rfl : o2 = s.os := o
  exact ⟨.ref p, upd H p (.lst (ns.map V.int)), I.call (ch := []) (Un.laid k hp hn) (I.hok.laid k hp ⟨hlen, out, c, vals_of_ints hi, hg⟩) I.bare (fun _ z => nomatch z), rfl, q ns p hs hm hn⟩
theorem pe_or {X : Cx} {e : Expr} {a b : TE} (h1 : PE X e a) (h2 : PE X e b) : PE X e (fun σ H Q => a σ H Q ∨ b σ H Q) := ⟨fun pins s σ H Q I q => q.elim (h1.run pins s σ H Q I) (h2.run pins s σ H Q I)⟩
theorem pe_revA {X : Cx} {te : TE} {e : Expr} {k : Nat} {p1 p2 p3 pos : Pos} (he : PE X e te) : PE X (.Subscript e (.Slice none none (some (.UnaryOp .USub (.Constant (.int 1) k p1) p2)) p3) pos) (fun σ H Q => tRevL X.K te σ H Q ∨ tRev X.K te σ H Q) := pe_or (pe_revL he) (pe_revT he)
end Kd

set_option Elab.async false
set_option linter.all false
/-! eight ways to make a word plain, as plain functions -/
namespace Km
inductive Kd8 where
  | list | bag | set | first | last | ends | heads | tails
/-! ### keeping the first of each letter -/
def fo (acc : List Int) : List Int → List Int
  | [] => acc
  | x :: r => fo (if x ∈ acc then acc else acc ++ [x]) r
theorem fo_app : ∀ (a : List Int) (acc b : List Int), fo acc (a ++ b) = fo (fo acc a) b
  | [], _, _ => rfl
  | x :: r, acc, b => fo_app r _ b
theorem fo_one (acc : List Int) (x : Int) : fo acc [x] = if x ∈ acc then acc else acc ++ [x] := rfl
theorem mem_fo : ∀ (l acc : List Int) (y : Int), y ∈ fo acc l ↔ y ∈ acc ∨ y ∈ l
  | [], acc, y => by show y ∈ acc ↔ _; simp
  | x :: r, acc, y => by
    show y ∈ fo (if x ∈ acc then acc else acc ++ [x]) r ↔ _
    rw [mem_fo r]
    split
    · rename_i h
      simp only [List.mem_cons]
      constructor
      · rintro (h1 | h1)
        · exact .inl h1
        · exact .inr (.inr h1)
      · rintro (h1 | rfl | h1)
        · exact .inl h1
        · exact .inl h
        · exact .inr h1
    · simp only [List.mem_append, List.mem_cons, List.not_mem_nil, or_false]
      constructor
      · rintro ((h1 | rfl) | h1)
        · exact .inl h1
        · exact .inr (.inl rfl)
        · exact .inr (.inr h1)
      · rintro (h1 | rfl | h1)
        · exact .inl (.inl h1)
        · exact .inl (.inr rfl)
        · exact .inr h1
theorem fo_fo : ∀ (b c d : List Int), fo c (fo d b) = fo (fo c d) b
  | [], _, _ => rfl
  | x :: r, c, d => by
    show fo c (fo (if x ∈ d then d else d ++ [x]) r) = fo (if x ∈ fo c d then fo c d else fo c d ++ [x]) r
    rw [fo_fo r]
    congr 1
    by_cases h : x ∈ d
    · rw [if_pos h, if_pos ((mem_fo _ _ _).mpr (.inr h))]
    · rw [if_neg h, fo_app, fo_one]
theorem fo_idem (a : List Int) : fo [] (fo [] a) = fo [] a := fo_fo a [] []
theorem fo_left (a b : List Int) : fo [] (fo [] a ++ b) = fo [] (a ++ b) := by rw [fo_app, fo_idem, fo_app]
theorem fo_right (a b : List Int) : fo [] (a ++ fo [] b) = fo [] (a ++ b) := by rw [fo_app, fo_fo b (fo [] a) [], fo_app]; rfl
theorem fo_take {l : List Int} {i : Nat} {x : Int} (h : l[i]? = some x) : fo [] (l.take (i + 1)) = if x ∈ fo [] (l.take i) then fo [] (l.take i) else fo [] (l.take i) ++ [x] := by
  rw [List.take_succ, h]
  show fo [] (l.take i ++ [x]) = _
  rw [fo_app, fo_one]
theorem fo_len : ∀ (l acc : List Int), (fo acc l).length ≤ acc.length + l.length
  | [], acc => by show acc.length ≤ _; simp
  | x :: r, acc => by
    show (fo (if x ∈ acc then acc else acc ++ [x]) r).length ≤ _
    refine Nat.le_trans (fo_len r _) ?_
    split
    · simp only [List.length_cons]; omega
    · simp only [List.length_append, List.length_cons, List.length_nil]; omega
/-! ### keeping the last of each -/
def lasts : List Int → List Int
  | [] => []
  | x :: r => if x ∈ r then lasts r else x :: lasts r
theorem lasts_eq : ∀ l : List Int, lasts l = (fo [] l.reverse).reverse
  | [] => rfl
  | x :: r => by
    have ih := lasts_eq r
    rw [List.reverse_cons, fo_app, fo_one]
    show (if x ∈ r then lasts r else x :: lasts r) = _
    by_cases h : x ∈ r
    · rw [if_pos h, if_pos ((mem_fo _ _ _).mpr (.inr (List.mem_reverse.mpr h))), ih]
    · have h2 : ¬ x ∈ fo [] r.reverse := fun z => by
        rcases (mem_fo _ _ _).mp z with z | z
        · cases z
        · exact h (List.mem_reverse.mp z)
      rw [if_neg h, if_neg h2, List.reverse_append, ih]
      rfl
theorem lasts_drop {l : List Int} {i : Nat} {x : Int} (h : l[i]? = some x) : lasts (l.drop i) = if x ∈ l.drop (i + 1) then lasts (l.drop (i + 1)) else x :: lasts (l.drop (i + 1)) := by
  have hi : i < l.length := by
    rcases Nat.lt_or_ge i l.length with z | z
    · exact z
    · rw [List.getElem?_eq_none z] at h; cases h
  have e : l.drop i = x :: l.drop (i + 1) := by
    rw [List.drop_eq_getElem_cons hi]
    rw [List.getElem?_eq_getElem hi] at h
    rw [Option.some.inj h]
  rw [e] <;> rfl
/-! ### sorted -/
def ins (x : Int) : List Int → List Int
  | [] => [x]
  | y :: r => if x ≤ y then x :: y :: r else y :: ins x r
def srt : List Int → List Int
  | [] => []
  | x :: r => ins x (srt r)
theorem ins_perm (x : Int) : ∀ l : List Int, (ins x l).Perm (x :: l)
  | [] => .refl _
  | y :: r => by
    show (if x ≤ y then x :: y :: r else y :: ins x r).Perm _
    split
    · exact .refl _
    · exact ((ins_perm x r).cons y).trans (.swap x y r)
theorem ins_sorted (x : Int) : ∀ l : List Int, l.Pairwise (· ≤ ·) → (ins x l).Pairwise (· ≤ ·)
  | [], _ => List.pairwise_singleton _ _
  | y :: r, h => by
    show (if x ≤ y then x :: y :: r else y :: ins x r).Pairwise _
    rw [List.pairwise_cons] at h
    split
    · rename_i q
      refine List.pairwise_cons.mpr ⟨fun z hz => ?_, List.pairwise_cons.mpr h⟩
      rcases List.mem_cons.mp hz with rfl | hz
      · exact q
      · exact Int.le_trans q (h.1 z hz)
    · rename_i q
      refine List.pairwise_cons.mpr ⟨fun z hz => ?_, ins_sorted x r h.2⟩
      rcases List.mem_cons.mp ((ins_perm x r).mem_iff.mp hz) with rfl | hz
      · omega
      · exact h.1 z hz
theorem srt_perm : ∀ l : List Int, (srt l).Perm l
  | [] => .refl _
  | x :: r => (ins_perm x (srt r)).trans ((srt_perm r).cons x)
theorem srt_sorted : ∀ l : List Int, (srt l).Pairwise (· ≤ ·)
  | [] => .nil
  | x :: r => ins_sorted x _ (srt_sorted r)
theorem sorted_uniq : ∀ {a b : List Int}, a.Perm b → a.Pairwise (· ≤ ·) → b.Pairwise (· ≤ ·) → a = b
  | [], b, p, _, _ => (List.Perm.nil_eq p)
  | x :: r, [], p, _, _ => by have := p.length_eq; simp at this
  | x :: r, y :: t, p, h1, h2 => by
    rw [List.pairwise_cons] at h1 h2
    have e : x = y := by
      have m1 : x ∈ y :: t := p.mem_iff.mp List.mem_cons_self
      have m2 : y ∈ x :: r := p.mem_iff.mpr List.mem_cons_self
      rcases List.mem_cons.mp m1 with e | m1
      · exact e
      · rcases List.mem_cons.mp m2 with e | m2
        · exact e.symm
        · have := h1.1 y m2
          have := h2.1 x m1
          omega
    subst e
    rw [sorted_uniq (List.Perm.cons_inv p) h1.2 h2.2]
theorem srt_of {a l : List Int} (p : a.Perm l) (h : a.Pairwise (· ≤ ·)) : a = srt l := sorted_uniq (p.trans (srt_perm l).symm) h (srt_sorted l)
/-! ### sorted, each once -/
def ins1 (x : Int) : List Int → List Int
  | [] => [x]
  | y :: r => if x < y then x :: y :: r else if x = y then y :: r else y :: ins1 x r
def sst : List Int → List Int
  | [] => []
  | x :: r => ins1 x (sst r)
theorem mem_ins1 (x k : Int) : ∀ l : List Int, k ∈ ins1 x l ↔ k = x ∨ k ∈ l
  | [] => by show k ∈ [x] ↔ _; simp
  | y :: r => by
    show k ∈ (if x < y then x :: y :: r else if x = y then y :: r else y :: ins1 x r) ↔ _
    split
    · simp
    · split
      · rename_i e
        subst e
        simp
      · rw [List.mem_cons, mem_ins1 x k r, List.mem_cons]
        constructor
        · rintro (h | h | h)
          · exact .inr (.inl h)
          · exact .inl h
          · exact .inr (.inr h)
        · rintro (h | h | h)
          · exact .inr (.inl h)
          · exact .inl h
          · exact .inr (.inr h)
theorem ins1_asc (x : Int) : ∀ l : List Int, l.Pairwise (· < ·) → (ins1 x l).Pairwise (· < ·)
  | [], _ => List.pairwise_singleton _ _
  | y :: r, h => by
    show (if x < y then x :: y :: r else if x = y then y :: r else y :: ins1 x r).Pairwise _
    have h0 := h
    rw [List.pairwise_cons] at h
    split
    · rename_i q
      refine List.pairwise_cons.mpr ⟨fun z hz => ?_, h0⟩
      rcases List.mem_cons.mp hz with rfl | hz
      · exact q
      · exact Int.lt_trans q (h.1 z hz)
    · split
      · exact h0
      · rename_i q1 q2
        refine List.pairwise_cons.mpr ⟨fun z hz => ?_, ins1_asc x r h.2⟩
        rcases (mem_ins1 x z r).mp hz with rfl | hz
        · omega
        · exact h.1 z hz
theorem mem_sst (k : Int) : ∀ l : List Int, k ∈ sst l ↔ k ∈ l
  | [] => by show k ∈ [] ↔ _; simp
  | x :: r => by
    show k ∈ ins1 x (sst r) ↔ _
    rw [mem_ins1, mem_sst k r, List.mem_cons]
theorem sst_asc : ∀ l : List Int, (sst l).Pairwise (· < ·)
  | [] => .nil
  | x :: r => ins1_asc x _ (sst_asc r)
theorem asc_uniq : ∀ {a b : List Int}, (∀ k, k ∈ a ↔ k ∈ b) → a.Pairwise (· < ·) → b.Pairwise (· < ·) → a = b
  | [], [], _, _, _ => rfl
  | [], y :: t, m, _, _ => by have := (m y).mpr List.mem_cons_self; cases this
  | x :: r, [], m, _, _ => by have := (m x).mp List.mem_cons_self; cases this
  | x :: r, y :: t, m, h1, h2 => by
    rw [List.pairwise_cons] at h1 h2
    have e : x = y := by
      rcases List.mem_cons.mp ((m x).mp List.mem_cons_self) with e | m1
      · exact e
      · rcases List.mem_cons.mp ((m y).mpr List.mem_cons_self) with e | m2
        · exact e.symm
        · have := h1.1 y m2
          have := h2.1 x m1
          omega
    subst e
    refine congrArg _ (asc_uniq (fun k => ?_) h1.2 h2.2)
    constructor
    · intro hk
      rcases List.mem_cons.mp ((m k).mp (List.mem_cons_of_mem _ hk)) with e | z
      · have := h1.1 k hk; omega
      · exact z
    · intro hk
      rcases List.mem_cons.mp ((m k).mpr (List.mem_cons_of_mem _ hk)) with e | z
      · have := h2.1 k hk; omega
      · exact z
theorem sst_of {a l : List Int} (m : ∀ k, k ∈ a ↔ k ∈ l) (h : a.Pairwise (· < ·)) : a = sst l := asc_uniq (fun k => (m k).trans (mem_sst k l).symm) h (sst_asc l)
/-! ### the last letter, both ends -/
def lst1 (l : List Int) : List Int := l.drop (l.length - 1)
theorem lst1_app {a b : List Int} (h : b ≠ []) : lst1 (a ++ b) = lst1 b := by
  unfold lst1
  have hb : 0 < b.length := List.length_pos_iff.mpr h
  rw [List.length_append, List.drop_append]
  have e1 : a.drop (a.length + b.length - 1) = [] := List.drop_eq_nil_of_le (by omega)
  have e2 : a.length + b.length - 1 - a.length = b.length - 1 := by omega
  rw [e1, e2]
  rfl
theorem lst1_nil {l : List Int} : lst1 l = [] ↔ l = [] := by
  unfold lst1
  rw [List.drop_eq_nil_iff]
  constructor
  · intro h
    cases l with
    | nil => rfl
    | cons x r => simp at h; omega
  · rintro rfl
    simp
theorem lst1_len (l : List Int) : (lst1 l).length ≤ 1 := by
  unfold lst1
  rw [List.length_drop]
  omega
theorem lst1_one (x : Int) : lst1 [x] = [x] := rfl
theorem lst1_idem (l : List Int) : lst1 (lst1 l) = lst1 l := by
  have h := lst1_len l
  match lst1 l, h with
  | [], _ => rfl
  | [x], _ => rfl
/-- what a kind makes of a word -/
def pl : Kd8 → List Int → List Int
  | .list, l => l
  | .bag, l => srt l
  | .set, l => sst l
  | .first, l => l.take 1
  | .last, l => lst1 l
  | .ends, l => l.take 1 ++ lst1 l
  | .heads, l => fo [] l
  | .tails, l => (fo [] l.reverse).reverse
theorem ends_len (l : List Int) : (l.take 1 ++ lst1 l).length ≤ 2 := by
  have := lst1_len l
  simp only [List.length_append, List.length_take]
  omega
theorem ends_last (l : List Int) : lst1 (l.take 1 ++ lst1 l) = lst1 l := by
  by_cases h : l = []
  · subst h; rfl
  · rw [lst1_app (fun z => h (lst1_nil.mp z)), lst1_idem]
theorem ends_head (l : List Int) : (l.take 1 ++ lst1 l).take 1 = l.take 1 := by
  cases l with
  | nil => rfl
  | cons x r => rfl
theorem ends_nil {l : List Int} : l.take 1 ++ lst1 l = [] ↔ l = [] := by
  cases l with
  | nil => simp [lst1]
  | cons x r => simp
theorem ends_app {a b a' b' : List Int} (h1 : a.take 1 = a'.take 1) (h2 : lst1 a = lst1 a') (h3 : b.take 1 = b'.take 1) (h4 : lst1 b = lst1 b') : (a ++ b).take 1 ++ lst1 (a ++ b) = (a' ++ b').take 1 ++ lst1 (a' ++ b') := by
  have na : a = [] ↔ a' = [] := by rw [← lst1_nil, h2, lst1_nil]
  have nb : b = [] ↔ b' = [] := by rw [← lst1_nil, h4, lst1_nil]
  congr 1
  · cases a with
    | nil =>
      rw [na.mp rfl]
      exact h3
    | cons x r =>
      cases a' with
      | nil => cases na.mpr rfl
      | cons y t => simpa using h1
  · by_cases hb : b = []
    · rw [hb, nb.mp hb, List.append_nil, List.append_nil, h2]
    · rw [lst1_app hb, lst1_app (fun z => hb (nb.mpr z)), h4]
theorem pl_left (k : Kd8) (a b : List Int) : pl k (pl k a ++ b) = pl k (a ++ b) := by
  cases k with
  | list => rfl
  | bag => exact srt_of ((srt_perm _).trans (((srt_perm a).append_right b))) (srt_sorted _)
  | set => exact sst_of (fun k => by show k ∈ sst (sst a ++ b) ↔ _; rw [mem_sst, List.mem_append, mem_sst, List.mem_append]) (sst_asc _)
  | first => cases a <;> simp [pl]
  | last =>
    show lst1 (lst1 a ++ b) = lst1 (a ++ b)
    by_cases hb : b = []
    · subst hb; rw [List.append_nil, List.append_nil, lst1_idem]
    · rw [lst1_app hb, lst1_app hb]
  | ends => exact ends_app (ends_head a) (ends_last a) rfl rfl
  | heads => exact fo_left a b
  | tails =>
    show (fo [] ((fo [] a.reverse).reverse ++ b).reverse).reverse = (fo [] (a ++ b).reverse).reverse
    rw [List.reverse_append, List.reverse_reverse, fo_right, List.reverse_append]
theorem pl_right (k : Kd8) (a b : List Int) : pl k (a ++ pl k b) = pl k (a ++ b) := by
  cases k with
  | list => rfl
  | bag => exact srt_of ((srt_perm _).trans (((srt_perm b).append_left a))) (srt_sorted _)
  | set => exact sst_of (fun k => by show k ∈ sst (a ++ sst b) ↔ _; rw [mem_sst, List.mem_append, mem_sst, List.mem_append]) (sst_asc _)
  | first =>
    cases a with
    | nil =>
      show (b.take 1).take 1 = b.take 1
      rw [List.take_take] <;> rfl
    | cons x r => simp [pl]
  | last =>
    show lst1 (a ++ lst1 b) = lst1 (a ++ b)
    by_cases hb : b = []
    · subst hb; rfl
    · rw [lst1_app hb, lst1_app (fun z => hb (lst1_nil.mp z)), lst1_idem]
  | ends => exact ends_app rfl rfl (ends_head b) (ends_last b)
  | heads => exact fo_right a b
  | tails =>
    show (fo [] (a ++ (fo [] b.reverse).reverse).reverse).reverse = (fo [] (a ++ b).reverse).reverse
    rw [List.reverse_append, List.reverse_reverse, fo_left, List.reverse_append]
theorem pl_idem (k : Kd8) (a : List Int) : pl k (pl k a) = pl k a := by
  have h := pl_left k a []
  rw [List.append_nil, List.append_nil] at h
  exact h
theorem pl_nil (k : Kd8) : pl k [] = [] := by cases k <;> rfl
theorem pl_len (k : Kd8) (a : List Int) : (pl k a).length ≤ a.length + 1 := by
  cases k with
  | list => exact Nat.le_succ _
  | bag => rw [show (pl .bag a).length = a.length from (srt_perm a).length_eq]; omega
  | set =>
    have h : ∀ (x : Int) (l : List Int), (ins1 x l).length ≤ l.length + 1 := fun x l => by
      induction l with
      | nil => exact Nat.le_refl _
      | cons y r ih =>
        show (if x < y then x :: y :: r else if x = y then y :: r else y :: ins1 x r).length ≤ _
        split
        · exact Nat.le_refl _
        · split
          · exact Nat.le_succ _
          · simpa using ih
    have h2 : ∀ l : List Int, (sst l).length ≤ l.length := fun l => by
      induction l with
      | nil => exact Nat.le_refl _
      | cons x r ih =>
        have := h x (sst r)
        show (ins1 x (sst r)).length ≤ _
        simp only [List.length_cons]
        omega
    exact Nat.le_succ_of_le (h2 a)
  | first => show (a.take 1).length ≤ _; rw [List.length_take]; omega
  | last => exact Nat.le_trans (lst1_len a) (by omega)
  | ends =>
    show (a.take 1 ++ lst1 a).length ≤ _
    cases a with
    | nil => exact Nat.zero_le _
    | cons x r => have := ends_len (x :: r); simp only [List.length_cons] at *; omega
  | heads => have := fo_len a []; show (fo [] a).length ≤ _; simp only [List.length_nil] at this; omega
  | tails => have := fo_len a.reverse []; show ((fo [] a.reverse).reverse).length ≤ _; rw [List.length_reverse]; simp only [List.length_nil, List.length_reverse] at this; omega
theorem mem_pl {k : Kd8} {x : Int} {l : List Int} (h : x ∈ pl k l) : x ∈ l := by
  cases k with
  | list => exact h
  | bag => exact (srt_perm l).mem_iff.mp h
  | set => exact (mem_sst x l).mp h
  | first => exact List.mem_of_mem_take h
  | last => exact List.mem_of_mem_drop h
  | ends => exact (List.mem_append.mp h).elim List.mem_of_mem_take List.mem_of_mem_drop
  | heads => exact ((mem_fo l [] x).mp h).elim (fun z => by cases z) id
  | tails => exact ((mem_fo l.reverse [] x).mp (List.mem_reverse.mp h)).elim (fun z => by cases z) List.mem_reverse.mp
end Km

set_option Elab.async false
set_option linter.all false
set_option maxRecDepth 100000
set_option maxHeartbeats 4000000
/-! words, effects as data -/
namespace Kx
open PySem PySem.Spec PyProof.Rows L2 Lk Kd Km
def wD (ns : List Int) : PyData := .tuple (ns.map PyData.int)
def eD (f : Bool) (ns : List Int) : PyData := .tuple [.bool f, wD ns]
section
variable {K : PySem.W.Frag} {H H' : Hp} {v : V} {t S c : Addr} {ns ms : List Int} {f g : Bool}
theorem ints_inv : ∀ {ns : List Int} {vs : List V}, DpAll K H vs (ns.map PyData.int) → vs = ns.map V.int
  | [], _, h => by cases h; rfl
  | n :: r, _, h => by
    cases h with
    | cons h1 h2 =>
      cases h1
      rw [ints_inv h2] <;> rfl
theorem w_mk (h : SqT K H t (ns.map V.int)) : Dp K H (.ref t) (wD ns) := .tup h (dpa_ints ns)
theorem w_inv (h : Dp K H v (wD ns)) : ∃ t, v = .ref t ∧ SqT K H t (ns.map V.int) := by
  cases h with
  | tup h1 h2 =>
    have e := ints_inv h2
    subst e
    exact ⟨_, rfl, h1⟩
theorem w_at (h : Dp K H (.ref t) (wD ns)) : SqT K H t (ns.map V.int) := by
  obtain ⟨t', e, h⟩ := w_inv h
  cases e
  exact h
theorem e_mk {e : Addr} (h : SqT K H e [.bl f, v]) (hw : Dp K H v (wD ns)) : Dp K H (.ref e) (eD f ns) := .tup h (.cons (.bl f) (.cons hw .nil))
theorem e_inv (h : Dp K H v (eD f ns)) : ∃ e t, v = .ref e ∧ SqT K H e [.bl f, .ref t] ∧ SqT K H t (ns.map V.int) := by
  cases h with
  | tup h1 h2 =>
    cases h2 with
    | cons a r =>
      cases r with
      | cons b r =>
        cases r
        cases a
        obtain ⟨t, rfl, h⟩ := w_inv b
        exact ⟨_, t, rfl, h1, h⟩
theorem eqv_ints : ∀ ns ms : List Int, PyData.eqvAll (ns.map PyData.int) (ms.map PyData.int) = decide (ns = ms)
  | [], [] => rfl
  | [], _ :: _ => by show false = _; simp
  | _ :: _, [] => by show false = _; simp
  | n :: r, m :: q => by
    show ((n == m) && PyData.eqvAll (r.map PyData.int) (q.map PyData.int)) = _
    rw [eqv_ints r q]
    by_cases h : n = m
    · subst h; simp
    · simp [h]
theorem eqv_w (ns ms : List Int) : PyData.eqv (wD ns) (wD ms) = decide (ns = ms) := eqv_ints ns ms
theorem eqv_e (f g : Bool) (ns ms : List Int) : PyData.eqv (eD f ns) (eD g ms) = (decide (f = g) && decide (ns = ms)) := by
  show ((f == g) && (PyData.eqv (wD ns) (wD ms) && true)) = _
  rw [eqv_w, Bool.and_true]
  cases f <;> cases g <;> rfl
theorem lay_ints : ∀ ns : List Int, PyData.canLayAll0 (ns.map PyData.int) = true ∧ PyData.depthAll (ns.map PyData.int) = 0
  | [] => ⟨rfl, rfl⟩
  | n :: r => by
    obtain ⟨h1, h2⟩ := lay_ints r
    refine ⟨?_, ?_⟩
    · simp only [List.map, PyData.canLayAll0, PyData.canLay0, h1, Bool.and_self]
    · simp only [List.map, PyData.depthAll, PyData.depth, h2, Nat.max_self]
theorem shaped_w (ns : List Int) : SeqAt.shaped (wD ns) = true := by
  obtain ⟨h1, h2⟩ := lay_ints ns
  unfold SeqAt.shaped wD
  rw [PyData.canLay0, PyData.depth, h1, h2]
  rfl
theorem shaped_e (f : Bool) (ns : List Int) : SeqAt.shaped (eD f ns) = true := by
  obtain ⟨h1, h2⟩ := lay_ints ns
  unfold SeqAt.shaped eD wD
  simp only [PyData.canLay0, PyData.canLayAll0, PyData.depth, PyData.depthAll, h1, h2]
  rfl
theorem sqt_hid (hS : Stm S c H) {xs : List V} (h : SqT K H t xs) : SqT K (hid S H) t xs := by
  obtain ⟨_, _, _, h1, _⟩ := hS
  have ne : ∀ o, H t = some o → (∀ l, o ≠ .lst l) → t ≠ S := fun o e n z => by
    rw [z, h1] at e
    exact n _ (Option.some.inj e).symm
  rcases h with (h | ⟨o, h⟩) | h
  · exact .inl (.inl (by rw [hid_at (ne _ h fun l z => HO.noConfusion z)]; exact h))
  · exact .inl (.inr ⟨o, by rw [hid_at (ne _ h fun l z => HO.noConfusion z)]; exact h⟩)
  · exact .inr h
theorem sqt_ext (hS : Stm S c H) (e : Ext S H H') {xs : List V} (h : SqT K H t xs) : SqT K H' t xs := seqT_same hid_le (seqT_same (hid_ext e) (sqt_hid hS h))
theorem w_ext (hS : Stm S c H) (e : Ext S H H') (h : Dp K H v (wD ns)) : Dp K H' v (wD ns) := by
  obtain ⟨t, rfl, h'⟩ := w_inv h
  exact w_mk (sqt_ext hS e h')
theorem e_ext (hS : Stm S c H) (e : Ext S H H') (h : Dp K H v (eD f ns)) : Dp K H' v (eD f ns) := by
  obtain ⟨x, t, rfl, h1, h2⟩ := e_inv h
  exact e_mk (sqt_ext hS e h1) (w_mk (sqt_ext hS e h2))
theorem w_new (h : H t = none) : Dp K (upd H t (.tup (ns.map V.int))) (.ref t) (wD ns) := w_mk (.inl (.inl upd_same))
end
def isW (d : PyData) : Bool := isI "int" d && !isI "bool" d
theorem isW_int (i : Int) : isW (.int i) = true := by unfold isW; rw [isI_int_int, isI_bool_int] <;> rfl
theorem isW_not {d : PyData} (h : isW d = true) : ∃ i, d = .int i := by
  cases d with
  | int i => exact ⟨i, rfl⟩
  | none => unfold isW at h; rw [isI_int_none] at h; cases h
  | bool b => unfold isW at h; rw [isI_int_bool, isI_bool_bool] at h; cases h
  | str b => unfold isW at h; rw [isI_int_str] at h; cases h
  | list b => unfold isW at h; rw [isI_int_list] at h; cases h
  | tuple b => unfold isW at h; rw [isI_int_tuple] at h; cases h
  | dict b => 
    have e : isI "int" (.dict b) = false := by show (kitB "dict" "int").getD false = false; decide +kernel
    unfold isW at h; rw [e] at h; cases h

/-! ### lists or tuples -/
abbrev Sq (K : PySem.W.Frag) (H : Hp) (p : Addr) (xs : List V) : Prop := SqL K H p xs ∨ SqT K H p xs
theorem sq_same {K : PySem.W.Frag} {H H' : Hp} {p : Addr} {xs : List V} (e : Same H H') (h : Sq K H p xs) : Sq K H' p xs := h.imp (fun h => e.seq h) (fun h => seqT_same e h)
theorem for_any {K : PySem.W.Frag} {te : TE} {g : TG} {tb : TS} {D : Ends} {σ : L2.St} {H H0 : Hp} {p : Addr} {xs : List V} (ev : ∀ Q : VK, Q (.ref p) H → te σ H Q) (hq : Sq K H0 p xs) (Pv : Nat → L2.St → Hp → Prop) (h0 : Pv 0 σ H) (hl : ∀ i σ H, Pv i σ H → Same H0 H)
    (hs : ∀ i x σ H, xs[i]? = some x → Pv i σ H → g x σ H fun σ2 H2 => tb { D with nx := Pv (i + 1), ct := Pv (i + 1), bk := D.nx } σ2 H2) (hd : ∀ σ H, Pv xs.length σ H → D.nx σ H) :
    tFor (fun σ H R => iList K te σ H R ∨ iTup K te σ H R) g tb D σ H := by
  rcases hq with hq | hq
  · exact .inl (ev _ ⟨p, rfl, ⟨xs, (hl 0 σ H h0).seq hq⟩, for_list Pv h0 (fun i σ H _ q => (hl i σ H q).seq hq) hs hd⟩)
  · exact .inr (ev _ ⟨p, rfl, ⟨xs, seqT_same (hl 0 σ H h0) hq⟩, for_tup Pv h0 (fun i σ H _ q => seqT_same (hl i σ H q) hq) hs hd⟩)
/-! ### slices, turned rows, tuple(x) -/
section
variable {K : PySem.W.Frag} {te : TE} {σ : L2.St} {H : Hp} {p : Addr} {ns : List Int} {lo hi : Option Int} {Q : VK}
def cutI (ns : List Int) (lo hi : Option Int) : List Int := (ns.drop (HT.sIx ns.length 0 lo)).take (HT.sIx ns.length ns.length hi - HT.sIx ns.length 0 lo)
theorem cut_map : cutV (ns.map V.int) lo hi = (cutI ns lo hi).map V.int := by
  unfold cutV cutI
  rw [List.length_map, List.map_take, List.map_drop]
theorem cut_whole (h : HT.sIx ns.length 0 lo = 0 ∧ HT.sIx ns.length ns.length hi = ns.length) : cutI ns lo hi = ns := by
  unfold cutI
  rw [h.1, h.2, List.drop_zero, Nat.sub_zero, List.take_length]
theorem slA_fin (hq : SqT K H p (ns.map V.int)) (h : ∀ q H', Same H H' → SqT K H' q ((cutI ns lo hi).map V.int) → Q (.ref q) H') : rSlA K (.ref p) lo hi H Q := by
  refine ⟨p, _, rfl, hq, fun w => ?_, fun _ q nq => ?_⟩
  · rw [List.length_map] at w
    exact h _ _ (.refl _) (by rw [cut_whole w]; exact hq)
  · refine h _ _ (same_new nq) ?_
    rw [cut_map]
    exact .inl (.inl upd_same)
theorem sl_fin (hq : Sq K H p (ns.map V.int)) (h : ∀ q H', Same H H' → Sq K H' q ((cutI ns lo hi).map V.int) → Q (.ref q) H') : rSlL K (.ref p) lo hi H Q ∨ rSlA K (.ref p) lo hi H Q := by
  rcases hq with hq | hq
  · refine .inl ⟨p, _, rfl, hq, fun q nq => h _ _ (same_new nq) (.inl ?_)⟩
    rw [cut_map]
    exact SqL.of upd_same
  · exact .inr (slA_fin hq fun q H' e h' => h q H' e (.inr h'))
theorem six_one (n d : Nat) : HT.sIx n d (some 1) = min 1 n := by
  show (if (1 : Int) < 0 then ((1 : Int) + (n : Int)).toNat else min (1 : Int).toNat n) = _
  rw [if_neg (by decide)]
  rfl
theorem six_neg (n d : Nat) : HT.sIx n d (some (-1)) = n - 1 := by
  show (if (-1 : Int) < 0 then ((-1 : Int) + (n : Int)).toNat else min (-1 : Int).toNat n) = _
  rw [if_pos (by decide)]
  omega
theorem cut_first : cutI ns none (some 1) = ns.take 1 := by
  unfold cutI
  rw [six_one, HT.sIx_none, List.drop_zero, Nat.sub_zero, List.take_eq_take_iff]
  omega
theorem cut_last : cutI ns (some (-1)) none = Km.lst1 ns := by
  unfold cutI Km.lst1
  rw [six_neg, HT.sIx_none]
  exact List.take_of_length_le (by rw [List.length_drop]; omega)
theorem tupof (hq : Sq K H p (ns.map V.int)) (k : ∀ v H', Same H H' → Dp K H' v (wD ns) → Q v H') : ∃ q ys, [V.ref p] = [V.ref q] ∧ ((SqL K H q ys ∧ ∀ l, H l = none → Q (.ref l) (upd H l (.tup ys))) ∨ (SqT K H q ys ∧ Q (.ref q) H)) := by
  rcases hq with hq | hq
  · exact ⟨p, _, rfl, .inl ⟨hq, fun l nl => k _ _ (same_new nl) (w_new nl)⟩⟩
  · exact ⟨p, _, rfl, .inr ⟨hq, k _ _ (.refl _) (w_mk hq)⟩⟩
theorem rev_fin (ev : ∀ Q : VK, Q (.ref p) H → te σ H Q) (hq : Sq K H p (ns.map V.int)) (h : ∀ q H', Same H H' → Sq K H' q (ns.reverse.map V.int) → Q (.ref q) H') : tRevL K te σ H Q ∨ Kd.tRev K te σ H Q := by
  rcases hq with hq | hq
  · exact .inl (ev _ ⟨p, _, rfl, hq, fun q nq => h _ _ (same_new nq) (.inl (by rw [List.map_reverse]; exact SqL.of upd_same))⟩)
  · exact .inr (ev _ ⟨p, _, rfl, hq, fun q nq => h _ _ (same_new nq) (.inr (by rw [List.map_reverse]; exact .inl (.inl upd_same)))⟩)
end
/-! ### the kinds by their names -/
def nm : Kd8 → Str
  | .list => "list" | .bag => "bag" | .set => "set" | .first => "first" | .last => "last" | .ends => "ends" | .heads => "heads" | .tails => "tails"
def kNames : List V := [.str "list", .str "bag", .str "set", .str "first", .str "last", .str "ends", .str "heads", .str "tails"]
def kAt : Nat → Kd8
  | 0 => .list | 1 => .bag | 2 => .set | 3 => .first | 4 => .last | 5 => .ends | 6 => .heads | _ => .tails
/-- what == of a kind's name and a text says -/
def isK (k k' : Kd8) : Bool := match k, k' with
  | .list, .list | .bag, .bag | .set, .set | .first, .first | .last, .last | .ends, .ends | .heads, .heads | .tails, .tails => true
  | _, _ => false
theorem eq_nm (k k' : Kd8) : decide (V.str (nm k) = V.str (nm k')) = isK k k' := by cases k <;> cases k' <;> decide +kernel
/-! ### all([f(x) for x in a tuple of data]) -/
theorem dpa_get {K : PySem.W.Frag} {H : Hp} : ∀ {vs : List V} {ds : List PyData} {i : Nat} {v : V}, DpAll K H vs ds → vs[i]? = some v → ∃ d, ds[i]? = some d ∧ Dp K H v d
  | _, _, _, _, .nil, h => by cases h
  | x :: _, d :: _, 0, v, .cons h1 _, h => by
    have e : x = v := Option.some.inj h
    subst e
    exact ⟨d, rfl, h1⟩
  | _ :: vs, _ :: ds, i + 1, v, .cons _ h2, h => dpa_get (vs := vs) (ds := ds) (i := i) h2 h
theorem all_dat {K : PySem.W.Frag} {H : Hp} {p : Addr} {xs : List V} {ds : List PyData} {f : PyData → Bool} {t0 : TE} {g : TG} {te : TE} {vs : List Nat} {σ : L2.St} {Q : VK} (ev : ∀ Q : VK, Q (.ref p) H → t0 σ H Q) (hT : SqT K H p xs) (hd : DpAll K H xs ds) (hz : ds.length ≤ 900)
    (hs : ∀ x d H' (Q' : VK), Same H H' → d ∈ ds → Dp K H' x d → Q' (.bl (f d)) H' → g x (wipe σ vs) H' fun σ2 H2 => wipe σ2 vs = wipe σ vs ∧ te σ2 H2 Q')
    (hQ : ∀ D H', Same H H' → SqL K H' D ((ds.map f).map V.bl) → Q (.ref D) H') : tLc (iTup K t0) g tYes te vs σ H Q := by
  refine ev _ ⟨p, rfl, ⟨xs, hT⟩, fun D nD => ?_⟩
  have hl := dpa_len hd
  refine lc_tup (K := K) (a := p) (xs := xs) (fun i H' => Same H H' ∧ H' D = some (.lst (((ds.take i).map f).map V.bl))) ⟨same_new nD, upd_same⟩ (fun i H' _ h => seqT_same h.1 hT) ?_ ?_
  · rintro i x H' hi ⟨s1, h2⟩
    obtain ⟨d, hdi, hx⟩ := dpa_get hd hi
    have hmem : d ∈ ds := List.mem_of_getElem? hdi
    refine hs x d H' (fun y H4 => ∃ acc, H4 D = some (.lst acc) ∧ acc.length < sizeLine ∧ (Same H (upd H4 D (.lst (acc ++ [y]))) ∧ (upd H4 D (.lst (acc ++ [y]))) D = some (.lst (((ds.take (i + 1)).map f).map V.bl)))) s1 hmem (dp_same s1 hx) ⟨_, h2, ?_, same_mut s1 nD, ?_⟩
    · rw [List.length_map, List.length_map, List.length_take]
      exact small1000 (by omega)
    · rw [upd_same, take_map hdi, List.map_append, List.map_append]
      rfl
  · rintro H' ⟨s1, h2⟩
    rw [hl, List.take_length] at h2
    exact hQ D H' s1 (SqL.of h2)
theorem all_map {α : Type} (l : List α) (f : α → Bool) : (l.map f).all id = l.all f := by
  induction l with
  | nil => rfl
  | cons x r ih => simp [ih]
theorem cb1 {r : List V → Hp → VK → Prop} {te : TE} {σ : L2.St} {H : Hp} {Q : VK} (h : te σ H fun x H1 => r [x] H1 Q) : tCB r (tCons te tNil) σ H Q := h
/-! ### letters, words, effects: what is one -/
def isL (d : PyData) : Bool := match d with
  | .int i => decide (0 ≤ i) && decide (i ≤ 999999999)
  | _ => false
def isWd (f : PyData → Bool) (d : PyData) : Bool := match d with
  | .tuple ds => ds.all f
  | _ => false
def few (d : PyData) : Prop := ∀ ds, d = .tuple ds → ds.length ≤ 900
theorem isW_isI (d : PyData) (h : isI "int" d = true) (h2 : isI "bool" d = false) : ∃ i, d = .int i := isW_not (by unfold isW; rw [h, h2] <;> rfl)
theorem isL_not (d : PyData) (h : isW d = false) : isL d = false := by
  cases d with
  | int i => rw [isW_int] at h; cases h
  | _ => rfl
theorem isWd_not {f : PyData → Bool} (d : PyData) (h : isI "tuple" d = false) : isWd f d = false := by
  cases d with
  | tuple ds => rw [isI_tuple_tuple] at h; cases h
  | _ => rfl
def nF (k : Kd8) (f : Bool) (ns : List Int) : Bool := if isK k .last && !ns.isEmpty then true else f
def nE (k : Kd8) (f : Bool) (ns : List Int) : PyData := eD (nF k f ns) ns
/-- one effect behind the other, plain or not -/
def mulE (a b : Bool × List Int) : Bool × List Int := if b.1 then (true, b.2) else (a.1, a.2 ++ b.2)
def prodE (l : List (Bool × List Int)) : Bool × List Int := l.foldl mulE (false, [])
def nrm (k : Kd8) (e : Bool × List Int) : Bool × List Int := (nF k e.1 (pl k e.2), pl k e.2)
def effs (l : List (Bool × List Int)) : List PyData := l.map fun e => eD e.1 e.2
def onE (k : Kd8) (f : Bool) (ns ms : List Int) : List Int := if f then ns else pl k (ms ++ ns)
theorem isWd_word (d : PyData) (h : isWd isL d = true) : ∃ ns, d = wD ns := by
  cases d with
  | tuple ds =>
    have h' : ds.all isL = true := h
    suffices z : ∃ ns : List Int, ds = ns.map PyData.int from z.elim fun ns e => ⟨ns, by rw [e] <;> rfl⟩
    clear h
    induction ds with
    | nil => exact ⟨[], rfl⟩
    | cons d r ih =>
      rw [List.all_cons, Bool.and_eq_true] at h'
      obtain ⟨ns, e⟩ := ih h'.2
      cases d with
      | int i => exact ⟨i :: ns, by rw [e] <;> rfl⟩
      | _ => cases h'.1
  | _ => cases h
def wInts (d : PyData) : List Int := match d with
  | .tuple ds => ds.map fun d => match d with
    | .int i => i
    | _ => 0
  | _ => []
theorem wInts_w (ns : List Int) : wInts (wD ns) = ns := by
  show (ns.map PyData.int).map _ = ns
  rw [List.map_map]
  exact List.map_id' ns
def isPl (k : Kd8) (d : PyData) : Bool := isWd isL d && decide (pl k (wInts d) = wInts d)
section
variable {X : Cx} {K : PySem.W.Frag}
theorem notInK (h : X.K = K) : OpR X (compareOp .NotIn) (rIn K true) := by subst h; exact op_notIn_seq
theorem inK (h : X.K = K) : OpR X (compareOp .In) (rIn K false) := by subst h; exact op_in_seq
theorem slLK (h : X.K = K) : SlR X (rSlL K) := by subst h; exact sl_list
end
theorem kNames_at : ∀ n : Nat, n < 8 → kNames[n]? = some (.str (nm (kAt n)))
  | 0, _ => rfl
  | 1, _ => rfl
  | 2, _ => rfl
  | 3, _ => rfl
  | 4, _ => rfl
  | 5, _ => rfl
  | 6, _ => rfl
  | 7, _ => rfl
  | n + 8, h => absurd h (by omega)
theorem inV_int (x : Int) (ns : List Int) : inV (.int x) (ns.map V.int) = decide (x ∈ ns) := by
  unfold inV
  induction ns with
  | nil => rfl
  | cons y r ih =>
    rw [List.map_cons, List.any_cons, ih]
    show (decide (y = x) || decide (x ∈ r)) = _
    by_cases h : x = y
    · subst h; simp
    · simp [h, Ne.symm h]
theorem flat_ints (ns : List Int) : (ns.map V.int).all flatV = true := by
  induction ns with
  | nil => rfl
  | cons y r ih => rw [List.map_cons, List.all_cons, ih] <;> rfl
/-- the letters that a word is drawn from, at G -/
structure Lets (S c G : Addr) (gs : List Int) (H : Hp) : Prop where
  at_ : Lst S c G gs H
  one : 1 ≤ gs.length
  ten : gs.length ≤ 10
  rng : ∀ x ∈ gs, 0 ≤ x ∧ x ≤ 999999999
theorem Lets.ext {S c G : Addr} {gs : List Int} {H H' : Hp} (h : Lets S c G gs H) (e : Ext S H H') : Lets S c G gs H' := ⟨h.at_.ext e, h.one, h.ten, h.rng⟩
theorem cut_take {ns : List Int} {i : Nat} (h : i ≤ ns.length) : cutI ns none (some (0 + (i : Int))) = ns.take i := by
  unfold cutI
  rw [Int.zero_add, HT.sIx_nat, HT.sIx_none, List.drop_zero, Nat.sub_zero, Nat.min_eq_left h]
theorem cut_drop {ns : List Int} {i : Nat} {j : Int} (e : j = ((i : Nat) : Int)) (h : i ≤ ns.length) : cutI ns (some j) none = ns.drop i := by
  subst e
  unfold cutI
  rw [HT.sIx_nat, HT.sIx_none, Nat.min_eq_left h]
  exact List.take_of_length_le (by rw [List.length_drop]; omega)
theorem lst1_get {ns : List Int} (h : 0 < ns.length) : Km.lst1 ns = [ns[ns.length - 1]'(by omega)] := by
  unfold Km.lst1
  rw [List.drop_eq_getElem_cons (by omega)]
  congr 1
  exact List.drop_eq_nil_of_le (by omega)
theorem not_in (x : Int) (ns : List Int) : (if true = true then !inV (.int x) (ns.map V.int) else inV (.int x) (ns.map V.int)) = !decide (x ∈ ns) := by
  rw [if_pos rfl, inV_int]
theorem cat_fin {K : PySem.W.Frag} {H : Hp} {p q : Addr} {a b : List Int} {Q : VK} (hp : SqT K H p (a.map V.int)) (hq : SqT K H q (b.map V.int)) (hz : a.length + b.length ≤ 900) (h : ∀ r H', Same H H' → SqT K H' r ((a ++ b).map V.int) → Q (.ref r) H') : rCatA K (.ref p) (.ref q) H Q := by
  refine ⟨p, q, _, _, rfl, rfl, hp, hq, ?_, fun e => ?_, fun n1 e => ?_, fun n1 n2 r nr => ?_⟩
  · rw [List.length_map, List.length_map]
    exact Nat.le_trans hz (by decide)
  · exact h q _ (.refl _) (by rw [List.map_append, e]; exact hq)
  · exact h p _ (.refl _) (by rw [List.map_append, e, List.append_nil]; exact hp)
  · exact h r _ (same_new nr) (by rw [List.map_append]; exact .inl (.inl upd_same))
/-- one effect, then a plain one, as the law counts -/
def thE (k : Kd8) (x y : Bool × List Int) : Bool × List Int := if y.1 then (true, y.2) else (nF k x.1 (pl k (x.2 ++ y.2)), pl k (x.2 ++ y.2))
theorem nF_true (k : Kd8) (l : List Int) : nF k true l = true := by unfold nF; split <;> rfl
theorem nF_nil (k : Kd8) (f : Bool) : nF k f [] = f := by unfold nF; simp
theorem nF_idem (k : Kd8) (f : Bool) (l : List Int) : nF k (nF k f l) l = nF k f l := by unfold nF; split <;> rfl
theorem pl_last_nil {l : List Int} : pl .last l = [] ↔ l = [] := lst1_nil
theorem thE_eq {k : Kd8} {x y : Bool × List Int} (h : pl k y.2 = y.2) : thE k x y = nrm k (mulE x y) := by
  unfold thE nrm mulE
  obtain ⟨g, b⟩ := y
  cases g with
  | true =>
    show (true, b) = (nF k true (pl k b), pl k b)
    rw [nF_true, show pl k b = b from h]
  | false => rfl
theorem nF_left (k : Kd8) (f : Bool) (a b : List Int) : nF k (nF k f (pl k a)) (pl k (a ++ b)) = nF k f (pl k (a ++ b)) := by
  cases k with
  | last =>
    by_cases h : a = []
    · subst h
      show nF .last (nF .last f []) _ = _
      rw [nF_nil]
    · have e : (pl .last (a ++ b)).isEmpty = false := by
        cases z : pl .last (a ++ b) with
        | nil => exact absurd (List.append_eq_nil_iff.mp (pl_last_nil.mp z)).1 h
        | cons _ _ => rfl
      unfold nF
      rw [e] <;> rfl
  | _ => rfl
theorem nrm_mul {k : Kd8} (w z : Bool × List Int) : nrm k (mulE (nrm k w) z) = nrm k (mulE w z) := by
  obtain ⟨g, b⟩ := z
  cases g with
  | true => rfl
  | false =>
    show (nF k (nF k w.1 (pl k w.2)) (pl k (pl k w.2 ++ b)), pl k (pl k w.2 ++ b)) = (nF k w.1 (pl k (w.2 ++ b)), pl k (w.2 ++ b))
    rw [pl_left, nF_left]
theorem nrm_mulR {k : Kd8} (x w : Bool × List Int) : nrm k (mulE x (nrm k w)) = nrm k (mulE x w) := by
  obtain ⟨g, b⟩ := w
  obtain ⟨f, a⟩ := x
  cases g with
  | true =>
    show nrm k (if nF k true (pl k b) = true then (true, pl k b) else _) = nrm k (true, b)
    rw [nF_true, if_pos rfl]
    show (nF k true (pl k (pl k b)), pl k (pl k b)) = (nF k true (pl k b), pl k b)
    rw [pl_idem]
  | false =>
    show nrm k (if nF k false (pl k b) = true then (true, pl k b) else (f, a ++ pl k b)) = nrm k (f, a ++ b)
    by_cases h : nF k false (pl k b) = true
    · rw [if_pos h]
      cases k with
      | last =>
        have hb : b ≠ [] := fun e => by subst e; exact absurd h (by decide)
        show (nF .last true (lst1 (lst1 b)), lst1 (lst1 b)) = (nF .last f (lst1 (a ++ b)), lst1 (a ++ b))
        rw [lst1_idem, lst1_app hb, nF_true]
        have e : (lst1 b).isEmpty = false := by
          cases z : lst1 b with
          | nil => exact absurd (lst1_nil.mp z) hb
          | cons _ _ => rfl
        unfold nF
        rw [e] <;> rfl
      | _ => exact absurd (show false = true from h) Bool.false_ne_true
    · rw [if_neg h]
      show (nF k f (pl k (a ++ pl k b)), pl k (a ++ pl k b)) = _
      rw [pl_right] <;> rfl
theorem mulE_assoc (x y z : Bool × List Int) : mulE (mulE x y) z = mulE x (mulE y z) := by
  obtain ⟨f, a⟩ := x
  obtain ⟨g, b⟩ := y
  obtain ⟨i, c⟩ := z
  cases g <;> cases i <;> simp [mulE]
theorem mulE_e0 (x : Bool × List Int) : mulE (false, []) x = x := by
  obtain ⟨f, a⟩ := x
  cases f <;> simp [mulE]
theorem mulE_0e (x : Bool × List Int) : mulE x (false, []) = x := by
  obtain ⟨f, a⟩ := x
  simp [mulE]
theorem nrm_nrm (k : Kd8) (w : Bool × List Int) : nrm k (nrm k w) = nrm k w := by
  show (nF k (nF k w.1 (pl k w.2)) (pl k (pl k w.2)), pl k (pl k w.2)) = _
  rw [pl_idem, nF_idem] <;> rfl
theorem nrm_pl (k : Kd8) (w : Bool × List Int) : pl k (nrm k w).2 = (nrm k w).2 := pl_idem k w.2
theorem cut_sub (ns : List Int) (lo hi : Option Int) : (cutI ns lo hi).length ≤ ns.length ∧ ∀ x ∈ cutI ns lo hi, x ∈ ns := by
  unfold cutI
  refine ⟨?_, fun x hx => List.mem_of_mem_drop (List.mem_of_mem_take hx)⟩
  rw [List.length_take, List.length_drop]
  omega
section
variable {K : PySem.W.Frag} {H : Hp} {L t : Addr} {xs ys zs : List V} {v : V} {ns : List Int} {f : Bool}
theorem sqt_mut (hL : H L = some (.lst xs)) (h : SqT K H t ys) : SqT K (upd H L (.lst zs)) t ys := by
  have ne : ∀ o, H t = some o → (∀ l, o ≠ .lst l) → t ≠ L := fun o e n z => by
    rw [z, hL] at e
    exact n _ (Option.some.inj e).symm
  rcases h with (h | ⟨o, h⟩) | h
  · exact .inl (.inl (by rw [upd_ne (ne _ h fun l z => HO.noConfusion z)]; exact h))
  · exact .inl (.inr ⟨o, by rw [upd_ne (ne _ h fun l z => HO.noConfusion z)]; exact h⟩)
  · exact .inr h
theorem w_mut (hL : H L = some (.lst xs)) (h : Dp K H v (wD ns)) : Dp K (upd H L (.lst zs)) v (wD ns) := by
  obtain ⟨t, rfl, h'⟩ := w_inv h
  exact w_mk (sqt_mut hL h')
theorem ef_mut (hL : H L = some (.lst xs)) (h : Dp K H v (eD f ns)) : Dp K (upd H L (.lst zs)) v (eD f ns) := by
  obtain ⟨x, t, rfl, h1, h2⟩ := e_inv h
  exact e_mk (sqt_mut hL h1) (w_mk (sqt_mut hL h2))
end
theorem on_nrm (k : Kd8) (w : Bool × List Int) (ms : List Int) : onE k (nrm k w).1 (nrm k w).2 ms = if w.1 then pl k w.2 else pl k (ms ++ w.2) := by
  obtain ⟨f, a⟩ := w
  show onE k (nF k f (pl k a)) (pl k a) ms = _
  cases f with
  | true => rw [nF_true] <;> rfl
  | false =>
    show onE k (nF k false (pl k a)) (pl k a) ms = pl k (ms ++ a)
    by_cases h : nF k false (pl k a) = true
    · rw [h]
      show pl k a = pl k (ms ++ a)
      cases k with
      | last =>
        have ha : a ≠ [] := fun e => by subst e; exact absurd h (by decide)
        exact (lst1_app ha).symm
      | _ => exact absurd (show false = true from h) Bool.false_ne_true
    · have e : nF k false (pl k a) = false := by cases z : nF k false (pl k a) <;> simp_all
      rw [e]
      exact pl_right k ms a
theorem on_three {k : Kd8} {x y z : Bool × List Int} (px : pl k x.2 = x.2) (py : pl k y.2 = y.2) (pz : pl k z.2 = z.2) (ms : List Int) :
    onE k (nrm k (mulE (mulE x y) z)).1 (nrm k (mulE (mulE x y) z)).2 ms = onE k z.1 z.2 (onE k y.1 y.2 (onE k x.1 x.2 ms)) := by
  rw [on_nrm]
  obtain ⟨f, a⟩ := x
  obtain ⟨g, b⟩ := y
  obtain ⟨i, c⟩ := z
  cases i with
  | true => exact pz
  | false =>
    cases g with
    | true => rfl
    | false =>
      cases f with
      | true =>
        show pl k (a ++ b ++ c) = pl k (pl k (a ++ b) ++ c)
        rw [pl_left]
      | false =>
        show pl k (ms ++ (a ++ b ++ c)) = pl k (pl k (pl k (ms ++ a) ++ b) ++ c)
        rw [pl_left k (ms ++ a) b, pl_left, List.append_assoc, List.append_assoc, List.append_assoc]
theorem dpa_snoc {K : PySem.W.Frag} {H : Hp} {v : V} {d : PyData} : ∀ {vs : List V} {ds : List PyData}, DpAll K H vs ds → Dp K H v d → DpAll K H (vs ++ [v]) (ds ++ [d])
  | _, _, .nil, h => .cons h .nil
  | _ :: _, _ :: _, .cons h1 h2, h => .cons h1 (dpa_snoc h2 h)
theorem isPl_ints {k : Kd8} {ns : List Int} (h : ∀ x ∈ ns, 0 ≤ x ∧ x ≤ 999999999) : isPl k (wD ns) = decide (pl k ns = ns) := by
  unfold isPl
  rw [wInts_w]
  have e : isWd isL (wD ns) = true := by
    show (ns.map PyData.int).all isL = true
    rw [List.all_eq_true]
    intro d hd
    obtain ⟨i, hi, rfl⟩ := List.mem_map.mp hd
    obtain ⟨h1, h2⟩ := h i hi
    show (decide (0 ≤ i) && decide (i ≤ 999999999)) = true
    simp [h1, h2]
  rw [e, Bool.true_and]
theorem mulE_flag (x y : Bool × List Int) : (mulE x y).1 = (x.1 || y.1) := by
  obtain ⟨f, a⟩ := x
  obtain ⟨g, b⟩ := y
  cases f <;> cases g <;> rfl
/-- in which order: the words tell -/
theorem swap_eq {k : Kd8} {x y : Bool × List Int} (h : (nrm k (mulE x y)).2 = (nrm k (mulE y x)).2) : nrm k (mulE x y) = nrm k (mulE y x) := by
  refine Prod.ext ?_ h
  have e : pl k (mulE x y).2 = pl k (mulE y x).2 := h
  show nF k (mulE x y).1 (pl k (mulE x y).2) = nF k (mulE y x).1 (pl k (mulE y x).2)
  rw [e, mulE_flag, mulE_flag, Bool.or_comm]
theorem dec_pair (x y : Bool × List Int) : (decide (x.1 = y.1) && decide (x.2 = y.2)) = decide (x = y) := by
  rw [Bool.eq_iff_iff]
  simp [Prod.ext_iff]
theorem on_two (k : Kd8) {x y : Bool × List Int} (px : pl k x.2 = x.2) (py : pl k y.2 = y.2) (ms : List Int) :
    onE k (nrm k (mulE x y)).1 (nrm k (mulE x y)).2 ms = onE k y.1 y.2 (onE k x.1 x.2 ms) := by
  rw [on_nrm]
  obtain ⟨f, a⟩ := x
  obtain ⟨g, b⟩ := y
  cases g with
  | true => exact py
  | false =>
    cases f with
    | true => rfl
    | false =>
      show pl k (ms ++ (a ++ b)) = pl k (pl k (ms ++ a) ++ b)
      rw [pl_left, List.append_assoc]
theorem on_nil (k : Kd8) (w : Bool × List Int) : onE k (nrm k w).1 (nrm k w).2 [] = (nrm k w).2 := by
  rw [on_nrm]
  split
  · rfl
  · rfl
/-- an effect as a value -/
abbrev Ef (K : PySem.W.Frag) (H : Hp) (v : V) (e : Bool × List Int) : Prop := Dp K H v (eD e.1 e.2)
theorem isWd_ints (ns : List Int) : isWd isW (wD ns) = true := by
  show (ns.map PyData.int).all isW = true
  rw [List.all_eq_true]
  intro d hd
  obtain ⟨i, _, rfl⟩ := List.mem_map.mp hd
  exact isW_int i
end Kx

set_option Elab.async false
set_option linter.all false
set_option maxRecDepth 100000
set_option maxHeartbeats 4000000
/-! {e for a in x for b in y}, a set of ints out of two clauses without tests -/
namespace Kc
open PySem PySem.Spec PyProof.Rows L2 Lk
abbrev two (e t0 i0 t1 i1 : Expr) (sp : Scope) (ps : Pos) : Expr := .SetComp e [⟨t0, i0, [], 0⟩, ⟨t1, i1, [], 0⟩] sp ps
section
variable {P : Program} {w : World} {A : Around} {R : Result → Shared → Prop} {s : Shared} {e t0 i0 t1 i1 : Expr} {sp : Scope} {ps : Pos} {it ac : Value} {env : Env}
abbrev Er (P : Program) (w : World) (A : Around) (env : Env) (R : Result → Shared → Prop) : Value → Shared → Prop := notedBy (model P w) A env fun x s' => R (.error x) s'
theorem turn0 : compTurn (two e t0 i0 t1 i1 sp ps) 0 it ac env = (do
    standAt i0.pos
    match ← pyNext it with
    | none => pure (.done .next)
    | some v =>
      letOwnedTupleGo t0 it v
      assign t0 env v
      let y ← eval i1 env
      standAt i1.pos
      let y ← foldedSetIterable i1 env y
      let _ ← runOwn (.compStart (two e t0 i0 t1 i1 sp ps) 1 (← holding [y] (pyIter y)) ac env) env
      again (.compLoop (two e t0 i0 t1 i1 sp ps) 0 it ac env)) := by rfl
theorem turn1 : compTurn (two e t0 i0 t1 i1 sp ps) 1 it ac env = (do
    standAt i1.pos
    match ← pyNext it with
    | none => pure (.done .next)
    | some v =>
      letOwnedTupleGo t1 it v
      assign t1 env v
      (do let y ← eval e env; standAt e.pos; let _ ← call (.builtin "set.add") [ac, y])
      again (.compLoop (two e t0 i0 t1 i1 sp ps) 1 it ac env)) := by rfl
/-- what a turn of the outer loop has to show -/
def Go0 (P : Program) (w : World) (A : Around) (R : Result → Shared → Prop) (e t0 i0 t1 i1 : Expr) (sp : Scope) (ps : Pos) (it ac : Value) (env : Env) (N : Shared → Prop) (s : Shared) : Prop :=
  wpAny (model P w) A (pyNext it) (fun r s1 => match r with
    | none => R (.ok .next) s1
    | some v => wpAny (model P w) A (letOwnedTupleGo t0 it v) (fun _ s2 => wpAny (model P w) A (assign t0 env v) (fun _ s3 =>
        wpAny (model P w) A (eval i1 env) (fun x s4 => wpAny (model P w) A (pyIter x) (fun j s5 =>
          codeAny (model P w) A (.compStart (two e t0 i0 t1 i1 sp ps) 1 j ac env) (fun r s6 => match r with
            | .ok _ => N s6
            | .error _ => False) s5) (Er P w A env R) s4) (Er P w A env R) s3) (Er P w A env R) s2) (Er P w A env R) s1) (Er P w A env R) s
def Go1 (P : Program) (w : World) (A : Around) (R : Result → Shared → Prop) (e t1 : Expr) (it ac : Value) (env : Env) (N : Shared → Prop) (s : Shared) : Prop :=
  wpAny (model P w) A (pyNext it) (fun r s1 => match r with
    | none => R (.ok .next) s1
    | some v => wpAny (model P w) A (letOwnedTupleGo t1 it v) (fun _ s2 => wpAny (model P w) A (assign t1 env v) (fun _ s3 =>
        wpAny (model P w) A (eval e env) (fun x s4 => wpAny (model P w) A (call (.builtin "set.add") [ac, x]) (fun _ s5 => N s5) (Er P w A env R) s4) (Er P w A env R) s3) (Er P w A env R) s2) (Er P w A env R) s1) (Er P w A env R) s
theorem loop0 (hf : ∀ x, foldedSetIterable i1 env x = pure x) (I : Nat → Shared → Prop) (go : ∀ n s, I n s → Go0 P w A R e t0 i0 t1 i1 sp ps it ac env (fun s' => ∃ m, m < n ∧ I m s') s) (n : Nat) (h : I n s) :
    codeAny (model P w) A (.compLoop (two e t0 i0 t1 i1 sp ps) 0 it ac env) R s := by
  refine codeAny_loop rfl I (fun n s hI => ?_) n h
  show wpAny _ A (Sem.onRaise (compTurn (two e t0 i0 t1 i1 sp ps) 0 it ac env) (fun x => do noteFrame x env; theTreesLotGoes x)) _ _ s
  refine wpAny_noted ?_
  rw [turn0]
  refine wpAny_bind (wpAny_standAt (wpAny_bind (thn (go n s hI) fun r s1 k1 => ?_)))
  cases r with
  | none => exact wpAny_pure k1
  | some v =>
    refine wpAny_bind (thn k1 fun _ s2 k2 => wpAny_bind (thn k2 fun _ s3 k3 => wpAny_bind (thn k3 fun x s4 k4 => ?_)))
    refine wpAny_bind (wpAny_standAt (wpAny_bind (wpAny_of_eq (hf x) (wpAny_bind (wpAny_holding (thn k4 fun j s5 k5 => ?_))))))
    refine wpAny_bind (wpAny_runOwn ?_)
    rw [Around.mark_none]
    refine codeAny_mono k5 fun r s6 k6 => ?_
    cases r with
    | ok f => first | exact wpAny_pure ⟨rfl, k6⟩ | exact wpAny_bind (wpAny_pure (wpAny_pure ⟨rfl, k6⟩))
    | error x => exact k6.elim
theorem loop1 (I : Nat → Shared → Prop) (go : ∀ n s, I n s → Go1 P w A R e t1 it ac env (fun s' => ∃ m, m < n ∧ I m s') s) (n : Nat) (h : I n s) :
    codeAny (model P w) A (.compLoop (two e t0 i0 t1 i1 sp ps) 1 it ac env) R s := by
  refine codeAny_loop rfl I (fun n s hI => ?_) n h
  show wpAny _ A (Sem.onRaise (compTurn (two e t0 i0 t1 i1 sp ps) 1 it ac env) (fun x => do noteFrame x env; theTreesLotGoes x)) _ _ s
  refine wpAny_noted ?_
  rw [turn1]
  refine wpAny_bind (wpAny_standAt (wpAny_bind (thn (go n s hI) fun r s1 k1 => ?_)))
  cases r with
  | none => exact wpAny_pure k1
  | some v =>
    refine wpAny_bind (thn k1 fun _ s2 k2 => wpAny_bind (thn k2 fun _ s3 k3 => ?_))
    exact wpAny_bind (wpAny_bind (thn k3 fun x s4 k4 => wpAny_bind (wpAny_standAt (wpAny_bind (thn k4 fun _ s5 k5 => wpAny_pure (wpAny_pure ⟨rfl, k5⟩))))))
theorem begin1 (h0 : codeAny (model P w) A (.compLoop (two e t0 i0 t1 i1 sp ps) 1 it ac env) R s)
    (h : wpAny (model P w) A (pyIter it) (fun j s' => codeAny (model P w) A (.compLoop (two e t0 i0 t1 i1 sp ps) 1 j ac env) R s') (Er P w A env R) s) :
    codeAny (model P w) A (.compStart (two e t0 i0 t1 i1 sp ps) 1 it ac env) R s := by
  refine codeAny_of_tree ?_
  show wpAny _ _ (Sem.onRaise (compStart (two e t0 i0 t1 i1 sp ps) 1 it ac env) (fun x => do noteFrame x env; standAt theWindowsPlace)) _ _ s
  refine wpAny_notedAt ?_
  unfold compStart
  show wpAny _ _ (ask >>= _) _ _ s
  refine wpAny_bind (wpAny_askSetting (wpAny_ite ?_))
  split
  · first | exact wpAny_bind (wpAny_pure (wpAny_pure (And.intro rfl h0))) | exact wpAny_pure (And.intro rfl h0)
  · refine wpAny_bind (wpAny_rule ?_)
    show wpAny _ _ (standAt i1.pos >>= _) _ _ s
    exact wpAny_bind (wpAny_standAt (wpAny_bind (thn h fun j s' k => wpAny_pure (And.intro rfl k))))
end
section
variable {X : Cx}
/-- set.add(D, c), c an int -/
theorem add_int {pins : List (Addr × Obj)} {σ : L2.St} {H : Hp} {s : Shared} {E : Value → Shared → Prop} {D : Addr} {S : Int → Bool} {n : Nat} {c : Int} {u : Value} {Q : Value → Shared → Prop} (I : Inv X pins σ H s) (r : RelV (.int c) u)
    (hD : H D = some (SetO X.w D S n)) (room : n + 1 < scanBound) (h : ∀ s', Inv X pins σ (upd H D (SetO X.w D (fun j => S j || decide (j = c)) (if S c = true then n else n + 1))) s' → Q .none s') :
    wpAny (model X.prog X.w) X.A (call (.builtin "set.add") [.ref D, u]) Q E s := by
  obtain ⟨tk, rfl⟩ := r
  refine setR_add (setO_get I hD) room fun h' sb new => ?_
  refine h _ (I.write (e := D) (t' := s.toks + 1) (by rw [hD]; trivial) (.inl rfl) (fun b u hb hu => (sb.2 b hb).trans hu) ?_ (setO_new new))
  obtain ⟨o, _, _, _, ho, _⟩ := new
  exact ⟨o, ho⟩
/-- the reading: W, W1 for the two loops, Nx what leads on to the next turn of the outer one -/
def In1 (w : World) (g1 : TG) (te : TE) (vs1 : List Nat) (D : Addr) (Nx : Hp → Prop) (σ2 : L2.St) (J : It) (H4 : Hp) : Prop :=
  ∃ W1 : Nat → Nat → Hp → Prop, (∃ m, W1 0 m H4) ∧ ∀ j k H, W1 j k H → (J.stop j H ∧ Nx H) ∨ (J.go j H ∧ ∃ N1 : Hp → Prop, (∀ H', N1 H' → ∃ k', k' < k ∧ W1 (j + 1) k' H') ∧
    ∀ x H', J.yld j H x H' → g1 x (wipe σ2 vs1) H' fun σ3 H5 => wipe σ3 vs1 = wipe σ2 vs1 ∧ te σ3 H5 fun y H7 => ∃ (c : Int) (S : Int → Bool) (n : Nat), y = .int c ∧ H7 D = some (SetO w D S n) ∧ n + 1 < scanBound ∧
      N1 (upd H7 D (SetO w D (fun j => S j || decide (j = c)) (if S c = true then n else n + 1))))
def tSc2 (w : World) (wi : TI) (g : TG) (wi1 : TI) (g1 : TG) (te : TE) (vs vs1 : List Nat) : TE := fun σ H Q => wi σ H fun J H1 => ∀ D, H1 D = none →
  ∃ W : Nat → Nat → Hp → Prop, (∃ m, W 0 m (upd H1 D (SetO w D (fun _ => false) 0))) ∧ ∀ i m H, W i m H → (J.stop i H ∧ Q (.ref D) H) ∨ (J.go i H ∧ ∃ Nx : Hp → Prop, (∀ H', Nx H' → ∃ m', m' < m ∧ W (i + 1) m' H') ∧
    ∀ x H', J.yld i H x H' → g x (wipe σ vs) H' fun σ2 H2 => wipe σ2 vs = wipe σ vs ∧ wi1 σ2 H2 fun J1 H4 => In1 w g1 te vs1 D Nx σ2 J1 H4)
theorem core {pins : List (Addr × Obj)} {s : Shared} {σ : L2.St} {H : Hp} {Q : VK} {e t0 i0 t1 i1 : Expr} {sp : Scope} {own : List (PySem.Str × Nat)} {vs1 : List Nat} {ps ps' : Pos} {wi wi1 : TI} {g g1 : TG} {te : TE} {use : Option (Value → Sem Unit)} {Qf : Value → Shared → Prop}
    (hc : X.calm = true) (hN : X.N.Nodup) (I : Inv X pins σ H s) (hi : PI X t0 i0 wi) (ok : BlkOk X.N X.env.scope sp own) (hv : ∀ i ∈ vs1, i ∈ own.map (·.2)) (hg : ∀ (s : Shared) (H : Hp) (C : Addr) (cl : List (PySem.Str × Addr)) (fp : List Addr), PG (X.blk s H sp (compEnvC sp cl C X.env) fp) t0 g) (hi1 : ∀ (s : Shared) (H : Hp) (C : Addr) (cl : List (PySem.Str × Addr)) (fp : List Addr), PI (X.blk s H sp (compEnvC sp cl C X.env) fp) t1 i1 wi1)
    (hg1 : ∀ (s : Shared) (H : Hp) (C : Addr) (cl : List (PySem.Str × Addr)) (fp : List Addr), PG (X.blk s H sp (compEnvC sp cl C X.env) fp) t1 g1) (he : ∀ (s : Shared) (H : Hp) (C : Addr) (cl : List (PySem.Str × Addr)) (fp : List Addr), PE (X.blk s H sp (compEnvC sp cl C X.env) fp) e te) (f0 : ∀ x, foldedSetIterable i0 X.env x = pure x) (f1 : ∀ env x, foldedSetIterable i1 env x = pure x) (h : tSc2 X.w wi g wi1 g1 te (own.map (·.2)) vs1 σ H Q)
    (out : ∀ D C s' m H', Inv X pins σ H' s' → Q (.ref D) H' → s'.heap.Ns C m → FpOk X pins H' C → compPost (model X.prog X.w) X.A X.xe use Qf (.ref D) C (.ok .next) s') :
    wpAny (model X.prog X.w) X.A (comprehension (two e t0 i0 t1 i1 sp ps) sp X.env ps' (newSet (.type "set")) false (eval i0 X.env) use) Qf X.xe s := by
  have free : ∀ y ∈ sp.names, y.2 = .free → ∃ c, X.env.cells.lookup y.1 = some c := fun y hy z => (ok.free y hy z).elim (fun k => I.ok.has _ (.inl k)) fun k => I.ok.has _ (.inr k)
  refine wpAny_comprehension_free (use := use) rfl f0 (closure_ok free) ok.kind (fun y hy z => by rw [ok.uniq y hy, z]) (thn (hi.run pins s σ H _ I h) fun xv s1 hx => thn hx fun itv s2 h2 => ?_)
  obtain ⟨it, fp, tn, J, H2, ez, I2, T, a2, b2, q⟩ := h2
  subst ez
  refine PpSet.newSet_ok (newEnv_comp ?_)
  generalize hD : s2.heap.objs.size = D
  obtain ⟨W, ⟨m0, w0⟩, turn⟩ := q D (I2.hok.fresh (Nat.le_of_eq hD))
  -- behind the making of the empty set
  generalize es3 : ({ s2 with heap := s2.heap.push { cls := .type "set", dict := none, data := .set #[] 0 (.fresh 0 0 (!X.w.params.followText "set-order")) } } : Shared) = s3
  have h3 : s3.heap = s2.heap.push { cls := .type "set", dict := none, data := .set #[] 0 (.fresh 0 0 (!X.w.params.followText "set-order")) } := by rw [← es3]
  have I3 : Inv X pins σ (upd H2 D (SetO X.w D (fun _ => false) 0)) s3 := by
    rw [← es3]
    refine I2.laid (t' := s2.toks) (fun b o z => Heap.get?_push_of_some _ z) (Nat.le_of_eq hD) ?_
    rw [← hD]
    refine setO_new ?_
    exact ⟨_, #[], 0, _, Heap.get?_push_size _ rfl, ⟨rfl, rfl, rfl⟩, rfl, (fun e he => by simp at he), (by simp), (fun k => by simp), (by decide), (by rfl), rfl, List.Pairwise.nil, by
      show _ ∨ (!X.w.params.followText "set-order") = true
      cases X.w.params.followText "set-order" <;> simp⟩
  have b3 : ∀ b ∈ fp, FpOk X pins (upd H2 D (SetO X.w D (fun _ => false) 0)) b ∧ b < s3.heap.objs.size := fun b hb => by
    obtain ⟨o, z, _⟩ := T.obj _ _ a2 b hb
    have lt := Heap.lt_size z
    refine ⟨⟨?_, (b2 b hb).2⟩, by rw [h3, Heap.size_push]; exact Nat.lt_succ_of_lt lt⟩
    rw [upd_ne (by rw [← hD]; exact Nat.ne_of_lt lt)]
    exact (b2 b hb).1
  have a3 : tn 0 s3.heap := T.keep _ _ _ a2 fun b _ o z => by rw [h3]; exact Heap.get?_push_of_some _ z
  have I4 := block_start I3 ok hN b3
  generalize ecl : cellsFrom (s3.heap.objs.size + 1) sp.names (cloFrom X.env.cells sp.names []) = cl at I4
  have pg := hg s3 (upd H2 D (SetO X.w D (fun _ => false) 0)) s3.heap.objs.size cl fp
  have pe := he s3 (upd H2 D (SetO X.w D (fun _ => false) 0)) s3.heap.objs.size cl fp
  have pi1 := hi1 s3 (upd H2 D (SetO X.w D (fun _ => false) 0)) s3.heap.objs.size cl fp
  have pg1 := hg1 s3 (upd H2 D (SetO X.w D (fun _ => false) 0)) s3.heap.objs.size cl fp
  have nfp : ∀ b ∈ fp, (upd H2 D (SetO X.w D (fun _ => false) 0)) b = none := fun b hb => (b3 b hb).1.1
  show codeAny _ _ (.compStart (two e t0 i0 t1 i1 sp ps) 0 (.ref it) (.ref D) (compEnvC sp cl s3.heap.objs.size X.env)) (compPost (model X.prog X.w) X.A X.xe use Qf (.ref D) s3.heap.objs.size) { s3 with heap := pushCells (s3.heap.push { cls := .type "dict", data := .dict #[] }) sp.names }
  generalize ece : compEnvC sp cl s3.heap.objs.size X.env = ce at I4 pg pe pi1 pg1 ⊢
  have cL : ce.locals = s3.heap.objs.size := by subst ece; rfl
  generalize eH3 : upd H2 D (SetO X.w D (fun _ => false) 0) = H3 at I3 I4 pg pe pi1 pg1 w0 nfp b3
  generalize es4 : ({ s3 with heap := pushCells (s3.heap.push { cls := .type "dict", data := .dict #[] }) sp.names } : Shared) = s4 at I4 ⊢
  have a4 : tn 0 s4.heap := T.keep _ _ _ a3 fun b _ o z => by rw [← es4]; exact pushCells_keeps _ _ _ _ (Heap.get?_push_of_some _ z)
  have own0 : ∀ {σ' : L2.St} {H' : Hp} {s' : Shared}, Inv (X.blk s3 H3 sp ce fp) [] σ' H' s' → (∀ b ∈ fp, H' b = none) → ∀ b ∈ fp, FpOk (X.blk s3 H3 sp ce fp) [] H' b := fun I' hn b hb =>
    ⟨hn b hb, (I'.ok.exf b hb).1, I'.ok.exfs b hb, .inl hb, fun x c z => (I'.ok.exf b hb).2 x c z, fun p hp => absurd hp (by simp)⟩
  -- between two turns of the outer loop
  let M : Nat → Shared → Prop := fun n s' => ∃ i H', Inv (X.blk s3 H3 sp ce fp) [] (wipe σ (own.map (·.2))) H' s' ∧ tn i s'.heap ∧ (∀ b ∈ fp, H' b = none) ∧ W i n H'
  have outer : codeAny (model X.prog X.w) X.A (.compLoop (two e t0 i0 t1 i1 sp ps) 0 (.ref it) (.ref D) ce) (compPost (model X.prog X.w) X.A X.xe use Qf (.ref D) s3.heap.objs.size) s4 := by
    refine loop0 (f1 ce) M ?_ m0 ⟨0, H3, I4, a4, nfp, w0⟩
    rintro n s5 ⟨i, H5, I5, a5, n5, w5⟩
    unfold Go0
    rcases turn i n H5 w5 with ⟨stop, qq⟩ | ⟨go, Nx, hNx, step⟩
    · refine thnF (T.done (X.blk s3 H3 sp ce fp) rfl rfl rfl hc i [] s5 _ H5 (fun _ _ => False) I5 (own0 I5 n5) a5 stop) fun r s6 ⟨hr, I6⟩ => ?_
      cases hr
      have nC : H5 s3.heap.objs.size = none := cL ▸ (show H5 ce.locals = none from I6.free)
      obtain ⟨m, hm, _⟩ := I6.loc
      have hm : s6.heap.Ns s3.heap.objs.size m := cL ▸ (show s6.heap.Ns ce.locals m from hm)
      refine out D s3.heap.objs.size s6 m H5 ?_ qq hm (I3.fpOk (Nat.le_refl _) nC)
      refine I3.call' (ch := fp) I6.os I6.base I6.hok I6.bare fun b hb => ?_
      obtain ⟨⟨_, x1, x2, x3, x4⟩, _⟩ := b3 b hb
      exact ⟨x3, x1, x4.1, x4.2⟩
    · refine thnF (T.item (X.blk s3 H3 sp ce fp) rfl rfl rfl hc i [] s5 _ H5 (fun _ _ => False) I5 (own0 I5 n5) a5 go) fun r s6 ⟨u, hr, h6⟩ => ?_
      subst hr
      refine thnF h6 fun _ s7 ⟨x, H7, I7, r7, y7, a7, n7⟩ => ?_
      refine thnF (pg.run _ s7 _ H7 x u _ (I7.pinned (own0 I7 n7) (T.obj _ _ a7)) r7 (step x H7 y7)) fun _ s8 ⟨σ8, H8, I8, hw8, q8⟩ => ?_
      have len8 : (wipe σ (own.map (·.2))).length = (wipe σ8 vs1).length := by rw [← hw8, wipe_length, wipe_length]
      have kept8 : ∀ (j : Nat) v, (wipe σ (own.map (·.2)))[j]? = some (some v) → (wipe σ8 vs1)[j]? = some (some v) := fun j v z => by
        rw [← hw8] at z
        rw [wipe_out fun m => (wipe_some z).2 (hv j m)]
        exact (wipe_some z).1
      -- the outer turn ends
      have end0 : ∀ {s' : Shared} {H' : Hp}, Inv (X.blk s3 H3 sp ce fp) ([] ++ pinsAt fp s7.heap) (wipe σ8 vs1) H' s' → Nx H' → ∃ m, m < n ∧ M m s' := fun {s' H'} I' nx => by
        obtain ⟨m', hm, w'⟩ := hNx H' nx
        have pin : ∀ b ∈ fp, ∀ o, s7.heap.get? b = some o → s'.heap.get? b = some o ∧ H' b = none := fun b hb o z => by
          have y := I'.pin (b, o) (List.mem_append_right _ (List.mem_append_right _ (mem_pinsAt hb z)))
          exact ⟨y.1, y.2.1⟩
        refine ⟨m', hm, i + 1, H', (I'.unpinned (pins := [])).weak len8 kept8, T.keep _ _ _ a7 fun b hb o z => (pin b hb o z).1, fun b hb => ?_, w'⟩
        obtain ⟨o, z, _⟩ := T.obj _ _ a7 b hb
        exact (pin b hb o z).2
      refine thnF (pi1.run _ s8 σ8 H8 _ I8 q8) fun xv s10 hx => thnF hx fun itv s11 h11 => ?_
      obtain ⟨it1, fp1, tn1, J1, H11, z1, I11, T1, a11, b11, W1, ⟨m1, w1⟩, turn1⟩ := h11
      subst z1
      have own1 : ∀ {H' : Hp}, (∀ b ∈ fp1, H' b = none) → ∀ b ∈ fp1, FpOk (X.blk s3 H3 sp ce fp) ([] ++ pinsAt fp s7.heap) H' b := fun hn b hb => ⟨hn b hb, (b11 b hb).2⟩
      -- between two turns of the inner loop
      let M1 : Nat → Shared → Prop := fun k s' => ∃ j H', Inv (X.blk s3 H3 sp ce fp) ([] ++ pinsAt fp s7.heap) (wipe σ8 vs1) H' s' ∧ tn1 j s'.heap ∧ (∀ b ∈ fp1, H' b = none) ∧ W1 j k H'
      have inner : codeAny (model X.prog X.w) X.A (.compLoop (two e t0 i0 t1 i1 sp ps) 1 (.ref it1) (.ref D) ce) (fun r s' => match r with
          | .ok _ => ∃ m, m < n ∧ M m s'
          | .error _ => False) s11 := by
        refine loop1 M1 ?_ m1 ⟨0, H11, I11.weak (wipe_length _ _) (fun j v z => (wipe_some z).1), a11, fun b hb => (b11 b hb).1, w1⟩
        rintro k s12 ⟨j, H12, I12, a12, n12, w12⟩
        unfold Go1
        rcases turn1 j k H12 w12 with ⟨stop1, nx1⟩ | ⟨go1, N1, hN1, step1⟩
        · refine thnF (T1.done (X.blk s3 H3 sp ce fp) rfl rfl rfl hc j _ s12 (wipe σ8 vs1) H12 (fun _ _ => False) I12 (own1 n12) a12 stop1) fun r s13 ⟨hr, I13⟩ => ?_
          cases hr
          exact end0 I13 nx1
        · refine thnF (T1.item (X.blk s3 H3 sp ce fp) rfl rfl rfl hc j _ s12 (wipe σ8 vs1) H12 (fun _ _ => False) I12 (own1 n12) a12 go1) fun r s13 ⟨u1, hr, h13⟩ => ?_
          subst hr
          refine thnF h13 fun _ s14 ⟨x1, H14, I14, r14, y14, a14, n14⟩ => ?_
          refine thnF (pg1.run _ s14 (wipe σ8 vs1) H14 x1 u1 _ (I14.pinned (own1 n14) (T1.obj _ _ a14)) r14 (step1 x1 H14 y14)) fun _ s15 ⟨σ15, H15, I15, hw15, q15⟩ => ?_
          refine thnF (pe.run _ s15 σ15 H15 _ I15 q15) fun z s17 ⟨yv, H17, I17, r17, c, S, nn, ey, hD17, room, nx⟩ => ?_
          subst ey
          refine add_int (X := X.blk s3 H3 sp ce fp) I17 r17 hD17 room fun s18 I18 => ?_
          obtain ⟨m', hm, w'⟩ := hN1 _ nx
          have pin : ∀ b ∈ fp1, ∀ o, s14.heap.get? b = some o → s18.heap.get? b = some o ∧ _ = none := fun b hb o z => by
            have y := I18.pin (b, o) (List.mem_append_right _ (List.mem_append_right _ (mem_pinsAt hb z)))
            exact ⟨y.1, y.2.1⟩
          refine ⟨m', hm, j + 1, _, I18.unpinned.weak (by rw [← hw15, wipe_length]) (fun j v z => by rw [← hw15] at z; exact (wipe_some z).1), T1.keep _ _ _ a14 fun b hb o z => (pin b hb o z).1, fun b hb => ?_, w'⟩
          obtain ⟨o, z, _⟩ := T1.obj _ _ a14 b hb
          exact (pin b hb o z).2
      exact begin1 inner (T1.self X.A 0 _ _ _ a11 inner)
  exact PpSet.codeAny_compStart_set outer (T.self X.A 0 _ _ _ a4 outer)
/-- as a value -/
theorem pe_sc2 {e t0 i0 t1 i1 : Expr} {sp : Scope} {own : List (PySem.Str × Nat)} {vs1 : List Nat} {ps : Pos} {wi wi1 : TI} {g g1 : TG} {te : TE} (hc : X.calm = true) (hN : X.N.Nodup) (hi : PI X t0 i0 wi) (ok : BlkOk X.N X.env.scope sp own) (hv : ∀ i ∈ vs1, i ∈ own.map (·.2))
    (hg : ∀ (s : Shared) (H : Hp) (C : Addr) (cl : List (PySem.Str × Addr)) (fp : List Addr), PG (X.blk s H sp (compEnvC sp cl C X.env) fp) t0 g) (hi1 : ∀ (s : Shared) (H : Hp) (C : Addr) (cl : List (PySem.Str × Addr)) (fp : List Addr), PI (X.blk s H sp (compEnvC sp cl C X.env) fp) t1 i1 wi1) (hg1 : ∀ (s : Shared) (H : Hp) (C : Addr) (cl : List (PySem.Str × Addr)) (fp : List Addr), PG (X.blk s H sp (compEnvC sp cl C X.env) fp) t1 g1) (he : ∀ (s : Shared) (H : Hp) (C : Addr) (cl : List (PySem.Str × Addr)) (fp : List Addr), PE (X.blk s H sp (compEnvC sp cl C X.env) fp) e te) (f0 : ∀ x, foldedSetIterable i0 X.env x = pure x := by intro _; rfl) (f1 : ∀ env x, foldedSetIterable i1 env x = pure x := by intro _ _; rfl) :
    PE X (two e t0 i0 t1 i1 sp ps) (tSc2 X.w wi g wi1 g1 te (own.map (·.2)) vs1) := by
  refine ⟨fun pins s σ H Q I h => ?_⟩
  rw [PpSet.eval_SetComp]
  refine core hc hN I hi ok hv hg hi1 hg1 he f0 f1 h fun D C s' m H' I' q hn f => ⟨m, hn, fun h'' sb => ⟨.ref D, H', ?_, rfl, q⟩⟩
  obtain ⟨x0, x1, x2, x3, x4, x5⟩ := f
  exact I'.turned (t' := s'.toks) (fun b o hb z => (sb.2 b hb).trans z) x0 x1 x3 x4 x5
/-- y = {..}, y a local name -/
theorem ps_setSc2 {i : Nat} {y : PySem.Str} {py : Pos} {e t0 i0 t1 i1 : Expr} {sp : Scope} {own : List (PySem.Str × Nat)} {vs1 : List Nat} {ps spos : Pos} {wi wi1 : TI} {g g1 : TG} {te : TE} (hc : X.calm = true) (hN : X.N.Nodup) (hy : X.N[i]? = some y) (hyl : X.env.scope.names.lookup y = some .local)
    (hsw : swapsWith (two e t0 i0 t1 i1 sp ps) (some (.Name y py)) spos.line X.env = pure true) (hi : PI X t0 i0 wi) (ok : BlkOk X.N X.env.scope sp own) (hv : ∀ i ∈ vs1, i ∈ own.map (·.2))
    (hg : ∀ (s : Shared) (H : Hp) (C : Addr) (cl : List (PySem.Str × Addr)) (fp : List Addr), PG (X.blk s H sp (compEnvC sp cl C X.env) fp) t0 g) (hi1 : ∀ (s : Shared) (H : Hp) (C : Addr) (cl : List (PySem.Str × Addr)) (fp : List Addr), PI (X.blk s H sp (compEnvC sp cl C X.env) fp) t1 i1 wi1) (hg1 : ∀ (s : Shared) (H : Hp) (C : Addr) (cl : List (PySem.Str × Addr)) (fp : List Addr), PG (X.blk s H sp (compEnvC sp cl C X.env) fp) t1 g1) (he : ∀ (s : Shared) (H : Hp) (C : Addr) (cl : List (PySem.Str × Addr)) (fp : List Addr), PE (X.blk s H sp (compEnvC sp cl C X.env) fp) e te) (f0 : ∀ x, foldedSetIterable i0 X.env x = pure x := by intro _; rfl) (f1 : ∀ env x, foldedSetIterable i1 env x = pure x := by intro _ _; rfl) :
    PS X (.Assign [.Name y py] (two e t0 i0 t1 i1 sp ps) spos) (tAsg (tSc2 X.w wi g wi1 g1 te (own.map (·.2)) vs1) (gName i)) := by
  refine ⟨fun pins s σ H D I h => ?_⟩
  rw [exec_Assign_Name_used _ _ _ _ hsw]
  refine wpAny_bind (wpAny_standAt (wpAny_bind ?_))
  show wpAny _ X.A (do let _ ← comprehension (two e t0 i0 t1 i1 sp ps) sp X.env (firstIterPos [⟨t0, i0, [], 0⟩, ⟨t1, i1, [], 0⟩] ps) (newSet (.type "set")) false (eval i0 X.env) (some (assign (.Name y py) X.env))) _ _ s
  have h : tSc2 X.w wi g wi1 g1 te (own.map (·.2)) vs1 σ H (fun x H1 => gName i x σ H1 D.nx) := h
  refine wpAny_bind (thn (core (Qf := fun _ s' => SP X pins D .next s') hc hN I hi ok hv hg hi1 hg1 he f0 f1 h fun L C s' m H' I' q hn f => ?_) fun _ s' hq => wpAny_pure (wpAny_pure hq))
  show wpAny _ _ (assign (.Name y py) X.env (.ref L)) _ _ _
  refine wpAny_assign_Name (store_ok2 (v := V.ref L) I' hN hy (.inl hyl) rfl (fun s2 I2 ⟨a, sb, ha⟩ => ?_) (.inr hyl))
  obtain ⟨x0, x1, x2, x3, x4, x5⟩ := f
  have ne : C ≠ a := ha.elim (fun z => by rw [z]; exact x1) fun z k => x4 y a z k.symm
  exact ⟨m, hn.sameBut sb ne, fun h3 sb3 => ⟨_, H', I2.turned (t' := s2.toks) (fun b o hb z => (sb3.2 b hb).trans z) x0 x1 x3 x4 x5, q⟩⟩
end
/-- a set comprehension that is stored at once -/
theorem sw_set {e : Expr} {gs : List Comprehension} {sp : Scope} {ps py : Pos} {y : PySem.Str} {l : Nat} {env : Env} (hk : env.scope.kind = .function) (hy : env.scope.names.lookup y = some .local) (hl : (py.line == ps.line) = true)
    (ha : (sp.names.any fun (n, k) => n == y && (k == .local || k == .cell)) = false) : swapsWith (.SetComp e gs sp ps) (some (.Name y py)) l env = pure true := by
  have hb : env.blockKind = .function := by unfold Env.blockKind; rw [hk] <;> rfl
  unfold swapsWith
  simp only [hb, show env.kindOf y = some .local from hy, ha, Expr.pos, hl]
  rfl
/-- both clauses over tuples -/
theorem sc2_tup {w : World} {K : PySem.W.Frag} {a : Addr} {xs : List V} {g g1 : TG} {wi1 : TI} {te : TE} {vs vs1 : List Nat} {σ : L2.St} {H1 : Hp} {D : Addr} {Qd : Hp → Prop} (Pv : Nat → Hp → Prop) (h0 : Pv 0 (upd H1 D (SetO w D (fun _ => false) 0)))
    (hl : ∀ i H, i ≤ xs.length → Pv i H → SqT K H a xs) (hd : ∀ H, Pv xs.length H → Qd H) (hs : ∀ i x H, xs[i]? = some x → Pv i H → g x (wipe σ vs) H fun σ2 H2 => wipe σ2 vs = wipe σ vs ∧ wi1 σ2 H2 fun J1 H4 => In1 w g1 te vs1 D (Pv (i + 1)) σ2 J1 H4) :
    ∃ W : Nat → Nat → Hp → Prop, (∃ m, W 0 m (upd H1 D (SetO w D (fun _ => false) 0))) ∧ ∀ i m H, W i m H → ((Itt K a).stop i H ∧ Qd H) ∨ ((Itt K a).go i H ∧ ∃ Nx : Hp → Prop, (∀ H', Nx H' → ∃ m', m' < m ∧ W (i + 1) m' H') ∧
      ∀ x H', (Itt K a).yld i H x H' → g x (wipe σ vs) H' fun σ2 H2 => wipe σ2 vs = wipe σ vs ∧ wi1 σ2 H2 fun J1 H4 => In1 w g1 te vs1 D Nx σ2 J1 H4) := by
  refine ⟨fun i m H => m = xs.length - i ∧ i ≤ xs.length ∧ Pv i H, ⟨xs.length, rfl, Nat.zero_le _, h0⟩, fun i m H ⟨em, hi, p⟩ => ?_⟩
  subst em
  have q := hl i H hi p
  rcases Nat.lt_or_ge i xs.length with lt | ge
  · refine .inr ⟨⟨xs, xs[i], q, by simp [lt]⟩, Pv (i + 1), fun H' p' => ⟨xs.length - (i + 1), by omega, rfl, lt, p'⟩, ?_⟩
    rintro x H' ⟨rfl, y⟩
    exact hs i x _ (y xs q) p
  · have ei : i = xs.length := by omega
    subst ei
    exact .inl ⟨⟨xs, q, Nat.le_refl _⟩, hd H p⟩
theorem in1_tup {w : World} {K : PySem.W.Frag} {a : Addr} {xs : List V} {g1 : TG} {te : TE} {vs1 : List Nat} {σ2 : L2.St} {H4 : Hp} {D : Addr} {Nx : Hp → Prop} (Pv : Nat → Hp → Prop) (h0 : Pv 0 H4) (hl : ∀ i H, i ≤ xs.length → Pv i H → SqT K H a xs) (hd : ∀ H, Pv xs.length H → Nx H)
    (hs : ∀ i x H, xs[i]? = some x → Pv i H → g1 x (wipe σ2 vs1) H fun σ3 H5 => wipe σ3 vs1 = wipe σ2 vs1 ∧ te σ3 H5 fun y H7 => ∃ (c : Int) (S : Int → Bool) (n : Nat), y = .int c ∧ H7 D = some (SetO w D S n) ∧ n + 1 < scanBound ∧
      Pv (i + 1) (upd H7 D (SetO w D (fun j => S j || decide (j = c)) (if S c = true then n else n + 1)))) : In1 w g1 te vs1 D Nx σ2 (Itt K a) H4 := by
  refine ⟨fun i m H => m = xs.length - i ∧ i ≤ xs.length ∧ Pv i H, ⟨xs.length, rfl, Nat.zero_le _, h0⟩, fun i m H ⟨em, hi, p⟩ => ?_⟩
  subst em
  have q := hl i H hi p
  rcases Nat.lt_or_ge i xs.length with lt | ge
  · refine .inr ⟨⟨xs, xs[i], q, by simp [lt]⟩, Pv (i + 1), fun H' p' => ⟨xs.length - (i + 1), by omega, rfl, lt, p'⟩, ?_⟩
    rintro x H' ⟨rfl, y⟩
    exact hs i x _ (y xs q) p
  · have ei : i = xs.length := by omega
    subst ei
    exact .inl ⟨⟨xs, q, Nat.le_refl _⟩, hd H p⟩
/-! ### the least letter that a word lacks -/
def frI (ns : List Int) : Nat → Nat
  | 0 => 0
  | i + 1 => if (frI ns i : Int) ∈ ns then frI ns i + 1 else frI ns i
def fr (ns : List Int) : Int := (frI ns ns.length : Nat)
theorem holes : ∀ (n : Nat) (ns : List Int), (∀ j : Nat, j < n → (j : Int) ∈ ns) → n ≤ ns.length
  | 0, _, _ => Nat.zero_le _
  | n + 1, ns, h => by
    have m := h n (Nat.lt_succ_self n)
    have z := holes n (ns.erase (n : Int)) fun j hj => (List.mem_erase_of_ne (by omega)).mpr (h j (by omega))
    rw [List.length_erase_of_mem m] at z
    have := List.length_pos_of_mem m
    omega
/-- as far as all smaller ones are there, one step leads one on -/
theorem frI_up {ns : List Int} : ∀ i : Nat, (∀ j : Nat, j < i → (j : Int) ∈ ns) → frI ns i = i
  | 0, _ => rfl
  | i + 1, h => by
    have e := frI_up i fun j hj => h j (by omega)
    show (if (frI ns i : Int) ∈ ns then frI ns i + 1 else frI ns i) = _
    rw [e, if_pos (h i (Nat.lt_succ_self i))]
theorem frI_stay {ns : List Int} {i : Nat} (h : ¬ (frI ns i : Int) ∈ ns) : ∀ k : Nat, frI ns (i + k) = frI ns i
  | 0 => rfl
  | k + 1 => by
    have e := frI_stay h k
    show (if (frI ns (i + k) : Int) ∈ ns then frI ns (i + k) + 1 else frI ns (i + k)) = _
    rw [e, if_neg h]
theorem fr_of {ns : List Int} {i : Nat} (h : ∀ j : Nat, j < i → (j : Int) ∈ ns) (hi : ¬ (i : Int) ∈ ns) : fr ns = i := by
  have e := frI_up i h
  have le := holes i ns h
  have z := frI_stay (ns := ns) (i := i) (by rw [e]; exact hi) (ns.length - i)
  rw [show i + (ns.length - i) = ns.length by omega, e] at z
  unfold fr
  rw [z]
theorem fr_not (ns : List Int) : ¬ fr ns ∈ ns := by
  have key : ∀ n : Nat, (∀ j : Nat, j < n → (j : Int) ∈ ns) ∨ ∃ i, (∀ j : Nat, j < i → (j : Int) ∈ ns) ∧ ¬ (i : Int) ∈ ns := fun n => by
    induction n with
    | zero => exact .inl fun j h => absurd h (Nat.not_lt_zero _)
    | succ n ih =>
      rcases ih with h | h
      · by_cases q : (n : Int) ∈ ns
        · exact .inl fun j hj => (Nat.lt_succ_iff_lt_or_eq.mp hj).elim (h j) fun e => by rw [e]; exact q
        · exact .inr ⟨n, h, q⟩
      · exact .inr h
  rcases key (ns.length + 1) with h | ⟨i, h, q⟩
  · have := holes _ _ h
    omega
  · rw [fr_of h q]
    exact q
theorem fr_nn (ns : List Int) : 0 ≤ fr ns := Int.natCast_nonneg _
theorem frI_le (ns : List Int) : ∀ i : Nat, frI ns i ≤ i
  | 0 => Nat.le_refl _
  | i + 1 => by
    have := frI_le ns i
    show (if (frI ns i : Int) ∈ ns then frI ns i + 1 else frI ns i) ≤ _
    split <;> omega
/-- same letters: same least one that lacks -/
theorem fr_congr {a b : List Int} (h : ∀ x, x ∈ a ↔ x ∈ b) : fr a = fr b := by
  have up : ∀ n : Nat, n ≤ frI a a.length → ∀ j : Nat, j < n → (j : Int) ∈ a := fun n hn j hj => by
    refine Classical.byContradiction fun c => ?_
    have ex : ∃ i, i ≤ j ∧ (∀ k : Nat, k < i → (k : Int) ∈ a) ∧ ¬ (i : Int) ∈ a := by
      clear hn hj
      induction j using Nat.strongRecOn with
      | _ j ih =>
        by_cases q : ∀ k : Nat, k < j → (k : Int) ∈ a
        · exact ⟨j, Nat.le_refl _, q, c⟩
        · have ⟨k, hk, hc⟩ : ∃ k, k < j ∧ ¬ (k : Int) ∈ a := Classical.byContradiction fun z => q fun k hk => Classical.byContradiction fun y => z ⟨k, hk, y⟩
          obtain ⟨i, h1, h2, h3⟩ := ih k hk hc
          exact ⟨i, by omega, h2, h3⟩
    obtain ⟨i, h1, h2, h3⟩ := ex
    have z := fr_of h2 h3
    unfold fr at z
    omega
  have e : fr b = (frI a a.length : Nat) := fr_of (fun j hj => (h _).mp (up _ (Nat.le_refl _) j hj)) fun c => fr_not a ((h _).mpr c)
  rw [e] <;> rfl
/-- what is walked, in a block -/
theorem piTK {X : Cx} {K : PySem.W.Frag} {tg e : Expr} {te : TE} (h : X.K = K) (he : PE X e te) : PI X tg e (iTup K te) := by subst h; exact pi_tup he
theorem piLK {X : Cx} {K : PySem.W.Frag} {tg e : Expr} {te : TE} (h : X.K = K) (he : PE X e te) : PI X tg e (iList K te) := by subst h; exact pi_list he
/-- the int in a slot -/
def slotN (σ : L2.St) (i : Nat) : Nat := match σ[i]? with
  | some (some (L2.V.int k)) => k.toNat
  | _ => 0
theorem frI_in {ns : List Int} {i : Nat} (h : (frI ns i : Int) ∈ ns) : frI ns (i + 1) = frI ns i + 1 := if_pos h
theorem frI_out {ns : List Int} {i : Nat} (h : ¬ (frI ns i : Int) ∈ ns) : frI ns (i + 1) = frI ns i := if_neg h
end Kc

set_option Elab.async false
set_option linter.all false
set_option maxRecDepth 100000
set_option maxHeartbeats 4000000
/-! star parameters and exceptions: a def f(a, .., *v) that may raise; its call within a try; a raise that goes through a def -/
namespace Kd
open PySem PySem.Spec PyProof.Rows L2 Lk StX
section
variable {P : Program} {w : World} {K : PySem.W.Frag} {mg : Str → Option Value} {base : Heap} {x : Str} {st : Stmt} {f : Addr} {fd : FuncData} {N ps : List Str} {pv : Str} {k : Nat} {sp : Sp}
theorem okSX (F : Hk.Fn K x st [] f fd) (S : FnScope N (ps ++ [pv]) (defScope st))
    (hb : ∀ (kV doc pm : Value) (an : Option Addr) (cdv ct : Value) (us rest : List Value), us.length = ps.length → bindArgs (PySem.W.fnOf x x (defArgs st) (defBody st) (defScope st) .none kV doc pm an cdv ct) ⟨us ++ rest, []⟩ = (newTuple rest >>= fun t => pure (ps.zip us ++ [(pv, t)])))
    (hbody : ∀ (cdv : Value) (A : Around) (outer : List Env) (s : Shared) (H : Hp) (vs : List V) (Q : VK) (E : XK), Room k (A.deeper (envOfC x (defScope st) s.heap.objs.size f cdv)) → sp vs H Q E →
      ∃ t, PSs (cxOf (L2.CX P w) P w K mg base N x (defScope st) f cdv A outer s H E) (defBody st) t ∧ t { nx := fun _ H' => Q .non H', rt := Q } (start N vs) H) : L2.FnR P w K mg base (L2.CX P w) (k + 1) f (spStar ps.length sp) := by
  obtain ⟨oc, od, dV, kV, doc, pm, an, cdv, ct, osl, rfl, lk, hcd, hD, _⟩ := F.ex
  have e : dV = .none := hD.elim (fun h => h.2) fun h => absurd rfl h.1
  subst e
  exact fn_star lk hcd S cxUp (fun us rest hl => hb kV doc pm an cdv ct us rest hl) fun A outer s H vs Q E hr hsp => hbody cdv A outer s H vs Q E hr hsp
end
/-- f(e, ..) of such a def within a try: what is raised is wished for at the caller's slots -/
def tCallRS (sp : Sp) (E : L2.St → XK) (t : TA) : TE := fun σ H Q => t σ H fun vs H1 => sp vs H1 Q (E σ)
theorem pe_callRS {X : Cx} {CX : CXT} {k : Nat} {f : Addr} {sp : Sp} {E : L2.St → XK} {x : Str} {e : Expr} {es : List Expr} {t : TA} {p pos : Pos} (F : L2.FnR X.prog X.w X.K X.mg X.base CX k f sp) (hr : Room k X.A) (hg : Gl X x) (hm : X.mg x = some (.ref f)) (hk : PySem.W.keepIn X.K (.ref f) = true) (hx : ∀ σ, PassesAt CX X σ (E σ)) (ha : PA X (e :: es) t)
    (hd : (x == ("__debug__" : Str)) = false := by decide) (he : starEach (e :: es) X.env = (false, eval e X.env) :: starEach es X.env := by rfl) (hpl : (backTo pos (starEach es X.env)).any (·.1) = false := by rfl) :
    PE X (.Call (.Name x p) (e :: es) [] pos) (tCallRS sp E t) := by
  refine ⟨fun pins s σ H Q I h => wpAny_Call_Name_kw (ld_glob I hg hm ?_ hd)⟩
  refine PySem.W.callWith_K (h₀ := X.base) I.ok.mod.kin hk (thn (ha.run pos pins s σ H _ I h) fun us s1 ⟨vs, H1, I1, r, q⟩ => ⟨I1.kIn, wpAny_call ?_⟩) he hpl
  refine codeAny_mono (F X.A X.stack s1 H1 us vs Q (E σ) hr I1.env0 r q) fun r s' hq => ?_
  rcases r with u | fl
  · exact hx σ pins H1 s1 u s' I1 hq
  · cases fl with
    | ret u => exact I1.after hq
    | _ => exact False.elim hq
/-- a def that lets out what its callee raises -/
theorem through {P : Program} {w : World} {K : PySem.W.Frag} {mg : Str → Option Value} {base : Heap} {N : List Str} {x : Str} {sc : Scope} {f : Addr} {cdv : Value} {A : Around} {outer : List Env} {s : Shared} {H : Hp} {E : XK}
    (tk : Takes (cxOf (L2.CX P w) P w K mg base N x sc f cdv A outer s H E) (fun cls d _ H => E cls d H)) : Passes (L2.CX P w) (cxOf (L2.CX P w) P w K mg base N x sc f cdv A outer s H E) E := passes_call tk fun _ _ _ _ h => h
end Kd

set_option Elab.async false
set_option linter.all false
set_option maxRecDepth 100000
set_option maxHeartbeats 4000000
/-! enumerate(tuple); isinstance of data by a pair of types -/
namespace PySem
section
variable {prog : Program} {w : World} {A : Around} {E : Value → Shared → Prop} {s : Shared}
theorem kt_next {jt tp : Addr} {i : Nat} {its : Array Value} {x : Value} {Q : Value → Shared → Prop} (hj : s.heap.IsTupleIter jt tp i) (ht : s.heap.IsTuple tp its) (hx : its[i]? = some x)
    (hQ : ∀ h', h'.IsTupleIter jt tp (i + 1) → Heap.SameBut jt s.heap h' → Q x { s with heap := h' }) : wpAny (model prog w) A (Builtin.SmallTypes.nextOf (.ref jt)) Q E s := by
  obtain ⟨oj, ej, cj, dj⟩ := id hj
  obtain ⟨ot, et, _, nt, dt⟩ := ht
  unfold Builtin.SmallTypes.nextOf
  refine wpAny_bind (wpAny_callSpecial?_slot (name := Str.ofString "__next__") hj.typeIs F.slot_tuple_iterator_next (wpAny_call_entry F.slot_tuple_iterator_next hj.typeIs F.entry_tuple_iterator_next ?_ (F.args_tuple_iterator_next_1 _)))
  show wpAny _ _ (field (.ref jt) 0 >>= _) _ _ s; refine wpAny_bind (wpAny_field ej dj (x := .ref tp) rfl ?_)
  show wpAny _ _ (if (Value.ref tp == Value.none) = true then _ else _) _ _ s; rw [if_neg (show ¬ ((Value.ref tp == Value.none) = true) from Bool.false_ne_true)]
  show wpAny _ _ (field (.ref jt) 1 >>= _) _ _ s; refine wpAny_bind (wpAny_field ej dj (x := .int i 0) rfl ?_)
  show wpAny _ _ (seqItems? (.ref tp) >>= _) _ _ s; refine wpAny_bind (wpAny_seqItems et dt ?_)
  simp only [Int.toNat_natCast, hx]
  refine wpAny_bind (wpAny_setField ej dj (by simp) (wpAny_pure ⟨x, rfl, wpAny_pure (hQ _ ⟨_, Heap.get?_update_self _ ej (Obj.isFreed_of_fields (Obj.data_mapFields dj _)), (Obj.cls_mapFields ..).trans cj, ?_⟩ (Heap.SameBut.update ..))⟩))
  rw [Obj.data_mapFields dj]; simp [rawInt]
theorem kt_end {jt tp : Addr} {i : Nat} {its : Array Value} {Q : Value → Shared → Prop} (hh : A.handled = none) (hj : s.heap.IsTupleIter jt tp i) (ht : s.heap.IsTuple tp its) (hx : its[i]? = none)
    (hE : ∀ h' e, Heap.ExtBut jt s.heap h' → (∃ o, h'.get? e = some o ∧ o.cls = .type "StopIteration") → E (.ref e) { s with heap := h' }) : wpAny (model prog w) A (Builtin.SmallTypes.nextOf (.ref jt)) Q E s := by
  obtain ⟨oj, ej, cj, dj⟩ := id hj
  obtain ⟨ot, et, _, nt, dt⟩ := ht
  unfold Builtin.SmallTypes.nextOf
  refine wpAny_bind (wpAny_callSpecial?_slot (name := Str.ofString "__next__") hj.typeIs F.slot_tuple_iterator_next (wpAny_call_entry F.slot_tuple_iterator_next hj.typeIs F.entry_tuple_iterator_next ?_ (F.args_tuple_iterator_next_1 _)))
  show wpAny _ _ (field (.ref jt) 0 >>= _) _ _ s; refine wpAny_bind (wpAny_field ej dj (x := .ref tp) rfl ?_)
  show wpAny _ _ (if (Value.ref tp == Value.none) = true then _ else _) _ _ s; rw [if_neg (show ¬ ((Value.ref tp == Value.none) = true) from Bool.false_ne_true)]
  show wpAny _ _ (field (.ref jt) 1 >>= _) _ _ s; refine wpAny_bind (wpAny_field ej dj (x := .int i 0) rfl ?_)
  show wpAny _ _ (seqItems? (.ref tp) >>= _) _ _ s; refine wpAny_bind (wpAny_seqItems et dt ?_)
  simp only [Int.toNat_natCast, hx]
  refine wpAny_bind (wpAny_rule (wpAny_bind (wpAny_setField ej dj (by simp) ?_)))
  show wpAny _ _ (newExc (.type "StopIteration") [] >>= _) _ _ _; refine wpAny_bind ?_
  simp only [newExc, newTuple]
  refine wpAny_bind (wpAny_newObj_type (wpAny_bind (m := firstArgMember _ _) (wpAny_of_eq (a := Value.none) (by first | rfl | (simp only [firstArgMember]; rfl)) (wpAny_newObj_type ?_ (by size_fits)))) (by size_fits))
  simp only [raiseNew]
  refine wpAny_bind (wpAny_handled ?_); first | rw [show A.in1.handled = none from hh] | rw [hh]
  exact wpAny_bind (wpAny_pure (wpAny_throw (hE _ _ (((Heap.SameBut.update ..).extBut.push _).push _) ⟨_, Heap.get?_push_size _ rfl, rfl⟩)))
end
theorem kt_over {prog : Program} {w : World} {A : Around} {E : Value → Shared → Prop} {s : Shared} {e jt tp : Addr} {i : Nat} {k : Int} {its : Array Value} {old : Value} {Q : Option Value → Shared → Prop} (hh : A.handled = none) (he : IsEnum s.heap e jt k old) (hj : s.heap.IsTupleIter jt tp i) (ht : s.heap.IsTuple tp its) (hx : its[i]? = none)
    (hQ : ∀ h', Heap.ExtBut jt s.heap h' → Q none { s with heap := h' }) : wpAny (model prog w) A (pyNext (.ref e)) Q E s := by
  have hT : s.TypeIs (.ref e) "enumerate" := ⟨_, he, rfl⟩
  unfold pyNext
  refine wpAny_bind (wpAny_attempt (wpAny_callSpecial?_slot (name := Str.ofString "__next__") hT F.slot_enumerate_next (wpAny_call_entry F.slot_enumerate_next hT F.entry_enumerate_next ?_ (F.args_enumerate_next_1 _))))
  show wpAny _ _ (field (.ref e) 2 >>= _) _ _ _; refine wpAny_bind (wpAny_field he rfl (x := .ref jt) rfl ?_)
  refine wpAny_bind (kt_end hh hj ht hx fun h' x q1 q2 => ?_)
  obtain ⟨o, ho, hc⟩ := q2
  exact wpAny_bind (wpAny_isInstance (T := "StopIteration") (b := true) ⟨o, ho, hc⟩ isSubtype_stop (wpAny_pure (hQ _ q1)))
theorem kt_draws {prog : Program} {w : World} {A : Around} (hh : A.handled = none) (jt tp : Addr) (ne : tp ≠ jt) (its : Array Value) : Draws prog w A jt [jt, tp] its.size (fun i v => its[i]? = some v) (fun i h => h.IsTupleIter jt tp i ∧ h.IsTuple tp its) where
  live := fun _ _ st => let ⟨o, ho, _⟩ := st.1; ⟨o, ho⟩
  frame := fun _ _ _ st k => ⟨st.1.at fun o e => k jt (by simp) o e, st.2.at fun o e => k tp (by simp) o e⟩
  item := fun i s Q E hi st hQ => kt_next st.1 st.2 (x := its[i]) (by simp [hi]) fun h' j' sb => hQ _ h' s.toks (by simp [hi]) ⟨j', st.2.extBut sb.extBut ne⟩ sb
  done := fun s Q E st hE => kt_end hh st.1 st.2 (by simp) hE
open AutoSeq1 (wpAny_loadPart') in
theorem kt_make (tp : Addr) (its : Array Value) (n : Nat) (dct : Option Addr) (sl : Array (Option Value)) :
    Meets (Builtin.«enumerate.__new__» ⟨[.type "enumerate", .ref tp], []⟩) (fun _ R s => s.heap.get? tp = some { cls := .type "tuple", dict := dct, data := .seq its n, slots := sl } ∧
      R (.ok (.ret (.ref (s.heap.push { cls := .type "tuple_iterator", data := .fields #[.ref tp, .int 0 0] }).objs.size))) { s with heap := (s.heap.push { cls := .type "tuple_iterator", data := .fields #[.ref tp, .int 0 0] }).push { cls := .type "enumerate", data := .fields #[.none, .bool false, .ref s.heap.objs.size, rawInt 0, .none, .none] } }) :=
  .of_wp fun prog w A R s h => by
    obtain ⟨hp, g, d, tk, os⟩ := s; obtain ⟨hl, h⟩ := h
    have hs := sub_enumerate
    have hT : Heap.IsTuple (Shared.heap ⟨hp, g, d, tk, os⟩) tp its := ⟨_, hl, rfl, n, rfl⟩
    wp_walk using wpAny_loadPart' hl
    refine wpAny_stack_any fun st => wpAny_pure ?_
    split
    · rename_i c _ _ _ _ _
      cases (c == Value.type "enumerate") <;> (wp_walk using wpAny_loadPart' hl, wpAny_pyIter_tuple hT; exact ⟨_, rfl, h⟩)
    · wp_walk using wpAny_loadPart' hl, wpAny_pyIter_tuple hT; exact ⟨_, rfl, h⟩
theorem kt_call {prog : Program} {w : World} {A : Around} {E : Value → Shared → Prop} {s : Shared} {tp : Addr} {its : Array Value} {Q : Value → Shared → Prop} (hT : s.heap.IsTuple tp its)
    (h : ∀ h', IsEnum h' (s.heap.objs.size + 1) s.heap.objs.size 0 .none → h'.IsTupleIter s.heap.objs.size tp 0 → (∀ b o, s.heap.get? b = some o → h'.get? b = some o) → Q (.ref (s.heap.objs.size + 1)) { s with heap := h' }) :
    wpAny (model prog w) A (call (.type "enumerate") [.ref tp]) Q E s := by
  obtain ⟨⟨c, dct, dt, sl⟩, ht, hc, n, hd⟩ := hT
  cases (show c = .type "tuple" from hc)
  cases (show dt = .seq its n from hd)
  refine callType_new F.called_enumerate (by decide) (F.typeCall_enumerate_1 _) (F.newCall_enumerate_1 _) (fun obj => F.args_object_init_2 obj _) F.entry_enumerate_new (kt_make tp its n dct sl) ⟨ht, ?_⟩
  have hz : (s.heap.push { cls := .type "tuple_iterator", data := .fields #[.ref tp, .int 0 0] }).objs.size = s.heap.objs.size + 1 := Heap.size_push ..
  show _ ∧ _; rw [hz]
  have he := Heap.get?_push_size (s.heap.push { cls := .type "tuple_iterator", data := .fields #[.ref tp, .int 0 0] }) (o := { cls := .type "enumerate", data := .fields #[.none, .bool false, .ref s.heap.objs.size, rawInt 0, .none, .none] }) rfl
  rw [hz] at he
  exact ⟨⟨_, he, rfl⟩, h _ he ⟨_, Heap.get?_push_of_some _ (Heap.get?_push_size _ rfl), rfl, rfl⟩ fun b o x => Heap.get?_push_of_some _ (Heap.get?_push_of_some _ x)⟩
end PySem
namespace Kc
open PySem PySem.Spec PyProof.Rows L2 Lk
/-- the tuple at a, each item in a new pair -/
def ItT (K : PySem.W.Frag) (a : Addr) : It :=
  ⟨fun i H => ∃ (xs : List V) (x : V), SqT K H a xs ∧ xs[i]? = some x, fun i H v H' => ∃ T x, v = .ref T ∧ H T = none ∧ H' = upd H T (.tup [.int (i : Nat), x]) ∧ ∀ xs, SqT K H a xs → xs[i]? = some x, fun i H => ∃ xs : List V, SqT K H a xs ∧ xs.length ≤ i⟩
theorem turn_en {P : Program} {w : World} {K : PySem.W.Frag} {elts : List Expr} {kk : Nat} {tpos : Pos} (a e it : Addr) (nai : a ≠ it) (nae : a ≠ e) :
    Turn P w K (.Tuple elts kk tpos) (ItT K a) [e, it] e (fun i h => (∃ old, IsEnum h e it ((i : Nat) : Int) old) ∧ h.IsTupleIter it a i ∧ e ≠ it) where
  mem := by simp
  obj := fun i h st b hb => by
    obtain ⟨⟨old, he⟩, ⟨o, ho, hc, hd⟩, _⟩ := st
    rcases (show b = e ∨ b = it by simpa using hb) with rfl | rfl
    · exact ⟨_, he, fun v q => nomatch q⟩
    · exact ⟨o, ho, fun v q => by rw [hd] at q; cases q⟩
  keep := fun i h h' st k => let ⟨⟨old, he⟩, hi, ne⟩ := st; ⟨⟨old, k e (by simp) _ he⟩, hi.at fun o q => k it (by simp) o q, ne⟩
  item := by
    intro X hP hw hK hc i pins s σ H E I hf st hg
    subst hP hw hK
    obtain ⟨⟨old, he⟩, hit, ne⟩ := st
    obtain ⟨xs, x, hq, hx⟩ := hg
    obtain ⟨its, rv, p, hz⟩ := I.tuple hq
    obtain ⟨u, hu, ru⟩ := rv.get hx
    have le1 : e < s.heap.objs.size := Heap.lt_size he
    have le2 : it < s.heap.objs.size := by obtain ⟨_, q, _⟩ := hit; exact Heap.lt_size q
    have hiu : its.toArray[i]? = some u := by simpa using hu
    have hil : i < its.toArray.size := (Array.getElem?_eq_some_iff.mp hiu).1
    refine wpAny_pyNext_enum_itemD (kt_draws (A := X.A.in1) (by exact I.ok.hd hc) it a nai its.toArray) he ⟨hit, p⟩ hil ne (by simp [ne, Ne.symm nae]) fun v h' tk hv ho st' hT hsz hk => ?_
    obtain rfl : v = u := Option.some.inj (hv.symm.trans hiu)
    refine ⟨_, rfl, wpAny_letOwnedTupleGo_enum (s := { s with heap := h', toks := tk + 1 }) ho fun h'' he' sb => ?_⟩
    have hT2 : h''.get? s.heap.objs.size = some { cls := .type "tuple", data := .seq #[.int i tk, v] } := (sb.2 _ (Nat.ne_of_gt le1)).trans hT
    have new : ObjOk X.prog X.w (upd H s.heap.objs.size (.tup [.int (i : Nat), x])) h'' s.heap.objs.size (.tup [.int (i : Nat), x]) := ⟨by show 2 ≤ sizeLine; decide, [.int i tk, v], .cons ⟨_, rfl⟩ (.cons ru .nil), ⟨_, hT2, rfl, _, rfl⟩⟩
    have I1 : Inv X pins σ (upd H s.heap.objs.size (.tup [.int (i : Nat), x])) { s with heap := h'', toks := tk + 1 } :=
      I.turnedNew (ch := [e, it]) (fun b ob hb q => (sb.2 b (fun z => hb (by simp [z]))).trans (hk b ob (fun z => hb (by simp [z])) (fun z => hb (by simp [z])) q)) hf (Nat.le_refl _) new
    refine ⟨.ref s.heap.objs.size, _, I1, rfl, ⟨_, x, rfl, I.hok.fresh (Nat.le_refl _), rfl, fun ys hy => by rw [I.tuple_inj hy hq]; exact hx⟩, ⟨⟨v, ?_⟩, st'.1.at fun o q => (sb.2 it (Ne.symm ne)).trans q, ne⟩, fun b hb => ?_⟩
    · rw [show ((i + 1 : Nat) : Int) = (i : Int) + 1 by omega]
      exact he'
    · have lb : b < s.heap.objs.size := by rcases (show b = e ∨ b = it by simpa using hb) with rfl | rfl <;> assumption
      rw [upd_ne (Nat.ne_of_lt lb)]
      exact (hf b hb).1
  done := by
    intro X hP hw hK hc i pins s σ H E I hf st hg
    subst hP hw hK
    obtain ⟨⟨old, he⟩, hit, ne⟩ := st
    obtain ⟨xs, hq, hx⟩ := hg
    obtain ⟨its, rv, p, hz⟩ := I.tuple hq
    obtain ⟨f0, f1, f2, f3, f4, f5⟩ := hf it (by simp)
    have hl := rv.length
    exact kt_over (I.ok.hd hc) he hit p (by simp; omega) fun h' eb => ⟨rfl, I.turned (t' := s.toks) (fun b o hb q => eb b o hb q) f0 f1 f3 f4 f5⟩
  self := fun A i s Q E st h => let ⟨⟨_, he⟩, _⟩ := st; wpAny_pyIter_enum he h
def iEnT (K : PySem.W.Frag) (ta : TA) : TI := fun σ H R => ta σ H fun vs H1 => ∃ a xs, vs = [.ref a] ∧ SqT K H1 a xs ∧ R (ItT K a) H1
theorem pi_enT {X : Cx} {e : Expr} {ta : TA} {p pos tpos : Pos} {elts : List Expr} {kk : Nat} (hg : Gl X "enumerate") (hm : X.mg "enumerate" = none) (ha : PA X [e] ta) (hs : starEach [e] X.env = [(false, eval e X.env)] := by rfl) :
    PI X (.Tuple elts kk tpos) (.Call (.Name "enumerate" p) [e] [] pos) (iEnT X.K ta) := by
  refine ⟨fun pins s σ H R I h => Call_ (ld_blt I hg hm boot_enumerate (PyProof.Rows.callWith_type1 (thn (ha.run pos pins s σ H _ I h) fun us s1 ⟨vs, H1, I1, r1, q1⟩ => ?_) hs rfl))⟩
  obtain ⟨a, xs, ex, hq, q⟩ := q1
  subst ex
  cases r1 with
  | cons r rr =>
    cases rr
    cases r
    obtain ⟨its, rv, p', hz⟩ := I1.tuple hq
    have la : a < s1.heap.objs.size := by obtain ⟨o, ho, _⟩ := p'; exact Heap.lt_size ho
    refine kt_call p' fun h' he hit hk => wpAny_pyIter_enum he ?_
    refine ⟨s1.heap.objs.size + 1, [s1.heap.objs.size + 1, s1.heap.objs.size], _, _, H1, rfl, I1.kept (t' := s1.toks) hk, turn_en a (s1.heap.objs.size + 1) s1.heap.objs.size (Nat.ne_of_lt la) (Nat.ne_of_lt (Nat.lt_succ_of_lt la)), ⟨⟨.none, he⟩, hit, Nat.succ_ne_self _⟩, fun b hb => ?_, q⟩
    have hle : s1.heap.objs.size ≤ b := by rcases (show b = s1.heap.objs.size + 1 ∨ b = s1.heap.objs.size by simpa using hb) with rfl | rfl <;> omega
    exact I1.fpOk hle (I1.hok.fresh hle)
/-- for i, x in enumerate(list or tuple) -/
theorem for_en {K : PySem.W.Frag} {a : Addr} {xs : List V} {g : TG} {tb : TS} {D : Ends} {σ : L2.St} {H : Hp} (Pv : Nat → L2.St → Hp → Prop) (h0 : Pv 0 σ H) (hl : ∀ i σ H, i ≤ xs.length → Pv i σ H → SqL K H a xs)
    (hs : ∀ i x σ H T, xs[i]? = some x → Pv i σ H → H T = none → g (.ref T) σ (upd H T (.tup [.int (i : Nat), x])) fun σ2 H2 => tb { D with nx := Pv (i + 1), ct := Pv (i + 1), bk := D.nx } σ2 H2) (hd : ∀ σ H, Pv xs.length σ H → D.nx σ H) :
    ∃ W : Nat → Nat → L2.St → Hp → Prop, (∃ m, W 0 m σ H) ∧ ∀ i m σ H, W i m σ H → ((Ite K a).stop i H ∧ D.nx σ H) ∨ ((Ite K a).go i H ∧ ∃ N : L2.St → Hp → Prop, (∀ σ' H', N σ' H' → ∃ m', m' < m ∧ W (i + 1) m' σ' H') ∧ ∀ x H', (Ite K a).yld i H x H' → g x σ H' fun σ2 H2 => tb { D with nx := N, ct := N, bk := D.nx } σ2 H2) := by
  refine ⟨fun i m σ H => m = xs.length - i ∧ i ≤ xs.length ∧ Pv i σ H, ⟨xs.length, rfl, Nat.zero_le _, h0⟩, fun i m σ H ⟨em, hi, p⟩ => ?_⟩
  subst em
  have q := hl i σ H hi p
  rcases Nat.lt_or_ge i xs.length with lt | ge
  · refine .inr ⟨⟨xs, xs[i], q, by simp [lt]⟩, Pv (i + 1), fun σ' H' p' => ⟨xs.length - (i + 1), by omega, rfl, lt, p'⟩, ?_⟩
    rintro x H' ⟨T, y, rfl, nT, rfl, hy⟩
    exact hs i y σ H T (hy xs q) p nT
  · have ei : i = xs.length := by omega
    subst ei
    exact .inl ⟨⟨xs, q, Nat.le_refl _⟩, hd σ H p⟩
theorem for_enT {K : PySem.W.Frag} {a : Addr} {xs : List V} {g : TG} {tb : TS} {D : Ends} {σ : L2.St} {H : Hp} (Pv : Nat → L2.St → Hp → Prop) (h0 : Pv 0 σ H) (hl : ∀ i σ H, i ≤ xs.length → Pv i σ H → SqT K H a xs)
    (hs : ∀ i x σ H T, xs[i]? = some x → Pv i σ H → H T = none → g (.ref T) σ (upd H T (.tup [.int (i : Nat), x])) fun σ2 H2 => tb { D with nx := Pv (i + 1), ct := Pv (i + 1), bk := D.nx } σ2 H2) (hd : ∀ σ H, Pv xs.length σ H → D.nx σ H) :
    ∃ W : Nat → Nat → L2.St → Hp → Prop, (∃ m, W 0 m σ H) ∧ ∀ i m σ H, W i m σ H → ((ItT K a).stop i H ∧ D.nx σ H) ∨ ((ItT K a).go i H ∧ ∃ N : L2.St → Hp → Prop, (∀ σ' H', N σ' H' → ∃ m', m' < m ∧ W (i + 1) m' σ' H') ∧ ∀ x H', (ItT K a).yld i H x H' → g x σ H' fun σ2 H2 => tb { D with nx := N, ct := N, bk := D.nx } σ2 H2) := by
  refine ⟨fun i m σ H => m = xs.length - i ∧ i ≤ xs.length ∧ Pv i σ H, ⟨xs.length, rfl, Nat.zero_le _, h0⟩, fun i m σ H ⟨em, hi, p⟩ => ?_⟩
  subst em
  have q := hl i σ H hi p
  rcases Nat.lt_or_ge i xs.length with lt | ge
  · refine .inr ⟨⟨xs, xs[i], q, by simp [lt]⟩, Pv (i + 1), fun σ' H' p' => ⟨xs.length - (i + 1), by omega, rfl, lt, p'⟩, ?_⟩
    rintro x H' ⟨T, y, rfl, nT, rfl, hy⟩
    exact hs i y σ H T (hy xs q) p nT
  · have ei : i = xs.length := by omega
    subst ei
    exact .inl ⟨⟨xs, q, Nat.le_refl _⟩, hd σ H p⟩
/-! ### isinstance(x, (T1, T2)), x data -/
def rIsD2 (K : PySem.W.Frag) : List V → Hp → VK → Prop := fun xs H Q => ∃ (x : V) (tp : Addr) (T1 T2 : String) (d : PyData), xs = [x, .ref tp] ∧ H tp = some (.tup [.ty T1, .ty T2]) ∧ okT T1 = true ∧ okT T2 = true ∧ Dp K H x d ∧ Q (.bl (isI T1 d || isI T2 d)) H
theorem call_isD2 {X : Cx} : CallR X (.builtin "isinstance") (rIsD2 X.K) := by
  intro pins s σ H xs us Q I r h
  obtain ⟨x, tp, T1, T2, d, rfl, ht, o1, o2, hd, q⟩ := h
  refine call_isiT pins s σ H _ us Q I r ⟨x, tp, [.ty T1, .ty T2], .type (tname d), [.type T1, .type T2], isI T1 d || isI T2 d, rfl, ht, .cons (.ty T1) (.cons (.ty T2) .nil), ty_of hd, ?_, q⟩
  refine kitAny_cons (kit_ty (kit_isI o1 d)) (fun e => ?_) fun e => by rw [e] <;> rfl
  rw [e, Bool.false_or]
  exact kitAny_cons (kit_ty (kit_isI o2 d)) (fun z => by rw [z]; exact kitAny_nil) fun z => z
/-- what a callee raises leaves the def -/
theorem passT {X : Cx} {E : XK} (tk : Takes X (fun cls d _ H => E cls d H)) : Passes (L2.CX X.prog X.w) X E := passes_call tk fun _ _ _ _ h => h
/-! ### [e for a in x for b in y] -/
def In2 (g1 : TG) (tt1 : TT) (te : TE) (vs1 : List Nat) (D : Addr) (Nx : Hp → Prop) (σ2 : L2.St) (J1 : It) (H4 : Hp) : Prop := ∃ W1 : Nat → Nat → Hp → Prop, (∃ m, W1 0 m H4) ∧ ∀ j k H, W1 j k H →
  (J1.stop j H ∧ Nx H) ∨ (J1.go j H ∧ ∃ N1 : Hp → Prop, (∀ H', N1 H' → ∃ k', k' < k ∧ W1 (j + 1) k' H') ∧ ∀ x H', J1.yld j H x H' → g1 x (wipe σ2 vs1) H' fun σ3 H5 => wipe σ3 vs1 = wipe σ2 vs1 ∧ tt1 σ3 H5 fun b H6 =>
    if b = true then te σ3 H6 fun y H7 => ∃ acc, H7 D = some (.lst acc) ∧ acc.length < sizeLine ∧ N1 (upd H7 D (.lst (acc ++ [y]))) else N1 H6)
theorem lc2_tup {K : PySem.W.Frag} {a : Addr} {xs : List V} {g g1 : TG} {tt tt1 : TT} {wi1 : TI} {te : TE} {vs vs1 : List Nat} {σ : L2.St} {H1 : Hp} {D : Addr} {Qd : Hp → Prop} (Pv : Nat → Hp → Prop) (h0 : Pv 0 (upd H1 D (.lst []))) (hl : ∀ i H, i ≤ xs.length → Pv i H → SqT K H a xs) (hd : ∀ H, Pv xs.length H → Qd H)
    (hs : ∀ i x H, xs[i]? = some x → Pv i H → g x (wipe σ vs) H fun σ2 H2 => wipe σ2 vs = wipe σ vs ∧ tt σ2 H2 fun b H3 => if b = true then wi1 σ2 H3 fun J1 H4 => In2 g1 tt1 te vs1 D (Pv (i + 1)) σ2 J1 H4 else Pv (i + 1) H3) :
    ∃ W : Nat → Nat → Hp → Prop, (∃ m, W 0 m (upd H1 D (.lst []))) ∧ ∀ i m H, W i m H → ((Itt K a).stop i H ∧ Qd H) ∨ ((Itt K a).go i H ∧ ∃ Nx : Hp → Prop, (∀ H', Nx H' → ∃ m', m' < m ∧ W (i + 1) m' H') ∧
      ∀ x H', (Itt K a).yld i H x H' → g x (wipe σ vs) H' fun σ2 H2 => wipe σ2 vs = wipe σ vs ∧ tt σ2 H2 fun b H3 => if b = true then wi1 σ2 H3 fun J1 H4 => In2 g1 tt1 te vs1 D Nx σ2 J1 H4 else Nx H3) := by
  refine ⟨fun i m H => m = xs.length - i ∧ i ≤ xs.length ∧ Pv i H, ⟨xs.length, rfl, Nat.zero_le _, h0⟩, fun i m H ⟨em, hi, p⟩ => ?_⟩
  subst em
  have q := hl i H hi p
  rcases Nat.lt_or_ge i xs.length with lt | ge
  · refine .inr ⟨⟨xs, xs[i], q, by simp [lt]⟩, Pv (i + 1), fun H' p' => ⟨xs.length - (i + 1), by omega, rfl, lt, p'⟩, ?_⟩
    rintro x H' ⟨rfl, y⟩
    exact hs i x _ (y xs q) p
  · have ei : i = xs.length := by omega
    subst ei
    exact .inl ⟨⟨xs, q, Nat.le_refl _⟩, hd H p⟩
theorem in2_tup {K : PySem.W.Frag} {a : Addr} {xs : List V} {g1 : TG} {tt1 : TT} {te : TE} {vs1 : List Nat} {σ2 : L2.St} {H4 : Hp} {D : Addr} {Nx : Hp → Prop} (Pv : Nat → Hp → Prop) (h0 : Pv 0 H4) (hl : ∀ i H, i ≤ xs.length → Pv i H → SqT K H a xs) (hd : ∀ H, Pv xs.length H → Nx H)
    (hs : ∀ i x H, xs[i]? = some x → Pv i H → g1 x (wipe σ2 vs1) H fun σ3 H5 => wipe σ3 vs1 = wipe σ2 vs1 ∧ tt1 σ3 H5 fun b H6 => if b = true then te σ3 H6 fun y H7 => ∃ acc, H7 D = some (.lst acc) ∧ acc.length < sizeLine ∧ Pv (i + 1) (upd H7 D (.lst (acc ++ [y]))) else Pv (i + 1) H6) :
    In2 g1 tt1 te vs1 D Nx σ2 (Itt K a) H4 := by
  refine ⟨fun i m H => m = xs.length - i ∧ i ≤ xs.length ∧ Pv i H, ⟨xs.length, rfl, Nat.zero_le _, h0⟩, fun i m H ⟨em, hi, p⟩ => ?_⟩
  subst em
  have q := hl i H hi p
  rcases Nat.lt_or_ge i xs.length with lt | ge
  · refine .inr ⟨⟨xs, xs[i], q, by simp [lt]⟩, Pv (i + 1), fun H' p' => ⟨xs.length - (i + 1), by omega, rfl, lt, p'⟩, ?_⟩
    rintro x H' ⟨rfl, y⟩
    exact hs i x _ (y xs q) p
  · have ei : i = xs.length := by omega
    subst ei
    exact .inl ⟨⟨xs, q, Nat.le_refl _⟩, hd H p⟩
theorem in2_lst {K : PySem.W.Frag} {a : Addr} {xs : List V} {g1 : TG} {tt1 : TT} {te : TE} {vs1 : List Nat} {σ2 : L2.St} {H4 : Hp} {D : Addr} {Nx : Hp → Prop} (Pv : Nat → Hp → Prop) (h0 : Pv 0 H4) (hl : ∀ i H, i ≤ xs.length → Pv i H → SqL K H a xs) (hd : ∀ H, Pv xs.length H → Nx H)
    (hs : ∀ i x H, xs[i]? = some x → Pv i H → g1 x (wipe σ2 vs1) H fun σ3 H5 => wipe σ3 vs1 = wipe σ2 vs1 ∧ tt1 σ3 H5 fun b H6 => if b = true then te σ3 H6 fun y H7 => ∃ acc, H7 D = some (.lst acc) ∧ acc.length < sizeLine ∧ Pv (i + 1) (upd H7 D (.lst (acc ++ [y]))) else Pv (i + 1) H6) :
    In2 g1 tt1 te vs1 D Nx σ2 (Itl K a) H4 := by
  refine ⟨fun i m H => m = xs.length - i ∧ i ≤ xs.length ∧ Pv i H, ⟨xs.length, rfl, Nat.zero_le _, h0⟩, fun i m H ⟨em, hi, p⟩ => ?_⟩
  subst em
  have q := hl i H hi p
  rcases Nat.lt_or_ge i xs.length with lt | ge
  · refine .inr ⟨⟨xs, xs[i], q, by simp [lt]⟩, Pv (i + 1), fun H' p' => ⟨xs.length - (i + 1), by omega, rfl, lt, p'⟩, ?_⟩
    rintro x H' ⟨rfl, y⟩
    exact hs i x _ (y xs q) p
  · have ei : i = xs.length := by omega
    subst ei
    exact .inl ⟨⟨xs, q, Nat.le_refl _⟩, hd H p⟩
end Kc

set_option Elab.async false
set_option linter.all false
set_option maxRecDepth 100000
set_option maxHeartbeats 4000000
namespace Kx
open PySem PySem.Spec PyProof.Rows L2 Lk
def lD (ns : List Int) : PyData := .list (ns.map PyData.int)
theorem eqv_l (ns ms : List Int) : PyData.eqv (lD ns) (lD ms) = decide (ns = ms) := eqv_ints ns ms
theorem shaped_l (ns : List Int) : SeqAt.shaped (lD ns) = true := by
  obtain ⟨h1, h2⟩ := lay_ints ns
  unfold SeqAt.shaped lD
  rw [PyData.canLay0, PyData.depth, h1, h2]
  rfl
theorem l_mk {K : PySem.W.Frag} {H : Hp} {p : Addr} {ns : List Int} (h : SqL K H p (ns.map V.int)) : Dp K H (.ref p) (lD ns) := .lst h (dpa_ints ns)
/-- all([.. for x in a list]) -/
theorem all_datL {K : PySem.W.Frag} {H : Hp} {p : Addr} {xs : List V} {ds : List PyData} {f : PyData → Bool} {t0 : TE} {g : TG} {te : TE} {vs : List Nat} {σ : L2.St} {Q : VK} (ev : ∀ Q : VK, Q (.ref p) H → t0 σ H Q) (hT : SqL K H p xs) (hd : DpAll K H xs ds) (hz : ds.length ≤ 900)
    (hs : ∀ x d H' (Q' : VK), Same H H' → d ∈ ds → Dp K H' x d → (∀ H2, Same H' H2 → Q' (.bl (f d)) H2) → g x (wipe σ vs) H' fun σ2 H2 => wipe σ2 vs = wipe σ vs ∧ te σ2 H2 Q')
    (hQ : ∀ D H', Same H H' → SqL K H' D ((ds.map f).map V.bl) → Q (.ref D) H') : tLc (iList K t0) g tYes te vs σ H Q := by
  refine ev _ ⟨p, rfl, ⟨xs, hT⟩, fun D nD => ?_⟩
  have hl := dpa_len hd
  refine lc_list (K := K) (a := p) (xs := xs) (fun i H' => Same H H' ∧ H' D = some (.lst (((ds.take i).map f).map V.bl))) ⟨same_new nD, upd_same⟩ (fun i H' _ h => h.1.seq hT) ?_ ?_
  · rintro i x H' hi ⟨s1, h2⟩
    obtain ⟨d, hdi, hx⟩ := dpa_get hd hi
    refine hs x d H' (fun y H4 => ∃ acc, H4 D = some (.lst acc) ∧ acc.length < sizeLine ∧ (Same H (upd H4 D (.lst (acc ++ [y]))) ∧ (upd H4 D (.lst (acc ++ [y]))) D = some (.lst (((ds.take (i + 1)).map f).map V.bl)))) s1 (List.mem_of_getElem? hdi) (dp_same s1 hx) fun H2 s2 => ⟨_, s2 _ _ h2, ?_, same_mut (s1.trans s2) nD, ?_⟩
    · rw [List.length_map, List.length_map, List.length_take]
      exact small1000 (by omega)
    · rw [upd_same, take_map hdi, List.map_append, List.map_append]
      rfl
  · rintro H' ⟨s1, h2⟩
    rw [hl, List.take_length] at h2
    exact hQ D H' s1 (SqL.of h2)
end Kx

set_option Elab.async false
set_option linter.all false
/-! when two plain words may change places: the kinds' mathematics -/
namespace Km
theorem fo_all : ∀ {l acc : List Int}, (∀ x ∈ l, x ∈ acc) → fo acc l = acc
  | [], _, _ => rfl
  | x :: r, acc, h => by
    show fo (if x ∈ acc then acc else acc ++ [x]) r = acc
    rw [if_pos (h x List.mem_cons_self)]
    exact fo_all fun y hy => h y (List.mem_cons_of_mem _ hy)
theorem fo_pre : ∀ (l acc : List Int), acc <+: fo acc l
  | [], acc => ⟨[], by rw [List.append_nil] <;> rfl⟩
  | x :: r, acc => by
    have ih := fo_pre r (if x ∈ acc then acc else acc ++ [x])
    refine List.IsPrefix.trans ?_ ih
    split
    · exact List.prefix_refl _
    · exact List.prefix_append _ _
theorem fo_app_nodup : ∀ {l acc : List Int}, (acc ++ l).Nodup → fo acc l = acc ++ l
  | [], acc, _ => by rw [List.append_nil] <;> rfl
  | x :: r, acc, h => by
    have hx : ¬ x ∈ acc := fun z => by
      rw [List.nodup_append] at h
      exact h.2.2 x z x List.mem_cons_self rfl
    show fo (if x ∈ acc then acc else acc ++ [x]) r = _
    rw [if_neg hx, fo_app_nodup (l := r) (acc := acc ++ [x]) (by rw [List.append_assoc]; exact h), List.append_assoc]
    rfl
theorem fo_nodup : ∀ {l acc : List Int}, acc.Nodup → (fo acc l).Nodup
  | [], _, h => h
  | x :: r, acc, h => by
    show (fo (if x ∈ acc then acc else acc ++ [x]) r).Nodup
    refine fo_nodup ?_
    split
    · exact h
    · rename_i hx
      rw [List.nodup_append]
      refine ⟨h, by simp, fun a ha b hb => ?_⟩
      rw [List.mem_singleton.mp hb]
      exact fun e => hx (e ▸ ha)
theorem fo_plain {a : List Int} (h : fo [] a = a) : a.Nodup := by
  rw [← h]
  exact fo_nodup .nil
/-- heads: both orders make the same iff one of the words begins the other -/
theorem heads_both {a b : List Int} (ha : fo [] a = a) (hb : fo [] b = b) : fo [] (a ++ b) = fo [] (b ++ a) ↔ a.take b.length = b.take a.length := by
  rw [fo_app, fo_app, ha, hb]
  constructor
  · intro h
    obtain ⟨t, ht⟩ := fo_pre b a
    obtain ⟨u, hu⟩ := fo_pre a b
    rw [h, ← hu] at ht
    have h1 := congrArg (List.take (min a.length b.length)) ht
    rw [List.take_append_of_le_length (Nat.min_le_left _ _), List.take_append_of_le_length (Nat.min_le_right _ _)] at h1
    rcases Nat.le_total a.length b.length with hl | hl
    · rw [Nat.min_eq_left hl, List.take_length] at h1
      rw [List.take_of_length_le hl]
      exact h1
    · rw [Nat.min_eq_right hl, List.take_length] at h1
      rw [List.take_of_length_le (l := b) hl]
      exact h1
  · intro h
    have key : ∀ {p q : List Int}, p.length ≤ q.length → q.Nodup → p = q.take p.length → fo p q = q ∧ fo q p = q := fun {p q} hl nq e => by
      have hq : q = p ++ q.drop p.length := by
        have z := (List.take_append_drop p.length q).symm
        rw [← e] at z
        exact z
      refine ⟨?_, fo_all fun x hx => by rw [e] at hx; exact List.mem_of_mem_take hx⟩
      have z : fo p (p ++ q.drop p.length) = p ++ q.drop p.length := by
        rw [fo_app, fo_all fun x hx => hx]
        exact fo_app_nodup (by rw [← hq]; exact nq)
      rw [← hq] at z
      exact z
    rcases Nat.le_total a.length b.length with hl | hl
    · rw [List.take_of_length_le hl] at h
      obtain ⟨k1, k2⟩ := key hl (fo_plain hb) h
      rw [k1, k2]
    · rw [List.take_of_length_le (l := b) hl] at h
      obtain ⟨k1, k2⟩ := key hl (fo_plain ha) h.symm
      rw [k1, k2]
theorem rev_take (l : List Int) (n : Nat) : l.reverse.take n = (l.drop (l.length - n)).reverse := List.take_reverse
/-- tails: iff one of them ends the other -/
theorem tails_both {a b : List Int} (ha : pl .tails a = a) (hb : pl .tails b = b) : pl .tails (a ++ b) = pl .tails (b ++ a) ↔ a.drop (a.length - b.length) = b.drop (b.length - a.length) := by
  have ha' : fo [] a.reverse = a.reverse := by
    have z : (fo [] a.reverse).reverse = a := ha
    rw [← List.reverse_reverse (fo [] a.reverse), z]
  have hb' : fo [] b.reverse = b.reverse := by
    have z : (fo [] b.reverse).reverse = b := hb
    rw [← List.reverse_reverse (fo [] b.reverse), z]
  have h := heads_both hb' ha'
  rw [List.length_reverse, List.length_reverse, rev_take, rev_take] at h
  show (fo [] (a ++ b).reverse).reverse = (fo [] (b ++ a).reverse).reverse ↔ _
  rw [List.reverse_append, List.reverse_append, List.reverse_inj, h, List.reverse_inj]
  exact eq_comm
theorem bag_both (a b : List Int) : pl .bag (a ++ b) = pl .bag (b ++ a) := srt_of ((srt_perm _).trans List.perm_append_comm) (srt_sorted _)
theorem set_both (a b : List Int) : pl .set (a ++ b) = pl .set (b ++ a) := sst_of (fun k => by
  show k ∈ sst (a ++ b) ↔ _
  rw [mem_sst, List.mem_append, List.mem_append]
  exact or_comm) (sst_asc _)
/-- first, ends: plain words that are not empty -/
theorem first_app {a b : List Int} (h : a ≠ []) : pl .first (a ++ b) = pl .first a := by
  cases a with
  | nil => exact absurd rfl h
  | cons x r => simp [pl]
theorem first_both {a b : List Int} (ha : pl .first a = a) (hb : pl .first b = b) (na : a ≠ []) (nb : b ≠ []) : pl .first (a ++ b) = pl .first (b ++ a) ↔ a = b := by
  rw [first_app na, first_app nb, ha, hb]
theorem ends_pair {a : List Int} (ha : pl .ends a = a) (na : a ≠ []) : ∃ x y, a = [x, y] := by
  have h : a.take 1 ++ lst1 a = a := ha
  have hl := lst1_len a
  match a, na with
  | [x], _ => exact absurd h (by simp [lst1])
  | [x, y], _ => exact ⟨x, y, rfl⟩
  | x :: y :: z :: r, _ =>
    have z := congrArg List.length h
    simp only [List.length_append, List.length_take, List.length_cons] at z
    omega
theorem ends_both {a b : List Int} (ha : pl .ends a = a) (hb : pl .ends b = b) (na : a ≠ []) (nb : b ≠ []) : pl .ends (a ++ b) = pl .ends (b ++ a) ↔ a = b := by
  obtain ⟨x, y, rfl⟩ := ends_pair ha na
  obtain ⟨u, v, rfl⟩ := ends_pair hb nb
  show [x, v] = [u, y] ↔ _
  simp
  intro _
  exact eq_comm
theorem ends_kept {x y u v : Int} : pl .ends ([x, y] ++ [u, v]) = [x, y] ↔ y = v := by
  show [x, v] = [x, y] ↔ _
  simp
  exact eq_comm
/-! ### what a clearing effect keeps of the one behind it: pl (a ++ b) = a -/
theorem list_kept {a b : List Int} (nb : b ≠ []) : ¬ a ++ b = a := fun h => by
  have z := congrArg List.length h
  rw [List.length_append] at z
  have := List.length_pos_iff.mpr nb
  omega
theorem bag_kept {a b : List Int} (nb : b ≠ []) : ¬ pl .bag (a ++ b) = a := fun h => by
  have z := (srt_perm (a ++ b)).length_eq
  have e : (srt (a ++ b)).length = a.length := congrArg List.length h
  rw [e, List.length_append] at z
  have := List.length_pos_iff.mpr nb
  omega
theorem set_kept {a b : List Int} (ha : pl .set a = a) : pl .set (a ++ b) = a ↔ ∀ x ∈ b, x ∈ a := by
  constructor
  · intro h x hx
    rw [← h]
    exact (mem_sst x (a ++ b)).mpr (List.mem_append_right _ hx)
  · intro h
    have z : a.Pairwise (· < ·) := by rw [← ha]; exact sst_asc a
    exact (sst_of (l := a ++ b) (fun k => by
      rw [List.mem_append]
      exact ⟨Or.inl, fun q => q.elim id (h k)⟩) z).symm
theorem heads_kept {a b : List Int} (ha : fo [] a = a) : pl .heads (a ++ b) = a ↔ ∀ x ∈ b, x ∈ a := by
  show fo [] (a ++ b) = a ↔ _
  rw [fo_app, ha]
  constructor
  · intro h x hx
    rw [← h]
    exact (mem_fo b a x).mpr (.inr hx)
  · exact fo_all
theorem first_kept {a b : List Int} (ha : pl .first a = a) (hb : pl .first b = b) (nb : b ≠ []) : pl .first (a ++ b) = a ↔ a ≠ [] := by
  constructor
  · rintro h rfl
    exact nb (hb.symm.trans h)
  · intro h
    rw [first_app h, ha]
theorem tails_kept {a b : List Int} (ha : pl .tails a = a) (hb : pl .tails b = b) : pl .tails (a ++ b) = a ↔ b.length ≤ a.length ∧ a.drop (a.length - b.length) = b := by
  have ha' : fo [] a.reverse = a.reverse := by
    have z : (fo [] a.reverse).reverse = a := ha
    rw [← List.reverse_reverse (fo [] a.reverse), z]
  have hb' : fo [] b.reverse = b.reverse := by
    have z : (fo [] b.reverse).reverse = b := hb
    rw [← List.reverse_reverse (fo [] b.reverse), z]
  have e : pl .tails (a ++ b) = (fo b.reverse a.reverse).reverse := by
    show (fo [] (a ++ b).reverse).reverse = _
    rw [List.reverse_append, fo_app, hb']
  rw [e]
  constructor
  · intro h
    have h2 : fo b.reverse a.reverse = a.reverse := by rw [← List.reverse_reverse (fo b.reverse a.reverse), h]
    obtain ⟨t, ht⟩ := fo_pre a.reverse b.reverse
    rw [h2] at ht
    have hl : b.length ≤ a.length := by
      have z := congrArg List.length ht
      simp only [List.length_append, List.length_reverse] at z
      omega
    refine ⟨hl, ?_⟩
    have z := congrArg (List.take b.length) ht
    rw [List.take_append_of_le_length (by simp), List.take_of_length_le (by simp), rev_take] at z
    exact (List.reverse_inj.mp z).symm
  · rintro ⟨hl, h⟩
    have hs : b.reverse = a.reverse.take b.length := by rw [rev_take, h]
    have z : fo b.reverse a.reverse = a.reverse := by
      have q : a.reverse = b.reverse ++ a.reverse.drop b.length := by
        rw [hs]
        simp
      have q2 : fo b.reverse (b.reverse ++ a.reverse.drop b.length) = b.reverse ++ a.reverse.drop b.length := by
        rw [fo_app, fo_all fun x hx => hx]
        exact fo_app_nodup (by rw [← q]; exact fo_plain ha')
      rw [← q] at q2
      exact q2
    rw [z, List.reverse_reverse]
end Km

set_option Elab.async false
set_option linter.all false
/-! what is swallowed, what is done twice: the kinds' mathematics -/
namespace Km
/-- is a small word hidden by a large one -/
def hid6 (k : Kd8) (a b : List Int) : Bool := a.isEmpty || (match k with
  | .set => a.all fun x => decide (x ∈ b)
  | .tails => a.all fun x => decide (x ∈ b)
  | .last => !b.isEmpty
  | _ => false)
theorem hid6_set {a : List Int} (h : a ≠ []) (b : List Int) : hid6 .set a b = a.all fun x => decide (x ∈ b) := by
  cases a with
  | nil => exact absurd rfl h
  | cons _ _ => rfl
theorem hid6_tails {a : List Int} (h : a ≠ []) (b : List Int) : hid6 .tails a b = a.all fun x => decide (x ∈ b) := by
  cases a with
  | nil => exact absurd rfl h
  | cons _ _ => rfl
theorem hid6_last {a : List Int} (h : a ≠ []) (b : List Int) : hid6 .last a b = !decide (b = []) := by
  cases a with
  | nil => exact absurd rfl h
  | cons _ _ => cases b <;> simp [hid6]
def tw0 : Kd8 → Bool
  | .list => false
  | .bag => false
  | _ => true
def tw1 : Kd8 → Bool
  | .set => true
  | .first => true
  | .heads => true
  | _ => false
def tw2 : Kd8 → Bool
  | .set => true
  | .last => true
  | .tails => true
  | _ => false
theorem pl_mid (k : Kd8) (a x b : List Int) : pl k (a ++ (pl k x ++ b)) = pl k (a ++ (x ++ b)) := by
  rw [← pl_right k a (pl k x ++ b), pl_left, pl_right]
theorem mem_tails (x : Int) (l : List Int) : x ∈ pl .tails l ↔ x ∈ l := by
  show x ∈ (fo [] l.reverse).reverse ↔ _
  rw [List.mem_reverse, mem_fo, List.mem_reverse]
  simp
theorem mem_set (x : Int) (l : List Int) : x ∈ pl .set l ↔ x ∈ l := mem_sst x l
theorem head_heads (x : Int) (l : List Int) : (pl .heads (x :: l)).head? = some x := by
  show (fo [x] l).head? = some x
  obtain ⟨t, e⟩ := fo_pre l [x]
  rw [← e]
  rfl
theorem last_lst1 {l : List Int} : (lst1 l).getLast? = l.getLast? := by
  cases h : l.reverse with
  | nil => rw [List.reverse_eq_nil_iff] at h; subst h; rfl
  | cons x r =>
    have e : l = r.reverse ++ [x] := by rw [← List.reverse_reverse l, h, List.reverse_cons]
    rw [e, lst1_app (by simp)]
    simp [lst1]
theorem last_tails (x : Int) (l : List Int) : (pl .tails (l ++ [x])).getLast? = some x := by
  show ((fo [] (l ++ [x]).reverse).reverse).getLast? = some x
  rw [List.getLast?_reverse, List.reverse_append]
  exact head_heads x l.reverse
theorem last_ends (x : Int) (l : List Int) : (pl .ends (l ++ [x])).getLast? = some x := by
  show ((l ++ [x]).take 1 ++ lst1 (l ++ [x])).getLast? = some x
  rw [lst1_app (by simp), lst1_one]
  simp
theorem head_ends (x : Int) (l : List Int) : (pl .ends (x :: l)).head? = some x := rfl
theorem last_snoc {a : List Int} (h : a ≠ []) : ∃ r y, a = r ++ [y] := by
  cases z : a.reverse with
  | nil => exact absurd (List.reverse_eq_nil_iff.mp z) h
  | cons y r => exact ⟨r.reverse, y, by rw [← List.reverse_reverse a, z, List.reverse_cons]⟩
theorem len_bag (l : List Int) : (pl .bag l).length = l.length := (srt_perm l).length_eq
/-- what is hidden makes no difference -/
theorem hid_same {k : Kd8} {a b : List Int} (h : hid6 k a b = true) (w : List Int) : pl k (a ++ (w ++ b)) = pl k (w ++ b) := by
  cases a with
  | nil => rfl
  | cons x r =>
    generalize x :: r = a at *
    have hb : ∀ {a : List Int}, (a.all fun x => decide (x ∈ b)) = true → ∀ y ∈ a, y ∈ b := fun h y hy => of_decide_eq_true (List.all_eq_true.mp h y hy)
    by_cases ea : a = []
    · rw [ea]; rfl
    have ea' : a.isEmpty = false := by cases a with
      | nil => exact absurd rfl ea
      | cons _ _ => rfl
    unfold hid6 at h
    rw [ea', Bool.false_or] at h
    cases k with
    | set =>
      have h := hb h
      refine sst_of (fun z => ?_) (sst_asc _)
      show z ∈ sst _ ↔ _
      rw [mem_sst, List.mem_append]
      constructor
      · rintro (q | q)
        · exact List.mem_append.mpr (.inr (h z q))
        · exact q
      · exact .inr
    | tails =>
      have h := hb h
      show (fo [] (a ++ (w ++ b)).reverse).reverse = (fo [] (w ++ b).reverse).reverse
      rw [List.reverse_append, fo_app, fo_all]
      intro z hz
      rw [mem_fo, List.mem_reverse, List.mem_append]
      exact .inr (.inr (h z (List.mem_reverse.mp hz)))
    | last =>
      have nb : b ≠ [] := fun e => by rw [e] at h; cases h
      show lst1 _ = lst1 _
      rw [lst1_app (by simp [nb])]
    | _ => cases h
/-- the word of one letter that no one has parts them -/
theorem hid_parted {k : Kd8} {a b : List Int} {m : Int} (nl : k ≠ .last) (h : hid6 k a b = false) (hm : ¬ m ∈ a ++ b) : pl k (a ++ (pl k [m] ++ b)) ≠ pl k (pl k [m] ++ b) := by
  rw [pl_mid, pl_left]
  intro e
  have na : a ≠ [] := fun z => by rw [z] at h; cases h
  have ma : ¬ m ∈ a := fun z => hm (List.mem_append.mpr (.inl z))
  have ea' : a.isEmpty = false := by cases a with
    | nil => exact absurd rfl na
    | cons _ _ => rfl
  unfold hid6 at h
  rw [ea', Bool.false_or] at h
  have ex : ∀ {a : List Int}, (a.all fun x => decide (x ∈ b)) = false → ∃ y ∈ a, ¬ y ∈ b := fun h => by
    obtain ⟨y, h1, h2⟩ := List.all_eq_false.mp h
    exact ⟨y, h1, fun z => h2 (decide_eq_true z)⟩
  have hd : ∀ f : List Int → List Int, (∀ x l, (f (x :: l)).head? = some x) → f (a ++ ([m] ++ b)) ≠ f ([m] ++ b) := fun f hf e => by
    cases a with
    | nil => exact na rfl
    | cons x r =>
      have z := congrArg List.head? e
      rw [List.cons_append, hf, show [m] ++ b = m :: b from rfl, hf] at z
      exact ma (by rw [Option.some.inj z]; exact List.mem_cons_self)
  have la : 0 < a.length := List.length_pos_iff.mpr na
  cases k with
  | list =>
    have z := congrArg List.length e
    simp only [pl, List.length_append] at z
    omega
  | bag =>
    have z := congrArg List.length e
    rw [len_bag, len_bag] at z
    simp only [List.length_append] at z
    omega
  | set =>
    obtain ⟨y, h1, h2⟩ := ex h
    have z := (mem_set y _).mp (e ▸ (mem_set y _).mpr (List.mem_append.mpr (.inl h1)))
    rcases List.mem_append.mp z with q | q
    · rw [List.mem_singleton.mp q] at h1
      exact ma h1
    · exact h2 q
  | tails =>
    obtain ⟨y, h1, h2⟩ := ex h
    have z := (mem_tails y _).mp (e ▸ (mem_tails y _).mpr (List.mem_append.mpr (.inl h1)))
    rcases List.mem_append.mp z with q | q
    · rw [List.mem_singleton.mp q] at h1
      exact ma h1
    · exact h2 q
  | last => exact nl rfl
  | first => exact hd (pl .first) (fun x l => rfl) e
  | ends => exact hd (pl .ends) (fun x l => rfl) e
  | heads => exact hd (pl .heads) head_heads e
theorem hid_parted_last {a b : List Int} (h : hid6 .last a b = false) : pl .last (a ++ ([] ++ b)) ≠ pl .last ([] ++ b) := by
  have na : a ≠ [] := fun z => by rw [z] at h; cases h
  have nb : b = [] := by
    cases b with
    | nil => rfl
    | cons x r => unfold hid6 at h; rw [Bool.or_eq_false_iff] at h; cases h.2
  subst nb
  rw [List.append_nil, List.append_nil]
  intro e
  exact na (lst1_nil.mp e)
theorem tw0_same {k : Kd8} {a : List Int} (h : (a.isEmpty || tw0 k) = true) (b : List Int) : pl k (b ++ (a ++ a)) = pl k (b ++ a) := by
  by_cases na : a = []
  · subst na; rfl
  have ea : a.isEmpty = false := by cases a with
    | nil => exact absurd rfl na
    | cons _ _ => rfl
  rw [ea, Bool.false_or] at h
  rw [← pl_right k b (a ++ a), ← pl_right k b a]
  congr 2
  cases k with
  | list => cases h
  | bag => cases h
  | set => exact sst_of (fun z => by show z ∈ sst _ ↔ _; rw [mem_sst, List.mem_append, or_self]) (sst_asc _)
  | first => exact first_app na
  | last => exact lst1_app na
  | ends =>
    show (a ++ a).take 1 ++ lst1 (a ++ a) = a.take 1 ++ lst1 a
    rw [lst1_app na, show (a ++ a).take 1 = a.take 1 from first_app na]
  | heads =>
    show fo [] (a ++ a) = fo [] a
    rw [fo_app, fo_all]
    intro z hz
    exact (mem_fo _ _ _).mpr (.inr hz)
  | tails =>
    show (fo [] (a ++ a).reverse).reverse = (fo [] a.reverse).reverse
    rw [List.reverse_append, fo_app, fo_all]
    intro z hz
    exact (mem_fo _ _ _).mpr (.inr hz)
theorem tw0_not {k : Kd8} {a : List Int} (h : (a.isEmpty || tw0 k) = false) (b : List Int) : pl k (b ++ (a ++ a)) ≠ pl k (b ++ a) := by
  have na : a ≠ [] := fun z => by rw [z] at h; cases h
  have la : 0 < a.length := List.length_pos_iff.mpr na
  rw [Bool.or_eq_false_iff] at h
  intro e
  have z := congrArg List.length e
  cases k with
  | list => simp only [pl, List.length_append] at z; omega
  | bag => rw [len_bag, len_bag] at z; simp only [List.length_append] at z; omega
  | _ => cases h.2
theorem tw1_same {k : Kd8} {a : List Int} (h : (a.isEmpty || tw1 k) = true) (b g : List Int) : pl k (b ++ (a ++ (g ++ a))) = pl k (b ++ (a ++ g)) := by
  by_cases na : a = []
  · subst na; simp
  have ea : a.isEmpty = false := by cases a with
    | nil => exact absurd rfl na
    | cons _ _ => rfl
  rw [ea, Bool.false_or] at h
  rw [← pl_right k b (a ++ (g ++ a)), ← pl_right k b (a ++ g)]
  congr 2
  cases k with
  | set =>
    refine sst_of (fun z => ?_) (sst_asc _)
    show z ∈ sst (a ++ (g ++ a)) ↔ _
    rw [mem_sst]
    simp only [List.mem_append]
    constructor
    · rintro (q | q | q)
      · exact .inl q
      · exact .inr q
      · exact .inl q
    · rintro (q | q)
      · exact .inl q
      · exact .inr (.inl q)
  | first => rw [first_app na, first_app na]
  | heads =>
    show fo [] (a ++ (g ++ a)) = fo [] (a ++ g)
    rw [← List.append_assoc, fo_app (a ++ g), fo_all]
    intro z hz
    exact (mem_fo _ _ _).mpr (.inr (List.mem_append.mpr (.inl hz)))
  | _ => cases h
theorem tw1_not {k : Kd8} {a : List Int} {m : Int} (h : (a.isEmpty || tw1 k) = false) (hm : ¬ m ∈ a) : pl k (a ++ (pl k [m] ++ a)) ≠ pl k (a ++ pl k [m]) := by
  rw [pl_mid, pl_right]
  have na : a ≠ [] := fun z => by rw [z] at h; cases h
  have la : 0 < a.length := List.length_pos_iff.mpr na
  rw [Bool.or_eq_false_iff] at h
  intro e
  have lt : ∀ f : List Int → List Int, (∀ x l, (f (l ++ [x])).getLast? = some x) → f (a ++ ([m] ++ a)) ≠ f (a ++ [m]) := fun f hf e => by
    obtain ⟨r, y, ea⟩ := last_snoc na
    have z := congrArg List.getLast? e
    have e2 : a ++ ([m] ++ a) = (a ++ ([m] ++ r)) ++ [y] := by
      conv => lhs; rw [ea]
      conv => rhs; rw [ea]
      simp
    rw [hf, e2, hf] at z
    exact hm (by rw [ea, ← Option.some.inj z]; simp)
  cases k with
  | list => have z := congrArg List.length e; simp only [pl, List.length_append] at z; omega
  | bag => have z := congrArg List.length e; rw [len_bag, len_bag] at z; simp only [List.length_append] at z; omega
  | last => exact lt (pl .last) (fun x l => by show (lst1 _).getLast? = _; rw [last_lst1]; simp) e
  | ends => exact lt (pl .ends) last_ends e
  | tails => exact lt (pl .tails) last_tails e
  | _ => cases h.2
theorem tw2_same {k : Kd8} {a : List Int} (h : (a.isEmpty || tw2 k) = true) (b g : List Int) : pl k (b ++ (a ++ (g ++ a))) = pl k (b ++ (g ++ a)) := by
  by_cases na : a = []
  · subst na; simp
  have ea : a.isEmpty = false := by cases a with
    | nil => exact absurd rfl na
    | cons _ _ => rfl
  rw [ea, Bool.false_or] at h
  rw [← pl_right k b (a ++ (g ++ a)), ← pl_right k b (g ++ a)]
  congr 2
  cases k with
  | set => exact hid_same (k := .set) (by unfold hid6; rw [ea, Bool.false_or]; exact List.all_eq_true.mpr fun x hx => decide_eq_true hx) g
  | tails => exact hid_same (k := .tails) (by unfold hid6; rw [ea, Bool.false_or]; exact List.all_eq_true.mpr fun x hx => decide_eq_true hx) g
  | last => exact hid_same (k := .last) (by unfold hid6; rw [ea] <;> rfl) g
  | _ => cases h
theorem tw2_not {k : Kd8} {a : List Int} {m : Int} (h : (a.isEmpty || tw2 k) = false) (hm : ¬ m ∈ a) : pl k (a ++ (pl k [m] ++ a)) ≠ pl k (pl k [m] ++ a) := by
  have na : a ≠ [] := fun z => by rw [z] at h; cases h
  have ea : a.isEmpty = false := by cases a with
    | nil => exact absurd rfl na
    | cons _ _ => rfl
  have h' := h
  rw [Bool.or_eq_false_iff] at h'
  refine hid_parted (b := a) (fun z => by rw [z] at h'; cases h'.2) ?_ (fun z => hm ((List.mem_append.mp z).elim id id))
  unfold hid6
  rw [ea, Bool.false_or]
  cases k with
  | set => cases h'.2
  | last => cases h'.2
  | tails => cases h'.2
  | _ => rfl
/-- the long and the short row of the three ways -/
def lng (i : Nat) (h a g : List Int) : List Int := if i = 0 then h ++ (a ++ a) else h ++ (a ++ (g ++ a))
def sht (i : Nat) (h a g : List Int) : List Int := if i = 0 then h ++ a else if i = 1 then h ++ (a ++ g) else h ++ (g ++ a)
def twd (i : Nat) (k : Kd8) : Bool := if i = 0 then tw0 k else if i = 1 then tw1 k else tw2 k
theorem tw_same {i : Nat} {k : Kd8} {a : List Int} (h : (a.isEmpty || twd i k) = true) (b g : List Int) : pl k (lng i b a g) = pl k (sht i b a g) := by
  unfold lng sht twd at *
  by_cases e0 : i = 0
  · simp only [e0, if_true] at *; exact tw0_same h b
  · by_cases e1 : i = 1
    · simp only [e0, e1, if_true, if_false] at *; exact tw1_same h b g
    · simp only [e0, e1, if_false] at *; exact tw2_same h b g
theorem tw_not {i : Nat} {k : Kd8} {a : List Int} {m : Int} (h : (a.isEmpty || twd i k) = false) (hm : ¬ m ∈ a) : pl k (lng i [] a (pl k [m])) ≠ pl k (sht i [] a (pl k [m])) := by
  unfold lng sht twd at *
  by_cases e0 : i = 0
  · simp only [e0, if_true] at *; exact tw0_not h []
  · by_cases e1 : i = 1
    · simp only [e0, e1, if_true, if_false] at *; exact tw1_not h hm
    · simp only [e0, e1, if_false] at *; exact tw2_not h hm
end Km

set_option Elab.async false
set_option linter.all false
/-! what is left from one plain word to another: the kinds' mathematics -/
namespace Km
/-- the first of each letter of the second word taken out of the first -/
def cutAll : List Int → List Int → List Int
  | l, [] => l
  | l, x :: r => cutAll (l.erase x) r
/-- the rest from one plain word to another -/
def rstA (a b : List Int) : Option (List Int) := if b.take a.length = a then some (b.drop a.length) else none
theorem rstA_some {a b w : List Int} : rstA a b = some w ↔ b = a ++ w := by
  unfold rstA
  split
  · rename_i h
    constructor
    · intro e
      rw [← Option.some.inj e, ← h, List.length_take]
      conv => lhs; rw [← List.take_append_drop a.length b]
      congr 2
      have := congrArg List.length h
      rw [List.length_take] at this
      omega
    · rintro rfl
      simp
  · rename_i h
    constructor
    · intro e; cases e
    · rintro rfl
      simp at h
def lst0 (a b : List Int) : Option (List Int) := if a = b then some [] else if b = [] then none else some b
def end0 (a b : List Int) : Option (List Int) := if a = b then some [] else if a ≠ [] ∧ a.take 1 ≠ b.take 1 then none else some b
/-- list -/
theorem list_rst {a b w : List Int} : rstA a b = some w ↔ pl .list (a ++ w) = b := by
  rw [rstA_some]
  exact ⟨fun h => h.symm, fun h => h.symm⟩
/-- heads -/
theorem heads_rst {a b w : List Int} (ha : pl .heads a = a) (hb : pl .heads b = b) (h : rstA a b = some w) : pl .heads w = w ∧ pl .heads (a ++ w) = b := by
  have e := rstA_some.mp h
  have nd := fo_plain (show fo [] b = b from hb)
  rw [e] at nd
  have nw : w.Nodup := (List.nodup_append.mp nd).2.1
  refine ⟨?_, by rw [← e]; exact hb⟩
  show fo [] w = w
  rw [fo_app_nodup (l := w) (acc := []) (by simpa using nw)]
  rfl
theorem fo_split : ∀ (w acc : List Int), ∃ r, fo acc w = acc ++ r ∧ r.length ≤ w.length ∧ (r.length = w.length → r = w)
  | [], acc => ⟨[], by simp [fo], Nat.le_refl _, fun _ => rfl⟩
  | x :: l, acc => by
    by_cases h : x ∈ acc
    · obtain ⟨r, e1, e2, e3⟩ := fo_split l acc
      refine ⟨r, ?_, by simp only [List.length_cons]; omega, fun z => by simp only [List.length_cons] at z; omega⟩
      show fo (if x ∈ acc then acc else acc ++ [x]) l = _
      rw [if_pos h, e1]
    · obtain ⟨r, e1, e2, e3⟩ := fo_split l (acc ++ [x])
      refine ⟨x :: r, ?_, by simp only [List.length_cons]; omega, fun z => ?_⟩
      · show fo (if x ∈ acc then acc else acc ++ [x]) l = _
        rw [if_neg h, e1, List.append_assoc]
        rfl
      · rw [e3 (by simp only [List.length_cons] at z; omega)]
theorem heads_short {a b w : List Int} (ha : pl .heads a = a) (h : pl .heads (a ++ w) = b) : ∃ v, rstA a b = some v ∧ v.length ≤ w.length ∧ (v.length = w.length → v = w) := by
  have e : fo a w = b := by
    have : fo [] (a ++ w) = b := h
    rw [fo_app, show fo [] a = a from ha] at this
    exact this
  obtain ⟨r, e1, e2, e3⟩ := fo_split w a
  exact ⟨r, rstA_some.mpr (by rw [← e, e1]), e2, e3⟩
/-- first -/
theorem first_rst {a b w : List Int} (ha : pl .first a = a) (hb : pl .first b = b) (h : rstA a b = some w) : pl .first w = w ∧ pl .first (a ++ w) = b := by
  have e := rstA_some.mp h
  refine ⟨?_, by rw [← e]; exact hb⟩
  have : (a ++ w).length ≤ 1 := by
    rw [← e, ← hb]
    show (b.take 1).length ≤ 1
    rw [List.length_take]
    omega
  show w.take 1 = w
  rw [List.take_of_length_le]
  rw [List.length_append] at this
  omega
theorem first_short {a b w : List Int} (ha : pl .first a = a) (hw : pl .first w = w) (h : pl .first (a ++ w) = b) : ∃ v, rstA a b = some v ∧ v.length ≤ w.length ∧ (v.length = w.length → v = w) := by
  by_cases na : a = []
  · subst na
    exact ⟨b, rstA_some.mpr rfl, by rw [← h]; show (pl .first w).length ≤ _; rw [hw]; exact Nat.le_refl _, fun _ => by rw [← h]; exact hw⟩
  · have e : b = a := by rw [← h, first_app na, ha]
    exact ⟨[], rstA_some.mpr (by rw [e, List.append_nil]), Nat.zero_le _, fun z => (List.length_eq_zero_iff.mp z.symm).symm⟩
/-- last -/
theorem last_rst {a b w : List Int} (ha : pl .last a = a) (hb : pl .last b = b) (h : lst0 a b = some w) : pl .last w = w ∧ pl .last (a ++ w) = b := by
  unfold lst0 at h
  split at h
  · rename_i e
    rw [← Option.some.inj h, List.append_nil]
    exact ⟨rfl, ha.trans e⟩
  · split at h
    · cases h
    · rename_i nb
      rw [← Option.some.inj h]
      exact ⟨hb, (lst1_app nb).trans hb⟩
theorem last_short {a b w : List Int} (ha : pl .last a = a) (hw : pl .last w = w) (h : pl .last (a ++ w) = b) : ∃ v, lst0 a b = some v ∧ v.length ≤ w.length ∧ (v.length = w.length → v = w) := by
  unfold lst0
  by_cases nw : w = []
  · subst nw
    rw [List.append_nil, ha] at h
    exact ⟨[], if_pos h, Nat.le_refl _, fun _ => rfl⟩
  · have e : b = w := by rw [← h]; exact (lst1_app nw).trans hw
    by_cases ab : a = b
    · exact ⟨[], if_pos ab, Nat.zero_le _, fun z => (List.length_eq_zero_iff.mp z.symm).symm⟩
    · exact ⟨b, by rw [if_neg ab, if_neg (by rw [e]; exact nw)], by rw [e]; exact Nat.le_refl _, fun _ => e⟩
/-- ends -/
theorem ends_rst {a b w : List Int} (ha : pl .ends a = a) (hb : pl .ends b = b) (h : end0 a b = some w) : pl .ends w = w ∧ pl .ends (a ++ w) = b := by
  unfold end0 at h
  split at h
  · rename_i e
    rw [← Option.some.inj h, List.append_nil]
    exact ⟨rfl, ha.trans e⟩
  · split at h
    · cases h
    · rename_i n1 n2
      rw [← Option.some.inj h]
      refine ⟨hb, ?_⟩
      by_cases na : a = []
      · subst na; exact hb
      by_cases nb : b = []
      · subst nb
        obtain ⟨x, y, rfl⟩ := ends_pair ha na
        exact absurd ⟨na, by simp⟩ n2
      · obtain ⟨x, y, rfl⟩ := ends_pair ha na
        obtain ⟨u, v, rfl⟩ := ends_pair hb nb
        have : x = u := by
          rcases Decidable.em (x = u) with q | q
          · exact q
          · exact absurd ⟨na, by simpa using q⟩ n2
        subst this
        rfl
theorem ends_short {a b w : List Int} (ha : pl .ends a = a) (hw : pl .ends w = w) (h : pl .ends (a ++ w) = b) : ∃ v, end0 a b = some v ∧ v.length ≤ w.length := by
  unfold end0
  by_cases nw : w = []
  · subst nw
    rw [List.append_nil, ha] at h
    exact ⟨[], if_pos h, Nat.le_refl _⟩
  · by_cases ab : a = b
    · exact ⟨[], if_pos ab, Nat.zero_le _⟩
    · obtain ⟨u, v, rfl⟩ := ends_pair hw nw
      by_cases na : a = []
      · subst na
        refine ⟨b, by rw [if_neg ab, if_neg (fun z => z.1 rfl)], ?_⟩
        rw [← h]
        exact Nat.le_refl _
      · obtain ⟨x, y, rfl⟩ := ends_pair ha na
        have e : b = [x, v] := by rw [← h]; rfl
        refine ⟨b, by rw [if_neg ab, if_neg (fun z => z.2 (by rw [e] <;> rfl))], by rw [e]; exact Nat.le_refl _⟩
end Km
namespace Km
/-- bag -/
def subM : List Int → List Int → Bool
  | [], _ => true
  | x :: r, b => decide (x ∈ b) && subM r (b.erase x)
theorem cutAll_sub : ∀ (a b : List Int), (cutAll b a).Sublist b
  | [], b => List.Sublist.refl _
  | x :: r, b => (cutAll_sub r (b.erase x)).trans List.erase_sublist
theorem bag_perm : ∀ (a b : List Int), subM a b = true → (a ++ cutAll b a).Perm b
  | [], b, _ => List.Perm.refl _
  | x :: r, b, h => by
    unfold subM at h
    rw [Bool.and_eq_true, decide_eq_true_eq] at h
    exact ((bag_perm r (b.erase x) h.2).cons x).trans (List.perm_cons_erase h.1).symm
theorem bag_subM : ∀ (a b w : List Int), (a ++ w).Perm b → subM a b = true
  | [], _, _, _ => rfl
  | x :: r, b, w, h => by
    have h' := (List.cons_perm_iff_perm_erase (l₁ := r ++ w)).mp h
    unfold subM
    rw [Bool.and_eq_true, decide_eq_true_eq]
    exact ⟨h'.1, bag_subM r _ w h'.2⟩
def bag0 (a b : List Int) : Option (List Int) := if subM a b then some (cutAll b a) else none
theorem bag_sorted {b : List Int} (hb : pl .bag b = b) : b.Pairwise (· ≤ ·) := by
  rw [← hb]
  exact srt_sorted b
theorem bag_rst {a b w : List Int} (hb : pl .bag b = b) (h : bag0 a b = some w) : pl .bag w = w ∧ pl .bag (a ++ w) = b := by
  unfold bag0 at h
  split at h
  · rename_i s
    rw [← Option.some.inj h]
    exact ⟨(srt_of (List.Perm.refl _) ((bag_sorted hb).sublist (cutAll_sub a b))).symm, (srt_of (bag_perm a b s).symm (bag_sorted hb)).symm⟩
  · cases h
theorem bag_short {a b w : List Int} (hw : pl .bag w = w) (h : pl .bag (a ++ w) = b) : bag0 a b = some w := by
  have p : (a ++ w).Perm b := by rw [← h]; exact (srt_perm _).symm
  have s := bag_subM a b w p
  have hb : b.Pairwise (· ≤ ·) := by rw [← h]; exact srt_sorted _
  unfold bag0
  rw [if_pos s]
  congr 1
  have q : (a ++ cutAll b a).Perm (a ++ w) := (bag_perm a b s).trans p.symm
  exact sorted_uniq ((List.perm_append_left_iff a).mp q) (hb.sublist (cutAll_sub a b)) (bag_sorted hw)
/-- set -/
def set0 (a b : List Int) : Option (List Int) := if (a.all fun x => decide (x ∈ b)) then some (cutAll b a) else none
theorem mem_cutAll : ∀ (a b : List Int) (x : Int), b.Nodup → (x ∈ cutAll b a ↔ x ∈ b ∧ ¬ x ∈ a)
  | [], b, x, _ => by simp [cutAll]
  | y :: r, b, x, nd => by
    show x ∈ cutAll (b.erase y) r ↔ _
    rw [mem_cutAll r (b.erase y) x (nd.sublist List.erase_sublist), List.Nodup.mem_erase_iff nd]
    simp only [List.mem_cons, not_or]
    constructor
    · rintro ⟨⟨h1, h2⟩, h3⟩
      exact ⟨h2, h1, h3⟩
    · rintro ⟨h2, h1, h3⟩
      exact ⟨⟨h1, h2⟩, h3⟩
theorem asc_nodup {l : List Int} (h : l.Pairwise (· < ·)) : l.Nodup := h.imp fun h e => by omega
theorem set_asc {b : List Int} (hb : pl .set b = b) : b.Pairwise (· < ·) := by
  rw [← hb]
  exact sst_asc b
theorem asc_sub : ∀ {v w : List Int}, v.Pairwise (· < ·) → w.Pairwise (· < ·) → (∀ x ∈ v, x ∈ w) → v.Sublist w
  | [], w, _, _, _ => List.nil_sublist w
  | x :: r, [], _, _, h => absurd (h x List.mem_cons_self) List.not_mem_nil
  | x :: r, y :: s, hv, hw, h => by
    have hv' := List.pairwise_cons.mp hv
    have hw' := List.pairwise_cons.mp hw
    by_cases e : x = y
    · subst e
      refine List.Sublist.cons₂ x (asc_sub hv'.2 hw'.2 fun z hz => ?_)
      rcases List.mem_cons.mp (h z (List.mem_cons_of_mem _ hz)) with q | q
      · have := hv'.1 z hz
        omega
      · exact q
    · refine List.Sublist.cons y (asc_sub hv hw'.2 fun z hz => ?_)
      rcases List.mem_cons.mp (h z hz) with q | q
      · exfalso
        have hx := h x List.mem_cons_self
        rcases List.mem_cons.mp hx with q2 | q2
        · exact e q2
        · have h1 := hw'.1 x q2
          rcases List.mem_cons.mp hz with q3 | q3
          · omega
          · have := hv'.1 z q3
            omega
      · exact q
theorem set_rst {a b w : List Int} (hb : pl .set b = b) (h : set0 a b = some w) : pl .set w = w ∧ pl .set (a ++ w) = b := by
  have hs := set_asc hb
  unfold set0 at h
  split at h
  · rename_i s
    have s : ∀ x ∈ a, x ∈ b := fun x hx => of_decide_eq_true (List.all_eq_true.mp s x hx)
    rw [← Option.some.inj h]
    refine ⟨(sst_of (fun _ => Iff.rfl) (hs.sublist (cutAll_sub a b))).symm, (sst_of (fun x => ?_) hs).symm⟩
    rw [List.mem_append, mem_cutAll a b x (asc_nodup hs)]
    constructor
    · intro hx
      by_cases q : x ∈ a
      · exact .inl q
      · exact .inr ⟨hx, q⟩
    · rintro (q | q)
      · exact s x q
      · exact q.1
  · cases h
theorem set_short {a b w : List Int} (hw : pl .set w = w) (h : pl .set (a ++ w) = b) : ∃ v, set0 a b = some v ∧ v.length ≤ w.length ∧ (v.length = w.length → v = w) := by
  have hs : b.Pairwise (· < ·) := by rw [← h]; exact sst_asc _
  have mb : ∀ x, x ∈ b ↔ x ∈ a ∨ x ∈ w := fun x => by rw [← h]; exact (mem_sst x _).trans List.mem_append
  have s : (a.all fun x => decide (x ∈ b)) = true := List.all_eq_true.mpr fun x hx => decide_eq_true ((mb x).mpr (.inl hx))
  have sub : (cutAll b a).Sublist w := asc_sub (hs.sublist (cutAll_sub a b)) (set_asc hw) fun x hx => by
    obtain ⟨h1, h2⟩ := (mem_cutAll a b x (asc_nodup hs)).mp hx
    exact ((mb x).mp h1).resolve_left h2
  exact ⟨_, if_pos s, sub.length_le, sub.eq_of_length⟩
end Km
namespace Km
/-- tails -/
def aft (x : Int) : List Int → List Int
  | [] => []
  | y :: r => if x = y then r else aft x r
def kq : List Int → List Int → Nat
  | _, [] => 0
  | a, x :: r => if x ∈ a then kq (aft x a) r + 1 else 0
theorem kq_le : ∀ (b a : List Int), kq a b ≤ b.length
  | [], _ => Nat.le_refl _
  | x :: r, a => by
    show (if x ∈ a then kq (aft x a) r + 1 else 0) ≤ _
    have := kq_le r (aft x a)
    split
    · simp only [List.length_cons]; omega
    · exact Nat.zero_le _
theorem aft_sub : ∀ {x : Int} {a l : List Int}, x ∈ a → l.Sublist (aft x a) → (x :: l).Sublist a
  | x, [], _, h, _ => absurd h List.not_mem_nil
  | x, y :: r, l, h, s => by
    by_cases e : x = y
    · subst e
      rw [show aft x (x :: r) = r from if_pos rfl] at s
      exact s.cons₂ x
    · rw [show aft x (y :: r) = aft x r from if_neg e] at s
      exact (aft_sub ((List.mem_cons.mp h).resolve_left e) s).cons y
theorem sub_aft : ∀ {x : Int} {a l : List Int}, (x :: l).Sublist a → l.Sublist (aft x a)
  | x, [], l, s => by cases s
  | x, y :: r, l, s => by
    by_cases e : x = y
    · subst e
      rw [show aft x (x :: r) = r from if_pos rfl]
      cases s with
      | cons _ h => exact (List.sublist_cons_self x l).trans h
      | cons_cons _ h => exact h
    · rw [show aft x (y :: r) = aft x r from if_neg e]
      cases s with
      | cons _ h => exact sub_aft h
      | cons_cons _ h => exact absurd rfl e
theorem kq_sound : ∀ (b a : List Int), (b.take (kq a b)).Sublist a
  | [], a => by simp
  | x :: r, a => by
    by_cases h : x ∈ a
    · rw [show kq a (x :: r) = kq (aft x a) r + 1 from if_pos h, List.take_succ_cons]
      exact aft_sub h (kq_sound r _)
    · rw [show kq a (x :: r) = 0 from if_neg h, List.take_zero]
      exact List.nil_sublist a
theorem kq_max : ∀ (b a : List Int) (j : Nat), j ≤ b.length → (b.take j).Sublist a → j ≤ kq a b
  | _, _, 0, _, _ => Nat.zero_le _
  | [], _, j + 1, h, _ => by simp at h
  | x :: r, a, j + 1, h, s => by
    rw [List.take_succ_cons] at s
    have hx : x ∈ a := s.subset List.mem_cons_self
    rw [show kq a (x :: r) = kq (aft x a) r + 1 from if_pos hx]
    have := kq_max r (aft x a) j (by simp only [List.length_cons] at h; omega) (sub_aft s)
    omega
theorem fo_filter : ∀ (l acc : List Int), l.Nodup → fo acc l = acc ++ l.filter (fun x => decide (¬ x ∈ acc))
  | [], acc, _ => by simp [fo]
  | x :: r, acc, nd => by
    have nd' := List.nodup_cons.mp nd
    show fo (if x ∈ acc then acc else acc ++ [x]) r = _
    by_cases h : x ∈ acc
    · rw [if_pos h, fo_filter r acc nd'.2, List.filter_cons, if_neg (by simpa using h)]
    · rw [if_neg h, fo_filter r (acc ++ [x]) nd'.2, List.filter_cons, if_pos (by simpa using h), List.append_assoc]
      congr 1
      rw [List.singleton_append]
      congr 1
      refine List.filter_congr fun y hy => ?_
      have : y ≠ x := fun e => nd'.1 (e ▸ hy)
      simp [this]
theorem nodup_rev (l : List Int) : l.reverse.Nodup ↔ l.Nodup := (List.reverse_perm l).nodup_iff
theorem tails_nodup {a : List Int} (ha : pl .tails a = a) : a.Nodup := by
  have h : (fo [] a.reverse).reverse = a := ha
  have h2 : fo [] a.reverse = a.reverse := by
    conv => rhs; rw [← h]
    rw [List.reverse_reverse]
  exact (nodup_rev _).mp (fo_plain h2)
theorem tails_of_nodup {a : List Int} (h : a.Nodup) : pl .tails a = a := by
  show (fo [] a.reverse).reverse = a
  rw [fo_app_nodup (l := a.reverse) (acc := []) (by rw [List.nil_append]; exact (nodup_rev _).mpr h)]
  simp
theorem tails_app {a w : List Int} (ha : a.Nodup) (hw : w.Nodup) : pl .tails (a ++ w) = a.filter (fun x => decide (¬ x ∈ w)) ++ w := by
  show (fo [] (a ++ w).reverse).reverse = _
  rw [List.reverse_append, fo_app, fo_app_nodup (l := w.reverse) (acc := []) (by rw [List.nil_append]; exact (nodup_rev _).mpr hw), List.nil_append, fo_filter _ _ ((nodup_rev _).mpr ha), List.reverse_append, List.reverse_reverse, ← List.filter_reverse, List.reverse_reverse]
  congr 1
  exact List.filter_congr fun y _ => by simp
theorem sub_filter : ∀ {P a : List Int}, P.Sublist a → a.Nodup → P = a.filter (fun x => decide (x ∈ P))
  | _, _, .slnil, _ => rfl
  | P, y :: r, .cons _ h, nd => by
    have nd' := List.nodup_cons.mp nd
    have ny : ¬ y ∈ P := fun q => nd'.1 (h.subset q)
    rw [List.filter_cons, if_neg (by simpa using ny)]
    exact sub_filter h nd'.2
  | y :: P, _ :: r, .cons_cons _ h, nd => by
    have nd' := List.nodup_cons.mp nd
    rw [List.filter_cons, if_pos (by simp)]
    congr 1
    conv => lhs; rw [sub_filter h nd'.2]
    refine List.filter_congr fun z hz => ?_
    have : z ≠ y := fun e => nd'.1 (e ▸ hz)
    simp [this]
def tails0 (a b : List Int) : Option (List Int) := if (a.all fun x => decide (x ∈ b)) then some (b.drop (kq a b)) else none
theorem tails_rst {a b w : List Int} (ha : pl .tails a = a) (hb : pl .tails b = b) (h : tails0 a b = some w) : pl .tails w = w ∧ pl .tails (a ++ w) = b := by
  have na := tails_nodup ha
  have nb := tails_nodup hb
  unfold tails0 at h
  split at h
  · rename_i s
    have s : ∀ x ∈ a, x ∈ b := fun x hx => of_decide_eq_true (List.all_eq_true.mp s x hx)
    rw [← Option.some.inj h]
    have nw : (b.drop (kq a b)).Nodup := nb.sublist (List.drop_sublist _ _)
    refine ⟨tails_of_nodup nw, ?_⟩
    rw [tails_app na nw]
    conv => rhs; rw [← List.take_append_drop (kq a b) b]
    congr 1
    rw [sub_filter (kq_sound b a) na]
    refine List.filter_congr fun x hx => ?_
    have hx2 := s x hx
    have nb' := nb
    rw [← List.take_append_drop (kq a b) b] at hx2 nb'
    have dj := (List.nodup_append.mp nb').2.2
    rw [Bool.eq_iff_iff, decide_eq_true_eq, decide_eq_true_eq]
    constructor
    · intro q
      exact (List.mem_append.mp hx2).resolve_right q
    · intro q q2
      exact dj x q x q2 rfl
  · cases h
theorem tails_short {a b w : List Int} (ha : pl .tails a = a) (hw : pl .tails w = w) (h : pl .tails (a ++ w) = b) : ∃ v, tails0 a b = some v ∧ v.length ≤ w.length ∧ (v.length = w.length → v = w) := by
  have e := tails_app (tails_nodup ha) (tails_nodup hw)
  rw [h] at e
  have s : (a.all fun x => decide (x ∈ b)) = true := List.all_eq_true.mpr fun x hx => decide_eq_true (by
    rw [e, List.mem_append]
    by_cases q : x ∈ w
    · exact .inr q
    · exact .inl (List.mem_filter.mpr ⟨hx, by simpa using q⟩))
  refine ⟨_, if_pos s, ?_⟩
  generalize hF : a.filter (fun x => decide (¬ x ∈ w)) = F at *
  have lb : b.length = F.length + w.length := by rw [e, List.length_append]
  have hj : F.length ≤ kq a b := kq_max b a F.length (by omega) (by
    rw [e, List.take_left', ← hF]
    · exact List.filter_sublist
    · rfl)
  have hk := kq_le b a
  refine ⟨by rw [List.length_drop]; omega, fun z => ?_⟩
  rw [List.length_drop] at z
  have : kq a b = F.length := by omega
  rw [this, e, List.drop_left']
  rfl
end Km
namespace Km
theorem subM_nodup : ∀ (a b : List Int), a.Nodup → subM a b = a.all fun x => decide (x ∈ b)
  | [], _, _ => rfl
  | x :: r, b, nd => by
    have nd' := List.nodup_cons.mp nd
    show (decide (x ∈ b) && subM r (b.erase x)) = (decide (x ∈ b) && r.all fun y => decide (y ∈ b))
    rw [subM_nodup r _ nd'.2]
    congr 1
    rw [Bool.eq_iff_iff, List.all_eq_true, List.all_eq_true]
    simp only [decide_eq_true_eq]
    have ne : ∀ y ∈ r, y ≠ x := fun y hy e => nd'.1 (e ▸ hy)
    exact ⟨fun h y hy => (List.mem_erase_of_ne (ne y hy)).mp (h y hy), fun h y hy => (List.mem_erase_of_ne (ne y hy)).mpr (h y hy)⟩
theorem set_bag {a : List Int} (ha : pl .set a = a) (b : List Int) : set0 a b = bag0 a b := by
  unfold set0 bag0
  rw [subM_nodup a b (asc_nodup (set_asc ha))]
theorem nodup_get : ∀ {a : List Int}, a.Nodup → ∀ {i j : Nat} {x : Int}, a[i]? = some x → a[j]? = some x → i = j
  | [], _, i, _, _, h, _ => by simp at h
  | y :: r, nd, i, j, x, hi, hj => by
    have nd' := List.nodup_cons.mp nd
    cases i with
    | zero =>
      cases j with
      | zero => rfl
      | succ j =>
        exfalso
        have e : y = x := Option.some.inj hi
        exact nd'.1 (e ▸ List.mem_of_getElem? (show r[j]? = some x from hj))
    | succ i =>
      cases j with
      | zero =>
        exfalso
        have e : y = x := Option.some.inj hj
        exact nd'.1 (e ▸ List.mem_of_getElem? (show r[i]? = some x from hi))
      | succ j => exact congrArg Nat.succ (nodup_get nd'.2 (show r[i]? = some x from hi) (show r[j]? = some x from hj))
theorem mem_drop {a : List Int} (nd : a.Nodup) {i n : Nat} {x : Int} (hi : a[i]? = some x) : x ∈ a.drop n ↔ n ≤ i := by
  constructor
  · intro h
    obtain ⟨j, hj⟩ := List.mem_iff_getElem?.mp h
    rw [List.getElem?_drop] at hj
    have := nodup_get nd hi hj
    omega
  · intro h
    refine List.mem_iff_getElem?.mpr ⟨i - n, ?_⟩
    rw [List.getElem?_drop, show n + (i - n) = i by omega]
    exact hi
theorem aft_at : ∀ {l : List Int}, l.Nodup → ∀ {i : Nat} {x : Int}, l[i]? = some x → aft x l = l.drop (i + 1)
  | [], _, i, _, h => by simp at h
  | y :: r, nd, i, x, h => by
    have nd' := List.nodup_cons.mp nd
    cases i with
    | zero =>
      have e : x = y := (Option.some.inj h).symm
      show (if x = y then r else aft x r) = r
      rw [if_pos e]
    | succ i =>
      have h' : r[i]? = some x := h
      have ne : ¬ x = y := fun e => nd'.1 (e ▸ List.mem_of_getElem? h')
      show (if x = y then r else aft x r) = r.drop (i + 1)
      rw [if_neg ne, aft_at nd'.2 h']
theorem kq_go {a b : List Int} (nd : a.Nodup) {n j i : Nat} {x : Int} (hx : b[j]? = some x) (hi : a[i]? = some x) (le : n ≤ i) : kq (a.drop n) (b.drop j) = kq (a.drop (i + 1)) (b.drop (j + 1)) + 1 := by
  obtain ⟨lt, e⟩ := List.getElem?_eq_some_iff.mp hx
  rw [List.drop_eq_getElem_cons lt, e]
  show (if x ∈ a.drop n then kq (aft x (a.drop n)) (b.drop (j + 1)) + 1 else 0) = _
  rw [if_pos ((mem_drop nd hi).mpr le)]
  have h2 : (a.drop n)[i - n]? = some x := by
    rw [List.getElem?_drop, show n + (i - n) = i by omega]
    exact hi
  rw [aft_at (nd.sublist (List.drop_sublist _ _)) h2, List.drop_drop, show n + (i - n + 1) = i + 1 by omega]
theorem kq_stop {a b : List Int} {n j : Nat} {x : Int} (hx : b[j]? = some x) (no : ¬ x ∈ a.drop n) : kq (a.drop n) (b.drop j) = 0 := by
  obtain ⟨lt, e⟩ := List.getElem?_eq_some_iff.mp hx
  rw [List.drop_eq_getElem_cons lt, e]
  exact if_neg no
theorem kq_end {a b : List Int} {n : Nat} : kq (a.drop n) (b.drop b.length) = 0 := by
  rw [List.drop_length]
  rfl
end Km

set_option Elab.async false
set_option linter.all false
/-! the rest of a bag as the program counts it: pairs of a letter and how often it is spare -/
namespace Km
abbrev Dn := List (Int × Nat)
def getN : Dn → Int → Nat
  | [], _ => 0
  | p :: r, x => if p.1 = x then p.2 else getN r x
def putN : Dn → Int → Nat → Dn
  | [], x, n => [(x, n)]
  | p :: r, x, n => if p.1 = x then (x, n) :: r else p :: putN r x n
def incN (d : Dn) (x : Int) : Dn := putN d x (getN d x + 1)
def decN (d : Dn) (x : Int) : Dn := putN d x (getN d x - 1)
def tally (b : List Int) : Dn := b.foldl incN []
def takeN : List Int → Dn → Option Dn
  | [], d => some d
  | x :: r, d => if getN d x = 0 then none else takeN r (decN d x)
def flatN (d : Dn) : List Int := d.flatMap fun p => List.replicate p.2 p.1
def bagR (a b : List Int) : Option (List Int) := (takeN a (tally b)).map flatN
def keysN (d : Dn) : List Int := d.map (·.1)
theorem getN_put (d : Dn) (x y : Int) (n : Nat) : getN (putN d x n) y = if x = y then n else getN d y := by
  induction d with
  | nil => show (if x = y then n else 0) = _; rfl
  | cons p r ih =>
    show getN (if p.1 = x then (x, n) :: r else p :: putN r x n) y = _
    by_cases h : p.1 = x
    · rw [if_pos h]
      show (if x = y then n else getN r y) = if x = y then n else if p.1 = y then p.2 else getN r y
      by_cases e : x = y
      · rw [if_pos e, if_pos e]
      · rw [if_neg e, if_neg e, if_neg (by rw [h]; exact e)]
    · rw [if_neg h]
      show (if p.1 = y then p.2 else getN (putN r x n) y) = if x = y then n else if p.1 = y then p.2 else getN r y
      rw [ih]
      by_cases e : p.1 = y
      · rw [if_pos e, if_pos e, if_neg (fun z => h (e.trans z.symm))]
      · rw [if_neg e, if_neg e]
theorem keys_put (d : Dn) (x : Int) (n : Nat) : keysN (putN d x n) = if x ∈ keysN d then keysN d else keysN d ++ [x] := by
  induction d with
  | nil => rfl
  | cons p r ih =>
    show keysN (if p.1 = x then (x, n) :: r else p :: putN r x n) = _
    by_cases h : p.1 = x
    · rw [if_pos h, if_pos (by show x ∈ p.1 :: keysN r; rw [h]; exact List.mem_cons_self)]
      show x :: keysN r = p.1 :: keysN r
      rw [h]
    · rw [if_neg h]
      show p.1 :: keysN (putN r x n) = _
      rw [ih]
      have : (x ∈ keysN (p :: r)) ↔ x ∈ keysN r := by
        show x ∈ p.1 :: keysN r ↔ _
        rw [List.mem_cons]
        exact ⟨fun z => z.resolve_left (fun q => h q.symm), .inr⟩
      by_cases e : x ∈ keysN r
      · rw [if_pos e, if_pos (this.mpr e)]; rfl
      · rw [if_neg e, if_neg (fun z => e (this.mp z))]; rfl
theorem getN_not {d : Dn} {x : Int} (h : ¬ x ∈ keysN d) : getN d x = 0 := by
  induction d with
  | nil => rfl
  | cons p r ih =>
    show (if p.1 = x then p.2 else getN r x) = 0
    rw [if_neg (fun z : p.1 = x => h (by rw [← z]; exact List.mem_cons_self)), ih (fun z => h (List.mem_cons_of_mem _ z))]
/-- the pairs tell the sorted row b -/
structure RelN (d : Dn) (b : List Int) : Prop where
  asc : (keysN d).Pairwise (· < ·)
  cnt : ∀ x, getN d x = b.count x
theorem count_flat {d : Dn} (h : (keysN d).Pairwise (· < ·)) (x : Int) : (flatN d).count x = getN d x := by
  induction d with
  | nil => rfl
  | cons p r ih =>
    have h' := List.pairwise_cons.mp (show (p.1 :: keysN r).Pairwise (· < ·) from h)
    show (List.replicate p.2 p.1 ++ flatN r).count x = if p.1 = x then p.2 else getN r x
    rw [List.count_append, ih h'.2, List.count_replicate]
    by_cases e : p.1 = x
    · subst e
      have : getN r p.1 = 0 := getN_not fun z => by have := h'.1 _ z; omega
      rw [if_pos rfl, this]
      simp
    · rw [if_neg e]
      have : (p.1 == x) = false := by simpa using e
      rw [this]
      simp
theorem mem_flat {d : Dn} {x : Int} (h : x ∈ flatN d) : x ∈ keysN d := by
  obtain ⟨p, hp, hx⟩ := List.mem_flatMap.mp h
  rw [(List.mem_replicate.mp hx).2]
  exact List.mem_map.mpr ⟨p, hp, rfl⟩
theorem sorted_flat {d : Dn} (h : (keysN d).Pairwise (· < ·)) : (flatN d).Pairwise (· ≤ ·) := by
  induction d with
  | nil => exact List.Pairwise.nil
  | cons p r ih =>
    have h' := List.pairwise_cons.mp (show (p.1 :: keysN r).Pairwise (· < ·) from h)
    show (List.replicate p.2 p.1 ++ flatN r).Pairwise (· ≤ ·)
    rw [List.pairwise_append]
    refine ⟨List.pairwise_replicate.mpr (.inr (Int.le_refl _)), ih h'.2, fun u hu v hv => ?_⟩
    rw [(List.mem_replicate.mp hu).2]
    have := h'.1 v (mem_flat hv)
    omega
theorem flat_rel {d : Dn} {b : List Int} (R : RelN d b) (hb : b.Pairwise (· ≤ ·)) : flatN d = b := by
  refine sorted_uniq (List.perm_iff_count.mpr fun x => ?_) (sorted_flat R.asc) hb
  rw [count_flat R.asc, R.cnt]
theorem rel_put {d : Dn} {x : Int} {n : Nat} (h : (keysN d).Pairwise (· < ·)) (q : x ∈ keysN d ∨ ∀ y ∈ keysN d, y < x) : (keysN (putN d x n)).Pairwise (· < ·) := by
  rw [keys_put]
  split
  · exact h
  · rename_i e
    rw [List.pairwise_append]
    refine ⟨h, List.pairwise_singleton _ _, fun u hu v hv => ?_⟩
    rw [List.mem_singleton.mp hv]
    exact (q.resolve_left e) u hu
theorem tally_snoc (b : List Int) (x : Int) : tally (b ++ [x]) = incN (tally b) x := by
  unfold tally
  rw [List.foldl_append]
  rfl
theorem tally_keys : ∀ (b : List Int) (d : Dn), (∀ x, x ∈ keysN (b.foldl incN d) ↔ x ∈ keysN d ∨ x ∈ b)
  | [], d, x => by simp
  | y :: r, d, x => by
    show x ∈ keysN (r.foldl incN (incN d y)) ↔ _
    rw [tally_keys r (incN d y) x]
    have : x ∈ keysN (incN d y) ↔ x ∈ keysN d ∨ x = y := by
      unfold incN
      rw [keys_put]
      split
      · rename_i e
        exact ⟨.inl, fun z => z.elim id fun z => z ▸ e⟩
      · simp
    rw [this, List.mem_cons, or_assoc]
theorem tally_rel : ∀ (c b : List Int) (d : Dn), RelN d b → (b ++ c).Pairwise (· ≤ ·) → (∀ x, x ∈ keysN d ↔ x ∈ b) → RelN (c.foldl incN d) (b ++ c)
  | [], b, d, R, _, _ => by rw [List.append_nil]; exact R
  | y :: r, b, d, R, h, hk => by
    have e : b ++ y :: r = (b ++ [y]) ++ r := by simp
    show RelN (r.foldl incN (incN d y)) _
    rw [e]
    rw [e] at h
    have hy : ∀ x ∈ b, x ≤ y := fun x hx => (List.pairwise_append.mp (List.pairwise_append.mp h).1).2.2 x hx y (by simp)
    refine tally_rel r (b ++ [y]) (incN d y) ⟨?_, fun x => ?_⟩ h fun x => ?_
    · refine rel_put R.asc ?_
      by_cases m : y ∈ keysN d
      · exact .inl m
      · refine .inr fun z hz => ?_
        have := hy z ((hk z).mp hz)
        have ne : z ≠ y := fun q => m (q ▸ hz)
        omega
    · unfold incN
      rw [getN_put, List.count_append, List.count_singleton, R.cnt]
      by_cases q : y = x
      · subst q; simp [R.cnt]
      · rw [if_neg q]
        have : (y == x) = false := by simpa using q
        simp [this, R.cnt]
    · have := tally_keys [y] d x
      show x ∈ keysN (incN d y) ↔ _
      rw [show incN d y = [y].foldl incN d from rfl, this, hk, List.mem_append]
theorem tally_ok {b : List Int} (h : b.Pairwise (· ≤ ·)) : RelN (tally b) b := by
  have := tally_rel b [] [] ⟨List.Pairwise.nil, fun _ => rfl⟩ (by simpa using h) (fun x => by simp [keysN])
  rw [List.nil_append] at this
  exact this
theorem take_ok : ∀ (a b : List Int) (d : Dn), RelN d b → b.Pairwise (· ≤ ·) → (takeN a d).map flatN = if subM a b then some (cutAll b a) else none
  | [], b, d, R, hb => by
    show some (flatN d) = some b
    rw [flat_rel R hb]
  | x :: r, b, d, R, hb => by
    show (if getN d x = 0 then none else takeN r (decN d x)).map flatN = if (decide (x ∈ b) && subM r (b.erase x)) then some (cutAll (b.erase x) r) else none
    rw [R.cnt]
    by_cases m : x ∈ b
    · have pos : 0 < b.count x := List.count_pos_iff.mpr m
      rw [if_neg (by omega), decide_eq_true m, Bool.true_and]
      refine take_ok r (b.erase x) (decN d x) ⟨?_, fun y => ?_⟩ (hb.sublist List.erase_sublist)
      · unfold decN
        refine rel_put R.asc (.inl ?_)
        apply Decidable.byContradiction
        intro z
        have := getN_not z
        rw [R.cnt] at this
        omega
      · unfold decN
        rw [getN_put, R.cnt]
        by_cases q : x = y
        · subst q
          rw [if_pos rfl, List.count_erase_self]
        · rw [if_neg q, R.cnt, List.count_erase_of_ne (fun z => q z.symm)]
    · rw [if_pos (List.count_eq_zero.mpr m), decide_eq_false m, Bool.false_and]
      rfl
theorem bagR_eq {a b : List Int} (hb : b.Pairwise (· ≤ ·)) : bagR a b = bag0 a b := take_ok a b _ (tally_ok hb) hb
end Km
namespace Km
theorem takeN_app : ∀ (l r : List Int) (d : Dn), takeN (l ++ r) d = (takeN l d).bind (takeN r)
  | [], r, d => rfl
  | x :: l, r, d => by
    show (if getN d x = 0 then none else takeN (l ++ r) (decN d x)) = (if getN d x = 0 then none else takeN l (decN d x)).bind (takeN r)
    split
    · rfl
    · exact takeN_app l r _
theorem flat_put (d : Dn) (x : Int) (n : Nat) : (flatN (putN d x n)).length + getN d x = (flatN d).length + n := by
  induction d with
  | nil => show (List.replicate n x ++ []).length + 0 = 0 + n; simp
  | cons p r ih =>
    show (flatN (if p.1 = x then (x, n) :: r else p :: putN r x n)).length + (if p.1 = x then p.2 else getN r x) = (List.replicate p.2 p.1 ++ flatN r).length + n
    by_cases e : p.1 = x
    · rw [if_pos e, if_pos e]
      show (List.replicate n x ++ flatN r).length + _ = _
      simp only [List.length_append, List.length_replicate]
      omega
    · rw [if_neg e, if_neg e]
      show (List.replicate p.2 p.1 ++ flatN (putN r x n)).length + _ = _
      simp only [List.length_append, List.length_replicate]
      omega
theorem flat_take {d : Dn} {i : Nat} {x : Int} {n : Nat} (h : d[i]? = some (x, n)) : flatN (d.take (i + 1)) = flatN (d.take i) ++ List.replicate n x := by
  rw [List.take_succ, h]
  show (d.take i ++ [(x, n)]).flatMap _ = _
  rw [List.flatMap_append]
  show _ ++ (List.replicate n x ++ []) = _
  rw [List.append_nil]
  rfl
theorem flat_le (d : Dn) (i : Nat) : (flatN (d.take i)).length ≤ (flatN d).length := by
  conv => rhs; rw [← List.take_append_drop i d]
  show _ ≤ ((d.take i ++ d.drop i).flatMap _).length
  rw [List.flatMap_append, List.length_append]
  exact Nat.le_add_right _ _
theorem get_at : ∀ {d : Dn} {i : Nat} {x : Int} {n : Nat}, (keysN d).Nodup → d[i]? = some (x, n) → x ∈ keysN d ∧ getN d x = n
  | [], _, _, _, _, h => by simp at h
  | p :: r, 0, x, n, nd, h => by
    have e : p = (x, n) := Option.some.inj h
    subst e
    exact ⟨List.mem_cons_self, if_pos rfl⟩
  | p :: r, i + 1, x, n, nd, h => by
    have nd' := List.nodup_cons.mp (show (p.1 :: keysN r).Nodup from nd)
    obtain ⟨h1, h2⟩ := get_at nd'.2 (show r[i]? = some (x, n) from h)
    have ne : p.1 ≠ x := fun z => nd'.1 (by rw [z]; exact h1)
    exact ⟨List.mem_cons_of_mem _ h1, by show (if p.1 = x then p.2 else getN r x) = n; rw [if_neg ne]; exact h2⟩
/-- what the program's two loops keep -/
structure DnOk (d : Dn) (n : Nat) : Prop where
  nd : (keysN d).Nodup
  len : d.length ≤ n
  sum : (flatN d).length ≤ n
theorem DnOk.nil : DnOk [] 0 := ⟨List.nodup_nil, Nat.le_refl _, Nat.le_refl _⟩
end Km
namespace Km
theorem nd_putN {d : Dn} {x : Int} {n : Nat} (nd : (keysN d).Nodup) : (keysN (putN d x n)).Nodup := by
  rw [keys_put]
  split
  · exact nd
  · rename_i e
    rw [List.nodup_append]
    refine ⟨nd, by simp, fun u hu v hv z => e ?_⟩
    rw [List.mem_singleton] at hv
    rw [← hv, ← z]
    exact hu
theorem len_putN (d : Dn) (x : Int) (n : Nat) : (putN d x n).length ≤ d.length + 1 := by
  have h : (keysN (putN d x n)).length ≤ (keysN d).length + 1 := by
    rw [keys_put]
    split
    · omega
    · simp
  simpa [keysN] using h
theorem DnOk.inc {d : Dn} {n : Nat} (h : DnOk d n) (x : Int) : DnOk (incN d x) (n + 1) := by
  have := flat_put d x (getN d x + 1)
  have := h.sum
  have := len_putN d x (getN d x + 1)
  have := h.len
  exact ⟨nd_putN h.nd, by unfold incN; omega, by unfold incN; omega⟩
theorem DnOk.dec {d : Dn} {n : Nat} (h : DnOk d n) (x : Int) : DnOk (decN d x) (n + 1) := by
  have := flat_put d x (getN d x - 1)
  have := h.sum
  have := len_putN d x (getN d x - 1)
  have := h.len
  exact ⟨nd_putN h.nd, by unfold decN; omega, by unfold decN; omega⟩
theorem tally_okN : ∀ (b : List Int), DnOk (tally b) b.length := fun b => by
  suffices z : ∀ (l : List Int) (d : Dn) (n : Nat), DnOk d n → DnOk (l.foldl incN d) (n + l.length) by
    have := z b [] 0 .nil
    rw [Nat.zero_add] at this
    exact this
  intro l
  induction l with
  | nil => intro d n h; exact h
  | cons x r ih =>
    intro d n h
    have := ih (incN d x) (n + 1) (h.inc x)
    rw [show n + (x :: r).length = n + 1 + r.length by simp only [List.length_cons]; omega]
    exact this
theorem tally_take {b : List Int} {i : Nat} {x : Int} (h : b[i]? = some x) : tally (b.take (i + 1)) = incN (tally (b.take i)) x := by
  rw [List.take_succ, h]
  exact tally_snoc _ _
theorem take_snoc {a : List Int} {i : Nat} {x : Int} {d0 d : Dn} (h : a[i]? = some x) (e : takeN (a.take i) d0 = some d) : takeN (a.take (i + 1)) d0 = if getN d x = 0 then none else some (decN d x) := by
  rw [List.take_succ, h]
  show takeN (a.take i ++ [x]) d0 = _
  rw [takeN_app, e]
  rfl
theorem take_none {a : List Int} {i : Nat} {x : Int} {d0 d : Dn} (h : a[i]? = some x) (e : takeN (a.take i) d0 = some d) (z : getN d x = 0) : takeN a d0 = none := by
  have q := take_snoc h e
  rw [if_pos z] at q
  conv => lhs; rw [← List.take_append_drop (i + 1) a]
  rw [takeN_app, q]
  rfl
end Km

set_option Elab.async false
set_option linter.all false
/-! rests, for all kinds at once; how a law looks for them -/
namespace Km
def rst8 : Kd8 → List Int → List Int → Option (List Int)
  | .list => rstA | .bag => bagR | .set => bagR | .first => rstA | .last => lst0 | .ends => end0 | .heads => rstA | .tails => tails0
theorem bagR_bag {a b : List Int} (hb : pl .bag b = b) : bagR a b = bag0 a b := bagR_eq (bag_sorted hb)
theorem bagR_set {a b : List Int} (ha : pl .set a = a) (hb : pl .set b = b) : bagR a b = set0 a b := by
  rw [set_bag ha]
  exact bagR_eq ((set_asc hb).imp fun h => Int.le_of_lt h)
theorem rst_sound {k : Kd8} {a b w : List Int} (ha : pl k a = a) (hb : pl k b = b) (h : rst8 k a b = some w) : pl k w = w ∧ pl k (a ++ w) = b := by
  cases k with
  | list => exact ⟨rfl, list_rst.mp h⟩
  | bag => exact bag_rst hb (by rw [← bagR_bag hb]; exact h)
  | set => exact set_rst hb (by rw [← bagR_set ha hb]; exact h)
  | first => exact first_rst ha hb h
  | last => exact last_rst ha hb h
  | ends => exact ends_rst ha hb h
  | heads => exact heads_rst ha hb h
  | tails => exact tails_rst ha hb h
theorem rst_short {k : Kd8} {a b w : List Int} (ha : pl k a = a) (hw : pl k w = w) (h : pl k (a ++ w) = b) : ∃ v, rst8 k a b = some v ∧ v.length ≤ w.length ∧ (k ≠ .ends → v.length = w.length → v = w) := by
  have hb : pl k b = b := by rw [← h]; exact pl_idem _ _
  cases k with
  | list => exact ⟨w, list_rst.mpr h, Nat.le_refl _, fun _ _ => rfl⟩
  | bag => exact ⟨w, by show bagR a b = _; rw [bagR_bag hb]; exact bag_short hw h, Nat.le_refl _, fun _ _ => rfl⟩
  | set =>
    obtain ⟨v, h1, h2, h3⟩ := set_short (a := a) hw h
    exact ⟨v, by show bagR a b = _; rw [bagR_set ha hb]; exact h1, h2, fun _ => h3⟩
  | first =>
    obtain ⟨v, h1, h2, h3⟩ := first_short ha hw h
    exact ⟨v, h1, h2, fun _ => h3⟩
  | last =>
    obtain ⟨v, h1, h2, h3⟩ := last_short ha hw h
    exact ⟨v, h1, h2, fun _ => h3⟩
  | ends =>
    obtain ⟨v, h1, h2⟩ := ends_short ha hw h
    exact ⟨v, h1, h2, fun z => absurd rfl z⟩
  | heads =>
    obtain ⟨v, h1, h2, h3⟩ := heads_short (w := w) ha h
    exact ⟨v, h1, h2, fun _ => h3⟩
  | tails =>
    obtain ⟨v, h1, h2, h3⟩ := tails_short ha hw h
    exact ⟨v, h1, h2, fun _ => h3⟩
theorem rstA_suf {a b v : List Int} (h : rstA a b = some v) : v.length ≤ b.length ∧ v = b.drop (b.length - v.length) := by
  have e := rstA_some.mp h
  subst e
  constructor
  · simp
  · rw [List.length_append, Nat.add_sub_cancel, List.drop_left']
    rfl
theorem rst_suf {k : Kd8} {a b v : List Int} (n1 : k ≠ .bag) (n2 : k ≠ .set) (h : rst8 k a b = some v) : v.length ≤ b.length ∧ v = b.drop (b.length - v.length) := by
  cases k with
  | list => exact rstA_suf h
  | bag => exact absurd rfl n1
  | set => exact absurd rfl n2
  | first => exact rstA_suf h
  | last =>
    have h : lst0 a b = some v := h
    unfold lst0 at h
    split at h
    · rw [← Option.some.inj h]; simp
    · split at h
      · cases h
      · rw [← Option.some.inj h]; simp
  | ends =>
    have h : end0 a b = some v := h
    unfold end0 at h
    split at h
    · rw [← Option.some.inj h]; simp
    · split at h
      · cases h
      · rw [← Option.some.inj h]; simp
  | heads => exact rstA_suf h
  | tails =>
    have h : tails0 a b = some v := h
    unfold tails0 at h
    split at h
    · rw [← Option.some.inj h]
      have := kq_le b a
      constructor
      · rw [List.length_drop]; omega
      · rw [List.length_drop]; congr 1; omega
    · cases h
theorem bag0_some {a b v : List Int} (h : bag0 a b = some v) : v = cutAll b a := by
  unfold bag0 at h
  split at h
  · exact (Option.some.inj h).symm
  · cases h
theorem set0_some {a b v : List Int} (h : set0 a b = some v) : v = cutAll b a := by
  unfold set0 at h
  split at h
  · exact (Option.some.inj h).symm
  · cases h
theorem rst_cut {k : Kd8} {a b v : List Int} (hk : k = .bag ∨ k = .set) (ha : pl k a = a) (hb : pl k b = b) (h : rst8 k a b = some v) : v = cutAll b a := by
  rcases hk with rfl | rfl
  · exact bag0_some (by rw [← bagR_bag hb]; exact h)
  · exact set0_some (by rw [← bagR_set ha hb]; exact h)
theorem rst_sub {k : Kd8} {a b v : List Int} (ha : pl k a = a) (hb : pl k b = b) (h : rst8 k a b = some v) : v.Sublist b := by
  by_cases n : k = .bag ∨ k = .set
  · rw [rst_cut n ha hb h]
    exact cutAll_sub a b
  · obtain ⟨_, e⟩ := rst_suf (fun z => n (.inl z)) (fun z => n (.inr z)) h
    rw [e]
    exact List.drop_sublist _ _
theorem rst_uniq {k : Kd8} {a b v w : List Int} (ha : pl k a = a) (hb : pl k b = b) (h : rst8 k a b = some v) (hw : pl k w = w) (hl : pl k (a ++ w) = b) (sw : w.Sublist b) : v.length ≤ w.length ∧ (v.length = w.length → v = w) := by
  obtain ⟨u, h1, h2, h3⟩ := rst_short ha hw hl
  rw [h] at h1
  cases h1
  refine ⟨h2, fun e => ?_⟩
  by_cases n : k = .ends
  · subst n
    have h : end0 a b = some v := h
    unfold end0 at h
    split at h
    · have ev := Option.some.inj h
      rw [← ev] at e ⊢
      exact (List.length_eq_zero_iff.mp e.symm).symm
    · split at h
      · cases h
      · have ev := Option.some.inj h
        rw [← ev] at e ⊢
        exact (sw.eq_of_length e.symm).symm
  · exact h3 n e
/-! ### all the rows of letters of a word, in their order -/
def rowsN (b : List Int) : List (List Int) := b.foldl (fun rows x => rows ++ rows.map (· ++ [x])) [[]]
theorem rowsN_snoc (b : List Int) (x : Int) : rowsN (b ++ [x]) = rowsN b ++ (rowsN b).map (· ++ [x]) := by
  unfold rowsN
  rw [List.foldl_append]
  rfl
theorem mem_rows (n : Nat) : ∀ (b : List Int), b.length = n → ∀ w, w ∈ rowsN b ↔ w.Sublist b := by
  induction n with
  | zero =>
    intro b hb w
    have := List.length_eq_zero_iff.mp hb
    subst this
    show w ∈ [[]] ↔ _
    rw [List.mem_singleton, List.sublist_nil]
  | succ n ih =>
    intro b hb w
    obtain ⟨c, x, rfl⟩ : ∃ c x, b = c ++ [x] := ⟨b.dropLast, b.getLast (by intro z; subst z; simp at hb), (List.dropLast_concat_getLast _).symm⟩
    have hc : c.length = n := by simpa using hb
    rw [rowsN_snoc, List.mem_append, List.mem_map, ih c hc]
    constructor
    · rintro (h | ⟨u, hu, rfl⟩)
      · exact h.trans (List.sublist_append_left _ _)
      · exact ((ih c hc u).mp hu).append (List.Sublist.refl _)
    · intro h
      obtain ⟨l1, l2, rfl, h1, h2⟩ := List.sublist_append_iff.mp h
      cases l2 with
      | nil => rw [List.append_nil]; exact .inl h1
      | cons y r =>
        have e : y :: r = [x] := by
          refine h2.eq_of_length ?_
          have := h2.length_le
          simp only [List.length_cons, List.length_nil] at this ⊢
          omega
        rw [e]
        exact .inr ⟨l1, (ih c hc l1).mpr h1, rfl⟩
theorem rows_len (b : List Int) : (rowsN b).length = 2 ^ b.length := by
  suffices z : ∀ (n : Nat) (b : List Int), b.length = n → (rowsN b).length = 2 ^ n from z _ b rfl
  intro n
  induction n with
  | zero => intro b hb; rw [List.length_eq_zero_iff.mp hb] <;> rfl
  | succ n ih =>
    intro b hb
    obtain ⟨c, x, rfl⟩ : ∃ c x, b = c ++ [x] := ⟨b.dropLast, b.getLast (by intro z; subst z; simp at hb), (List.dropLast_concat_getLast _).symm⟩
    have hc : c.length = n := by simpa using hb
    rw [rowsN_snoc, List.length_append, List.length_map, ih c hc, Nat.pow_succ]
    omega
def bst (ok : List Int → Bool) (s : Option (List Int)) (w : List Int) : Option (List Int) :=
  if ok w then match s with
    | none => some w
    | some u => if w.length < u.length then some w else some u
  else s
theorem bst_none {ok : List Int → Bool} {w : List Int} (h : ok w = true) : bst ok none w = some w := if_pos h
theorem bst_some {ok : List Int → Bool} {w u : List Int} (h : ok w = true) : bst ok (some u) w = if w.length < u.length then some w else some u := if_pos h
theorem bst_inv (ok : List Int → Bool) : ∀ (ws pre : List (List Int)) (s : Option (List Int)), ((s = none ∧ ∀ w ∈ pre, ok w = false) ∨ ∃ u, s = some u ∧ u ∈ pre ∧ ok u = true ∧ ∀ w ∈ pre, ok w = true → u.length ≤ w.length) →
    ((ws.foldl (bst ok) s = none ∧ ∀ w ∈ pre ++ ws, ok w = false) ∨ ∃ u, ws.foldl (bst ok) s = some u ∧ u ∈ pre ++ ws ∧ ok u = true ∧ ∀ w ∈ pre ++ ws, ok w = true → u.length ≤ w.length)
  | [], pre, s, h => by rw [List.append_nil]; exact h
  | w :: r, pre, s, h => by
    have e : pre ++ w :: r = (pre ++ [w]) ++ r := by simp
    rw [e]
    refine bst_inv ok r (pre ++ [w]) (bst ok s w) ?_
    unfold bst
    by_cases o : ok w = true
    · rw [if_pos o]
      refine .inr ?_
      rcases h with ⟨rfl, hn⟩ | ⟨u, rfl, hu, ou, hm⟩
      · refine ⟨w, rfl, by simp, o, fun z hz oz => ?_⟩
        rcases List.mem_append.mp hz with hz | hz
        · rw [hn z hz] at oz; cases oz
        · rw [List.mem_singleton.mp hz]; exact Nat.le_refl _
      · by_cases lt : w.length < u.length
        · refine ⟨w, by simp [lt], by simp, o, fun z hz oz => ?_⟩
          rcases List.mem_append.mp hz with hz | hz
          · exact Nat.le_trans (Nat.le_of_lt lt) (hm z hz oz)
          · rw [List.mem_singleton.mp hz]; exact Nat.le_refl _
        · refine ⟨u, by simp [lt], List.mem_append_left _ hu, ou, fun z hz oz => ?_⟩
          rcases List.mem_append.mp hz with hz | hz
          · exact hm z hz oz
          · rw [List.mem_singleton.mp hz]; omega
    · rw [if_neg o]
      rcases h with ⟨rfl, hn⟩ | ⟨u, rfl, hu, ou, hm⟩
      · refine .inl ⟨rfl, fun z hz => ?_⟩
        rcases List.mem_append.mp hz with hz | hz
        · exact hn z hz
        · rw [List.mem_singleton.mp hz]; simpa using o
      · refine .inr ⟨u, rfl, List.mem_append_left _ hu, ou, fun z hz oz => ?_⟩
        rcases List.mem_append.mp hz with hz | hz
        · exact hm z hz oz
        · rw [List.mem_singleton.mp hz] at oz; exact absurd oz o
/-- what a law looks for: plain, and it leads there -/
def okR (k : Kd8) (a b w : List Int) : Bool := decide (pl k w = w) && decide (pl k (a ++ w) = b)
theorem okR_iff {k : Kd8} {a b w : List Int} : okR k a b w = true ↔ pl k w = w ∧ pl k (a ++ w) = b := by
  unfold okR
  rw [Bool.and_eq_true, decide_eq_true_eq, decide_eq_true_eq]
theorem shortest_ok {k : Kd8} {a b : List Int} (ha : pl k a = a) (hb : pl k b = b) : (rowsN b).foldl (bst (okR k a b)) none = rst8 k a b := by
  have h := bst_inv (okR k a b) (rowsN b) [] none (.inl ⟨rfl, fun _ z => by cases z⟩)
  rw [List.nil_append] at h
  rcases h with ⟨e, hn⟩ | ⟨u, e, hu, ou, hm⟩
  · rw [e]
    cases z : rst8 k a b with
    | none => rfl
    | some v =>
      have := hn v ((mem_rows _ b rfl v).mpr (rst_sub ha hb z))
      rw [okR_iff.mpr (rst_sound ha hb z)] at this
      cases this
  · rw [e]
    obtain ⟨p1, p2⟩ := okR_iff.mp ou
    obtain ⟨v, h1, h2, h3⟩ := rst_short ha p1 p2
    have := hm v ((mem_rows _ b rfl v).mpr (rst_sub ha hb h1)) (okR_iff.mpr (rst_sound ha hb h1))
    obtain ⟨q1, q2⟩ := rst_uniq ha hb h1 p1 p2 ((mem_rows _ b rfl u).mp hu)
    rw [h1, q2 (by omega)]
/-! ### the first end of a word that does -/
def sufN (b : List Int) (n : Nat) : List Int := b.drop (b.length - n)
theorem suf_first {k : Kd8} {a b : List Int} {n : Nat} (n1 : k ≠ .bag) (n2 : k ≠ .set) (ha : pl k a = a) (hb : pl k b = b) (hn : n ≤ b.length) (ok : okR k a b (sufN b n) = true) (no : ∀ m, m < n → okR k a b (sufN b m) = false) : rst8 k a b = some (sufN b n) := by
  obtain ⟨p1, p2⟩ := okR_iff.mp ok
  obtain ⟨v, h1, h2, _⟩ := rst_short ha p1 p2
  obtain ⟨l, e⟩ := rst_suf n1 n2 h1
  have ln : (sufN b n).length = n := by unfold sufN; rw [List.length_drop]; omega
  rw [ln] at h2
  rcases Nat.lt_or_ge v.length n with lt | ge
  · have := no v.length lt
    rw [show sufN b v.length = v from e.symm, okR_iff.mpr (rst_sound ha hb h1)] at this
    cases this
  · rw [h1, e, show v.length = n by omega]
    rfl
theorem suf_none {k : Kd8} {a b : List Int} (n1 : k ≠ .bag) (n2 : k ≠ .set) (ha : pl k a = a) (hb : pl k b = b) (no : ∀ m, m < b.length + 1 → okR k a b (sufN b m) = false) : rst8 k a b = none := by
  cases z : rst8 k a b with
  | none => rfl
  | some v =>
    obtain ⟨l, e⟩ := rst_suf n1 n2 z
    have := no v.length (by omega)
    rw [show sufN b v.length = v from e.symm, okR_iff.mpr (rst_sound ha hb z)] at this
    cases this
theorem cut_plain {k : Kd8} {a b : List Int} (hk : k = .bag ∨ k = .set) (hb : pl k b = b) : pl k (cutAll b a) = cutAll b a := by
  rcases hk with rfl | rfl
  · exact (srt_of (List.Perm.refl _) ((bag_sorted hb).sublist (cutAll_sub a b))).symm
  · exact (sst_of (fun _ => Iff.rfl) ((set_asc hb).sublist (cutAll_sub a b))).symm
theorem cut_due {k : Kd8} {a b : List Int} (hk : k = .bag ∨ k = .set) (ha : pl k a = a) (hb : pl k b = b) : rst8 k a b = if pl k (a ++ cutAll b a) = b then some (cutAll b a) else none := by
  split
  · rename_i h
    obtain ⟨v, h1, _⟩ := rst_short ha (cut_plain hk hb) h
    rw [h1, rst_cut hk ha hb h1]
  · rename_i h
    cases z : rst8 k a b with
    | none => rfl
    | some v =>
      have := (rst_sound ha hb z).2
      rw [rst_cut hk ha hb z] at this
      exact absurd this h
theorem cutAll_snoc : ∀ (a l : List Int) (x : Int), cutAll l (a ++ [x]) = (cutAll l a).erase x
  | [], _, _ => rfl
  | y :: r, l, x => cutAll_snoc r (l.erase y) x
/-! ### who leads where -/
def leadB (k : Kd8) (a b : List Int) : Bool := decide (a = b) || match k with
  | .list | .heads => decide (b.take a.length = a)
  | .bag => a.all fun x => decide (a.count x ≤ b.count x)
  | .set | .tails => a.all fun x => decide (x ∈ b)
  | .first => decide (a = [])
  | .last => !decide (b = [])
  | .ends => decide (a = []) || (!decide (b = []) && decide (a.take 1 = b.take 1))
theorem subM_count : ∀ (a b : List Int), subM a b = true ↔ ∀ x, a.count x ≤ b.count x
  | [], b => by simp [subM]
  | y :: r, b => by
    unfold subM
    rw [Bool.and_eq_true, decide_eq_true_eq, subM_count r (b.erase y)]
    constructor
    · rintro ⟨m, h⟩ x
      have := h x
      by_cases e : y = x
      · subst e
        rw [List.count_cons_self]
        rw [List.count_erase_self] at this
        have := List.count_pos_iff.mpr m
        omega
      · rw [List.count_cons_of_ne e]
        rw [List.count_erase_of_ne (fun z => e z.symm)] at this
        exact this
    · intro h
      have m : y ∈ b := by
        have := h y
        rw [List.count_cons_self] at this
        exact List.count_pos_iff.mp (by omega)
      refine ⟨m, fun x => ?_⟩
      have := h x
      by_cases e : y = x
      · subst e
        rw [List.count_cons_self] at this
        rw [List.count_erase_self]
        omega
      · rw [List.count_cons_of_ne e] at this
        rw [List.count_erase_of_ne (fun z => e z.symm)]
        exact this
theorem subM_all (a b : List Int) : subM a b = a.all fun x => decide (a.count x ≤ b.count x) := by
  rw [Bool.eq_iff_iff, subM_count, List.all_eq_true]
  constructor
  · intro h x _
    exact decide_eq_true (h x)
  · intro h x
    by_cases m : x ∈ a
    · exact of_decide_eq_true (h x m)
    · rw [List.count_eq_zero.mpr m]
      exact Nat.zero_le _
theorem lead_list {a b : List Int} : (decide (a = b) || decide (b.take a.length = a)) = (rstA a b).isSome := by
  unfold rstA
  by_cases h : b.take a.length = a
  · rw [if_pos h, decide_eq_true h, Bool.or_true]; rfl
  · rw [if_neg h, decide_eq_false h, Bool.or_false]
    refine decide_eq_false fun e => h ?_
    rw [← e]
    exact List.take_length
theorem isSome_if {α : Type} {c : Bool} {x : α} : (if c = true then some x else none).isSome = c := by cases c <;> rfl
theorem all_self (a : List Int) : (a.all fun x => decide (x ∈ a)) = true := List.all_eq_true.mpr fun x hx => decide_eq_true hx
theorem lead_ok {k : Kd8} {a b : List Int} (ha : pl k a = a) (hb : pl k b = b) : leadB k a b = (rst8 k a b).isSome := by
  cases k with
  | list => exact lead_list
  | heads => exact lead_list
  | bag =>
    show (decide (a = b) || a.all _) = (bagR a b).isSome
    rw [bagR_bag hb, ← subM_all]
    unfold bag0
    rw [isSome_if]
    by_cases e : a = b
    · subst e
      rw [decide_eq_true rfl, Bool.true_or]
      exact ((subM_count a a).mpr fun _ => Nat.le_refl _).symm
    · rw [decide_eq_false e, Bool.false_or]
  | set =>
    show (decide (a = b) || a.all _) = (bagR a b).isSome
    rw [bagR_set ha hb]
    unfold set0
    rw [isSome_if]
    by_cases e : a = b
    · subst e
      rw [decide_eq_true rfl, Bool.true_or, all_self]
    · rw [decide_eq_false e, Bool.false_or]
  | tails =>
    show (decide (a = b) || a.all _) = (tails0 a b).isSome
    unfold tails0
    rw [isSome_if]
    by_cases e : a = b
    · subst e
      rw [decide_eq_true rfl, Bool.true_or, all_self]
    · rw [decide_eq_false e, Bool.false_or]
  | first =>
    show (decide (a = b) || decide (a = [])) = (rstA a b).isSome
    rw [← lead_list]
    by_cases e : a = b
    · rw [decide_eq_true e]; rfl
    · rw [decide_eq_false e, Bool.false_or, Bool.false_or]
      cases a with
      | nil => rw [decide_eq_true rfl]; exact (decide_eq_true rfl).symm
      | cons x r =>
        have hr : r = [] := by
          have : (x :: r).take 1 = x :: r := ha
          simpa using this
        subst hr
        rw [decide_eq_false (by simp)]
        refine (decide_eq_false fun z => e ?_).symm
        have : b.take 1 = b := hb
        rw [← this]
        exact z.symm
  | last =>
    show (decide (a = b) || !decide (b = [])) = (lst0 a b).isSome
    unfold lst0
    by_cases e : a = b
    · rw [if_pos e, decide_eq_true e]; rfl
    · rw [if_neg e, decide_eq_false e, Bool.false_or]
      by_cases f : b = []
      · rw [if_pos f, decide_eq_true f]; rfl
      · rw [if_neg f, decide_eq_false f]; rfl
  | ends =>
    show (decide (a = b) || (decide (a = []) || (!decide (b = []) && decide (a.take 1 = b.take 1)))) = (end0 a b).isSome
    unfold end0
    by_cases e : a = b
    · rw [if_pos e, decide_eq_true e]; rfl
    · rw [if_neg e, decide_eq_false e, Bool.false_or]
      by_cases f : a = []
      · rw [if_neg (fun z => z.1 f), decide_eq_true f]; rfl
      · rw [decide_eq_false f, Bool.false_or]
        by_cases g : a.take 1 = b.take 1
        · rw [if_neg (fun z => z.2 g), decide_eq_true g, Bool.and_true]
          refine Bool.not_eq_true' _ |>.mpr (decide_eq_false fun z => f ?_)
          subst z
          cases a with
          | nil => rfl
          | cons x r => simp at g
        · rw [if_pos ⟨f, g⟩, decide_eq_false g, Bool.and_false]; rfl
end Km

set_option Elab.async false
set_option linter.all false
/-! least steps between effects -/
namespace Kx
open PySem PySem.Spec L2 Lk Kd Km
/-- normal and plain -/
structure Nrm (k : Kd8) (e : Bool × List Int) : Prop where
  pl : Km.pl k e.2 = e.2
  fl : nF k e.1 e.2 = e.1
theorem Nrm.of (k : Kd8) (e : Bool × List Int) : Nrm k (nrm k e) := ⟨pl_idem k e.2, nF_idem k e.1 _⟩
theorem Nrm.eq {k : Kd8} {e : Bool × List Int} (h : Nrm k e) : nrm k e = e := Prod.ext (by show nF k e.1 (Km.pl k e.2) = e.1; rw [h.pl, h.fl]) h.pl
def stp (k : Kd8) (x y : Bool × List Int) : Option (Bool × List Int) :=
  if x = y then some (false, []) else
    match rst8 k x.2 y.2 with
    | some w => if x.1 = y.1 ∧ (y.1 = false ∨ w.length < y.2.length) then some (false, w) else if y.1 = true then some y else none
    | none => if y.1 = true then some y else none
/-- an effect that leads there -/
structure Leads (k : Kd8) (x y e : Bool × List Int) : Prop where
  pl : Km.pl k e.2 = e.2
  fl : nF k e.1 e.2 = e.1
  to : thE k x e = y
theorem nF_false {k : Kd8} {f : Bool} {l : List Int} (h : k ≠ .last) : nF k f l = f := by
  cases k with
  | last => exact absurd rfl h
  | _ => rfl
theorem nF_last {f : Bool} {l : List Int} (h : l ≠ []) : nF .last f l = true := by
  cases l with
  | nil => exact absurd rfl h
  | cons _ _ => rfl
theorem nF_idle (k : Kd8) (f : Bool) : nF k f [] = f := nF_nil k f
theorem pl_nil0 (k : Kd8) : Km.pl k [] = [] := by cases k <;> rfl
theorem idle_leads {k : Kd8} {x : Bool × List Int} (hx : Nrm k x) : Leads k x x (false, []) := ⟨pl_nil0 k, nF_idle k false, by
  show (nF k x.1 (Km.pl k (x.2 ++ [])), Km.pl k (x.2 ++ [])) = x
  rw [List.append_nil, hx.pl, hx.fl]⟩
theorem put_leads {k : Kd8} {x y : Bool × List Int} (hy : Nrm k y) (h : y.1 = true) : Leads k x y y := ⟨hy.pl, hy.fl, by
  unfold thE
  rw [if_pos h, ← h]⟩
/-- under last a part that is no put has no letters -/
theorem last_part {y : Bool × List Int} (hy : Nrm .last y) (h : y.1 = false) : y.2 = [] := by
  apply Decidable.byContradiction
  intro z
  have := hy.fl
  rw [nF_last z, h] at this
  cases this
theorem rest_leads {k : Kd8} {x y : Bool × List Int} {w : List Int} (hx : Nrm k x) (hy : Nrm k y) (ne : x ≠ y) (hr : rst8 k x.2 y.2 = some w) (e1 : x.1 = y.1) (h : y.1 = false ∨ w.length < y.2.length) : k ≠ .last ∧ Leads k x y (false, w) := by
  obtain ⟨p1, p2⟩ := rst_sound hx.pl hy.pl hr
  have nl : k ≠ .last := by
    rintro rfl
    have e : ∀ z : x.2 ≠ y.2, w = y.2 := fun z => by
      have hr : lst0 x.2 y.2 = some w := hr
      unfold lst0 at hr
      rw [if_neg z] at hr
      split at hr
      · cases hr
      · exact (Option.some.inj hr).symm
    have z : x.2 ≠ y.2 := fun z => ne (Prod.ext e1 z)
    rcases h with h | h
    · have hy0 := last_part hy h
      have hx0 := last_part hx (e1.trans h)
      exact z (hx0.trans hy0.symm)
    · rw [e z] at h
      exact Nat.lt_irrefl _ h
  refine ⟨nl, p1, nF_false nl, ?_⟩
  show (nF k x.1 (Km.pl k (x.2 ++ w)), Km.pl k (x.2 ++ w)) = y
  rw [p2, nF_false nl, e1]
theorem stp_leads {k : Kd8} {x y e : Bool × List Int} (hx : Nrm k x) (hy : Nrm k y) (h : stp k x y = some e) : Leads k x y e := by
  unfold stp at h
  by_cases c : x = y
  · rw [if_pos c] at h
    rw [← Option.some.inj h, ← c]
    exact idle_leads hx
  · rw [if_neg c] at h
    cases hr : rst8 k x.2 y.2 with
    | none =>
      rw [hr] at h
      dsimp only at h
      split at h
      · rename_i g
        rw [← Option.some.inj h]
        exact put_leads hy g
      · cases h
    | some w =>
      rw [hr] at h
      dsimp only at h
      split at h
      · rename_i g
        rw [← Option.some.inj h]
        exact (rest_leads hx hy c hr g.1 g.2).2
      · split at h
        · rename_i g
          rw [← Option.some.inj h]
          exact put_leads hy g
        · cases h
/-- no effect that leads there has fewer letters -/
theorem stp_least {k : Kd8} {x y e : Bool × List Int} (hx : Nrm k x) (hy : Nrm k y) (L : Leads k x y e) : ∃ s, stp k x y = some s ∧ s.2.length ≤ e.2.length := by
  unfold stp
  by_cases c : x = y
  · rw [if_pos c]
    exact ⟨_, rfl, Nat.zero_le _⟩
  · rw [if_neg c]
    obtain ⟨f, w⟩ := e
    cases f with
    | true =>
      have ey : (true, w) = y := L.to
      subst ey
      cases hr : rst8 k x.2 w with
      | none => exact ⟨_, if_pos rfl, Nat.le_refl _⟩
      | some v =>
        dsimp only
        split
        · rename_i g
          rcases g.2 with g | g
          · cases g
          · exact ⟨_, rfl, Nat.le_of_lt g⟩
        · exact ⟨_, if_pos rfl, Nat.le_refl _⟩
    | false =>
      have t : (nF k x.1 (Km.pl k (x.2 ++ w)), Km.pl k (x.2 ++ w)) = y := L.to
      have e2 : Km.pl k (x.2 ++ w) = y.2 := by rw [← t]
      have e1 : nF k x.1 (Km.pl k (x.2 ++ w)) = y.1 := by rw [← t]
      by_cases nl : k = .last
      · subst nl
        exfalso
        have hw : w = [] := by
          apply Decidable.byContradiction
          intro z
          have := L.fl
          rw [nF_last z] at this
          cases this
        subst hw
        rw [List.append_nil, hx.pl] at e1 e2
        rw [hx.fl] at e1
        exact c (Prod.ext e1 e2)
      · rw [nF_false nl] at e1
        obtain ⟨v, h1, h2, _⟩ := rst_short hx.pl L.pl e2
        rw [h1]
        dsimp only
        by_cases g : x.1 = y.1 ∧ (y.1 = false ∨ v.length < y.2.length)
        · rw [if_pos g]
          exact ⟨_, rfl, h2⟩
        · rw [if_neg g]
          have yt : y.1 = true := by
            cases z : y.1 with
            | true => rfl
            | false => exact absurd ⟨e1, .inl z⟩ g
          rw [if_pos yt]
          refine ⟨_, rfl, ?_⟩
          have : ¬ v.length < y.2.length := fun z => g ⟨e1, .inr z⟩
          have h2' : v.length ≤ w.length := h2
          show y.2.length ≤ w.length
          omega
theorem stp_sub {k : Kd8} {x y e : Bool × List Int} (hx : Nrm k x) (hy : Nrm k y) (h : stp k x y = some e) : e.2.Sublist y.2 := by
  unfold stp at h
  by_cases c : x = y
  · rw [if_pos c] at h
    rw [← Option.some.inj h]
    exact List.nil_sublist _
  · rw [if_neg c] at h
    cases hr : rst8 k x.2 y.2 with
    | none =>
      rw [hr] at h
      dsimp only at h
      split at h
      · rw [← Option.some.inj h]; exact List.Sublist.refl _
      · cases h
    | some w =>
      rw [hr] at h
      dsimp only at h
      split at h
      · rw [← Option.some.inj h]
        exact rst_sub hx.pl hy.pl hr
      · split at h
        · rw [← Option.some.inj h]; exact List.Sublist.refl _
        · cases h
/-- idle exactly for equal effects -/
theorem stp_idle {k : Kd8} {x y e : Bool × List Int} (hx : Nrm k x) (hy : Nrm k y) (h : stp k x y = some e) : decide (e = (false, [])) = decide (x = y) := by
  rw [Bool.eq_iff_iff, decide_eq_true_eq, decide_eq_true_eq]
  constructor
  · rintro rfl
    have := (stp_leads hx hy h).to
    rw [← this]
    exact ((idle_leads hx).to).symm
  · rintro rfl
    unfold stp at h
    rw [if_pos rfl] at h
    exact (Option.some.inj h).symm
/-- where as many letters stand, it is the goal itself -/
theorem stp_last {k : Kd8} {x y e : Bool × List Int} (hx : Nrm k x) (hy : Nrm k y) (h : stp k x y = some e) (ne : x ≠ y) (le : ¬ e.2.length < y.2.length) : e = y := by
  have sub := stp_sub hx hy h
  have e2 : e.2 = y.2 := sub.eq_of_length (Nat.le_antisymm sub.length_le (by omega))
  refine Prod.ext ?_ e2
  unfold stp at h
  rw [if_neg ne] at h
  cases hr : rst8 k x.2 y.2 with
  | none =>
    rw [hr] at h
    dsimp only at h
    split at h
    · rw [← Option.some.inj h]
    · cases h
  | some w =>
    rw [hr] at h
    dsimp only at h
    split at h
    · rename_i g
      have ee := Option.some.inj h
      rw [← ee]
      rcases g.2 with g | g
      · exact g.symm
      · rw [← ee] at le
        exact absurd g le
    · split at h
      · rw [← Option.some.inj h]
      · cases h
/-! ### the fewest letters, looked for among all rows -/
def few1 (ok : Bool × List Int → Bool) (s : Option Nat) (e : Bool × List Int) : Option Nat :=
  if ok e then match s with
    | none => some e.2.length
    | some n => if e.2.length < n then some e.2.length else some n
  else s
theorem few1_none {ok : Bool × List Int → Bool} {e : Bool × List Int} (h : ok e = true) : few1 ok none e = some e.2.length := if_pos h
theorem few1_some {ok : Bool × List Int → Bool} {e : Bool × List Int} {n : Nat} (h : ok e = true) : few1 ok (some n) e = if e.2.length < n then some e.2.length else some n := if_pos h
theorem few1_no {ok : Bool × List Int → Bool} {e : Bool × List Int} {s : Option Nat} (h : ok e = false) : few1 ok s e = s := by unfold few1; rw [h, if_neg Bool.false_ne_true]
theorem few_inv (ok : Bool × List Int → Bool) : ∀ (ws pre : List (Bool × List Int)) (s : Option Nat), ((s = none ∧ ∀ w ∈ pre, ok w = false) ∨ ∃ u, s = some u.2.length ∧ u ∈ pre ∧ ok u = true ∧ ∀ w ∈ pre, ok w = true → u.2.length ≤ w.2.length) →
    ((ws.foldl (few1 ok) s = none ∧ ∀ w ∈ pre ++ ws, ok w = false) ∨ ∃ u, ws.foldl (few1 ok) s = some u.2.length ∧ u ∈ pre ++ ws ∧ ok u = true ∧ ∀ w ∈ pre ++ ws, ok w = true → u.2.length ≤ w.2.length)
  | [], pre, s, h => by rw [List.append_nil]; exact h
  | w :: r, pre, s, h => by
    have e : pre ++ w :: r = (pre ++ [w]) ++ r := by simp
    rw [e]
    refine few_inv ok r (pre ++ [w]) (few1 ok s w) ?_
    by_cases o : ok w = true
    · refine .inr ?_
      rcases h with ⟨rfl, hn⟩ | ⟨u, rfl, hu, ou, hm⟩
      · rw [few1_none o]
        refine ⟨w, rfl, by simp, o, fun z hz oz => ?_⟩
        rcases List.mem_append.mp hz with hz | hz
        · rw [hn z hz] at oz; cases oz
        · rw [List.mem_singleton.mp hz]; exact Nat.le_refl _
      · rw [few1_some o]
        by_cases lt : w.2.length < u.2.length
        · rw [if_pos lt]
          refine ⟨w, rfl, by simp, o, fun z hz oz => ?_⟩
          rcases List.mem_append.mp hz with hz | hz
          · exact Nat.le_trans (Nat.le_of_lt lt) (hm z hz oz)
          · rw [List.mem_singleton.mp hz]; exact Nat.le_refl _
        · rw [if_neg lt]
          refine ⟨u, rfl, List.mem_append_left _ hu, ou, fun z hz oz => ?_⟩
          rcases List.mem_append.mp hz with hz | hz
          · exact hm z hz oz
          · rw [List.mem_singleton.mp hz]; omega
    · have o' : ok w = false := by simpa using o
      rw [few1_no o']
      rcases h with ⟨rfl, hn⟩ | ⟨u, rfl, hu, ou, hm⟩
      · refine .inl ⟨rfl, fun z hz => ?_⟩
        rcases List.mem_append.mp hz with hz | hz
        · exact hn z hz
        · rw [List.mem_singleton.mp hz]; exact o'
      · refine .inr ⟨u, rfl, List.mem_append_left _ hu, ou, fun z hz oz => ?_⟩
        rcases List.mem_append.mp hz with hz | hz
        · exact hm z hz oz
        · rw [List.mem_singleton.mp hz] at oz; exact absurd oz o
def okE (k : Kd8) (x y e : Bool × List Int) : Bool := (decide (Km.pl k e.2 = e.2) && decide (nF k e.1 e.2 = e.1)) && decide (thE k x e = y)
theorem okE_iff {k : Kd8} {x y e : Bool × List Int} : okE k x y e = true ↔ Leads k x y e := by
  unfold okE
  rw [Bool.and_eq_true, Bool.and_eq_true, decide_eq_true_eq, decide_eq_true_eq, decide_eq_true_eq]
  exact ⟨fun h => ⟨h.1.1, h.1.2, h.2⟩, fun h => ⟨⟨h.1, h.2⟩, h.3⟩⟩
def both (w : List Int) : List (Bool × List Int) := [(false, w), (true, w)]
theorem fewest_ok {k : Kd8} {x y : Bool × List Int} (hx : Nrm k x) (hy : Nrm k y) : ((rowsN y.2).flatMap both).foldl (few1 (okE k x y)) none = (stp k x y).map fun e => e.2.length := by
  have mem : ∀ e : Bool × List Int, e ∈ (rowsN y.2).flatMap both ↔ e.2.Sublist y.2 := fun e => by
    rw [List.mem_flatMap]
    constructor
    · rintro ⟨w, hw, he⟩
      have : e.2 = w := by
        simp only [both, List.mem_cons, List.not_mem_nil, or_false] at he
        rcases he with rfl | rfl <;> rfl
      rw [this]
      exact (mem_rows _ _ rfl w).mp hw
    · intro h
      refine ⟨e.2, (mem_rows _ _ rfl e.2).mpr h, ?_⟩
      obtain ⟨f, w⟩ := e
      cases f <;> simp [both]
  have h := few_inv (okE k x y) ((rowsN y.2).flatMap both) [] none (.inl ⟨rfl, fun _ z => by cases z⟩)
  rw [List.nil_append] at h
  rcases h with ⟨e, hn⟩ | ⟨u, e, hu, ou, hm⟩
  · rw [e]
    cases z : stp k x y with
    | none => rfl
    | some v =>
      have := hn v ((mem v).mpr (stp_sub hx hy z))
      rw [okE_iff.mpr (stp_leads hx hy z)] at this
      cases this
  · rw [e]
    obtain ⟨v, h1, h2⟩ := stp_least hx hy (okE_iff.mp ou)
    have := hm v ((mem v).mpr (stp_sub hx hy h1)) (okE_iff.mpr (stp_leads hx hy h1))
    rw [h1]
    show some u.2.length = some v.2.length
    congr 1
    omega
end Kx
namespace Kx
open PySem PySem.Spec L2 Lk Kd Km
/-- None or an effect -/
def FoundE (K : PySem.W.Frag) (H : Hp) (v : V) : Option (Bool × List Int) → Prop
  | none => v = .non
  | some e => Ef K H v e
theorem FoundE.same {K : PySem.W.Frag} {H H' : Hp} {v : V} {o : Option (Bool × List Int)} (s : Same H H') (h : FoundE K H v o) : FoundE K H' v o := by
  cases o with
  | none => exact h
  | some w => exact dp_same s h
def oE : Option (Bool × List Int) → PyData
  | none => .none
  | some e => eD e.1 e.2
theorem FoundE.dp {K : PySem.W.Frag} {H : Hp} {v : V} {o : Option (Bool × List Int)} (h : FoundE K H v o) : Dp K H v (oE o) := by
  cases o with
  | none => rw [show v = .non from h]; exact .non
  | some w => exact h
theorem shaped_oe (o : Option (Bool × List Int)) : SeqAt.shaped (oE o) = true := by
  cases o with
  | none => rfl
  | some w => exact shaped_e w.1 w.2
theorem FoundE.isNon {K : PySem.W.Frag} {H : Hp} {v : V} {o : Option (Bool × List Int)} (h : FoundE K H v o) : decide (v = .non) = o.isNone := by
  cases o with
  | none => rw [show v = .non from h] <;> rfl
  | some w =>
    obtain ⟨_, t, rfl, _⟩ := e_inv h
    exact decide_eq_false fun z => V.noConfusion z
theorem nE_nrm {k : Kd8} {x : Bool × List Int} (h : Km.pl k x.2 = x.2) : nE k x.1 x.2 = eD (nrm k x).1 (nrm k x).2 := by
  show eD (nF k x.1 x.2) x.2 = eD (nF k x.1 (Km.pl k x.2)) (Km.pl k x.2)
  rw [h]
theorem stp_eq (k : Kd8) (x : Bool × List Int) : stp k x x = some (false, []) := if_pos rfl
theorem stp_none {k : Kd8} {x y : Bool × List Int} (ne : x ≠ y) (h : rst8 k x.2 y.2 = none) : stp k x y = if y.1 = true then some y else none := by
  unfold stp
  rw [if_neg ne, h]
theorem stp_some {k : Kd8} {x y : Bool × List Int} {w : List Int} (ne : x ≠ y) (h : rst8 k x.2 y.2 = some w) : stp k x y = if x.1 = y.1 ∧ (y.1 = false ∨ w.length < y.2.length) then some (false, w) else if y.1 = true then some y else none := by
  unfold stp
  rw [if_neg ne, h]
end Kx
namespace Kx
open PySem PySem.Spec L2 Lk Kd Km
/-- None or a number -/
def FoundN (v : V) : Option Nat → Prop
  | none => v = .non
  | some n => v = .int (n : Int)
theorem fewest_take {ok : Bool × List Int → Bool} {ws : List (List Int)} {i : Nat} {w : List Int} {s : Option Nat} (h : ws[i]? = some w) : ((ws.take (i + 1)).flatMap both).foldl (few1 ok) s = few1 ok (few1 ok (((ws.take i).flatMap both).foldl (few1 ok) s) (false, w)) (true, w) := by
  rw [take_map h, List.flatMap_append, List.foldl_append]
  rfl
end Kx

set_option Elab.async false
set_option linter.all false
set_option maxRecDepth 100000
/-! kinds under kinds -/
namespace Km
def undB : Kd8 → Kd8 → Bool
  | .list, .list => true
  | .bag, .list => true | .bag, .bag => true
  | .set, .list => true | .set, .bag => true | .set, .set => true | .set, .heads => true | .set, .tails => true
  | .first, .list => true | .first, .first => true | .first, .ends => true | .first, .heads => true
  | .last, .list => true | .last, .last => true | .last, .ends => true | .last, .tails => true
  | .ends, .list => true | .ends, .ends => true
  | .heads, .list => true | .heads, .heads => true
  | .tails, .list => true | .tails, .tails => true
  | _, _ => false
theorem mem_foc : ∀ (l acc : List Int) (x : Int), x ∈ fo acc l ↔ x ∈ acc ∨ x ∈ l
  | [], acc, x => by simp [fo]
  | y :: r, acc, x => by
    show x ∈ fo (if y ∈ acc then acc else acc ++ [y]) r ↔ _
    rw [mem_foc r]
    by_cases h : y ∈ acc
    · rw [if_pos h, List.mem_cons]
      constructor
      · rintro (a | a)
        · exact .inl a
        · exact .inr (.inr a)
      · rintro (a | rfl | a)
        · exact .inl a
        · exact .inl h
        · exact .inr a
    · rw [if_neg h, List.mem_append, List.mem_singleton, List.mem_cons, or_assoc]
theorem fo_head (x : Int) (l : List Int) : ∀ acc : List Int, ∃ r, fo (x :: acc) l = x :: r := by
  induction l with
  | nil => exact fun acc => ⟨acc, rfl⟩
  | cons y r ih =>
    intro acc
    show ∃ q, fo (if y ∈ x :: acc then x :: acc else (x :: acc) ++ [y]) r = x :: q
    split
    · exact ih acc
    · exact ih (acc ++ [y])
theorem take_fo (l : List Int) : (fo [] l).take 1 = l.take 1 := by
  cases l with
  | nil => rfl
  | cons x r =>
    obtain ⟨q, e⟩ := fo_head x r []
    show (fo (if x ∈ [] then [] else [] ++ [x]) r).take 1 = _
    rw [if_neg List.not_mem_nil, List.nil_append, e]
    rfl
theorem lst1_rev (l : List Int) : lst1 l = (l.reverse.take 1).reverse := by
  unfold lst1
  rw [List.take_reverse, List.reverse_reverse]
theorem under_pl {n w : Kd8} (h : undB n w = true) (l : List Int) : pl n (pl w l) = pl n l := by
  cases w with
  | list => rfl
  | bag =>
    cases n with
    | bag => exact pl_idem .bag l
    | set => exact sst_of (fun x => by rw [show (x ∈ sst l ↔ x ∈ l) from mem_sst x l]; exact ((srt_perm l).mem_iff).symm) (sst_asc l) |>.symm
    | _ => cases h
  | set =>
    cases n with
    | set => exact pl_idem .set l
    | _ => cases h
  | first =>
    cases n with
    | first => exact pl_idem .first l
    | _ => cases h
  | last =>
    cases n with
    | last => exact pl_idem .last l
    | _ => cases h
  | ends =>
    cases n with
    | ends => exact pl_idem .ends l
    | first =>
      show (l.take 1 ++ lst1 l).take 1 = l.take 1
      cases l with
      | nil => rfl
      | cons x r => rfl
    | last =>
      show lst1 (l.take 1 ++ lst1 l) = lst1 l
      cases l with
      | nil => rfl
      | cons x r =>
        rw [lst1_app (fun z => by have := lst1_nil.mp z; cases this), lst1_idem]
    | _ => cases h
  | heads =>
    cases n with
    | heads => exact pl_idem .heads l
    | set => exact (sst_of (fun x => by rw [show (x ∈ sst l ↔ x ∈ l) from mem_sst x l]; show _ ↔ x ∈ fo [] l; rw [mem_foc]; simp) (sst_asc l)).symm
    | first => exact take_fo l
    | _ => cases h
  | tails =>
    cases n with
    | tails => exact pl_idem .tails l
    | set => exact (sst_of (fun x => by rw [show (x ∈ sst l ↔ x ∈ l) from mem_sst x l]; show _ ↔ x ∈ (fo [] l.reverse).reverse; rw [List.mem_reverse, mem_foc]; simp) (sst_asc l)).symm
    | last =>
      show lst1 ((fo [] l.reverse).reverse) = lst1 l
      rw [lst1_rev, List.reverse_reverse, take_fo, ← lst1_rev]
    | _ => cases h
/-- the pairs that tell kinds apart -/
def pairsK : List (List Int × List Int) := [([1, 2], [2, 1]), ([1, 1], [1]), ([1, 2, 3], [1, 3]), ([1, 2, 1], [1, 2]), ([1, 2, 1], [2, 1])]
def prtB (n w : Kd8) (p : List Int × List Int) : Bool := decide (pl w p.1 = pl w p.2) && !decide (pl n p.1 = pl n p.2)
def prt (n w : Kd8) : Option (List Int × List Int) := pairsK.find? (prtB n w)
theorem prt_und (n w : Kd8) : (prt n w).isNone = undB n w := by cases n <;> cases w <;> decide +kernel
theorem prt_some {n w : Kd8} {p : List Int × List Int} (h : prt n w = some p) : p ∈ pairsK ∧ pl w p.1 = pl w p.2 ∧ pl n p.1 ≠ pl n p.2 := by
  have := List.find?_some h
  unfold prtB at this
  rw [Bool.and_eq_true, decide_eq_true_eq, Bool.not_eq_true', decide_eq_false_iff_not] at this
  exact ⟨List.mem_of_find?_eq_some h, this.1, this.2⟩
end Km
namespace Kx
open PySem PySem.Spec L2 Lk Kd Km
theorem under_nF {n w : Kd8} (h : undB n w = true) (f : Bool) (l : List Int) : nF n (nF w f l) (pl n l) = nF n f (pl n l) := by
  by_cases e : w = .last
  · subst e
    cases n with
    | last =>
      by_cases z : l = []
      · subst z; rfl
      · rw [nF_last z]
        have z2 : pl .last l ≠ [] := fun q => z (pl_last_nil.mp q)
        rw [nF_last z2, nF_last z2]
    | _ => cases h
  · rw [nF_false e]
theorem under_nrm {n w : Kd8} (h : undB n w = true) (e : Bool × List Int) : nrm n (nrm w e) = nrm n e := by
  show (nF n (nF w e.1 (pl w e.2)) (pl n (pl w e.2)), pl n (pl w e.2)) = (nF n e.1 (pl n e.2), pl n e.2)
  rw [under_nF h, under_pl h]
theorem under_on {n w : Kd8} (h : undB n w = true) (e : Bool × List Int) (s : List Int) : onE n (nrm n e).1 (nrm n e).2 (pl n s) = pl n (onE w e.1 e.2 s) := by
  rw [on_nrm]
  unfold onE
  split
  · rfl
  · rw [pl_left, under_pl h]
/-- the step narrowed leads there -/
theorem under_leads {n w : Kd8} (h : undB n w = true) {x g u : Bool × List Int} (hu : Leads w (nrm w x) (nrm w g) u) : Leads n (nrm n x) (nrm n g) (nrm n u) := by
  refine ⟨(Nrm.of n u).pl, (Nrm.of n u).fl, ?_⟩
  have e1 : nrm w (mulE (nrm w x) u) = nrm w g := by rw [← thE_eq hu.pl]; exact hu.to
  rw [thE_eq (nrm_pl n u), nrm_mulR, nrm_mul, ← under_nrm h g, ← e1, under_nrm h, ← nrm_mul, ← nrm_mul (nrm w x), under_nrm h]
theorem under_then {n w : Kd8} (h : undB n w = true) {x y : Bool × List Int} : nrm n (mulE (nrm n x) (nrm n y)) = nrm n (nrm w (mulE x y)) := by
  rw [nrm_mulR, nrm_mul, under_nrm h]
end Kx
namespace Kx
open PySem PySem.Spec L2 Lk Kd Km
theorem whole_part {k8 : Km.Kd8} {x p : Bool × List Int} (hp : Km.pl k8 p.2 = p.2) : ∃ s, stp k8 (nrm k8 x) (nrm k8 (thE k8 x p)) = some s ∧ s.2.length ≤ p.2.length := by
  have e : thE k8 (nrm k8 x) (nrm k8 p) = nrm k8 (thE k8 x p) := by
    rw [thE_eq (nrm_pl k8 p), thE_eq hp, nrm_nrm, nrm_mulR, nrm_mul]
  have L : Leads k8 (nrm k8 x) (nrm k8 (thE k8 x p)) (nrm k8 p) := ⟨(Nrm.of k8 p).pl, (Nrm.of k8 p).fl, e⟩
  obtain ⟨s, h1, h2⟩ := stp_least (Nrm.of k8 x) (Nrm.of k8 (thE k8 x p)) L
  refine ⟨s, h1, ?_⟩
  rw [show (nrm k8 p).2 = p.2 from hp] at h2
  exact h2
end Kx

set_option Elab.async false
set_option linter.all false
set_option maxRecDepth 100000
set_option maxHeartbeats 4000000
/-! set - set, of ints: the table of a copy, the walk, the members that go -/
namespace Kg
open PySem PySem.Spec PyProof.Rows L2 Lk
/-! ### a table that is laid anew has room -/
def orb (m : Nat) : Nat → Nat → List Nat
  | 0, _ => []
  | n + 1, i => i :: orb m n ((i * 5 + 1) % (m + 1))
def good (m : Nat) : Bool := (List.range (m + 1)).all fun i => (List.range (m + 1)).all fun j => (orb m (m + 1) i).contains j
theorem good_masks : good 7 = true ∧ good 15 = true ∧ good 31 = true ∧ good 63 = true := by decide +kernel
theorem lcgI_step (m : Nat) : ∀ (k i : Nat), lcgI m i (k + 1) = lcgI m ((i * 5 + 1) % (m + 1)) k
  | 0, _ => rfl
  | k + 1, i => by
    show (lcgI m i (k + 1) * 5 + 1) % (m + 1) = (lcgI m ((i * 5 + 1) % (m + 1)) k * 5 + 1) % (m + 1)
    rw [lcgI_step m k i]
theorem orb_mem (m : Nat) : ∀ (n i j : Nat), j ∈ orb m n i → ∃ k, k < n ∧ lcgI m i k = j
  | 0, _, _, h => by cases h
  | n + 1, i, j, h => by
    rcases List.mem_cons.mp h with e | h
    · exact ⟨0, Nat.succ_pos n, e.symm⟩
    · obtain ⟨k, hk, e⟩ := orb_mem m n _ j h
      exact ⟨k + 1, Nat.succ_lt_succ hk, (lcgI_step m k i).trans e⟩
theorem good_meets {m : Nat} (g : good m = true) {i j : Nat} (hi : i ≤ m) (hj : j ≤ m) : ∃ k, k ≤ m ∧ lcgI m i k = j := by
  have z := List.all_eq_true.mp (List.all_eq_true.mp g i (List.mem_range.mpr (Nat.lt_succ_of_le hi))) j (List.mem_range.mpr (Nat.lt_succ_of_le hj))
  obtain ⟨k, hk, e⟩ := orb_mem m (m + 1) i j (List.contains_iff_mem.mp z)
  exact ⟨k, Nat.le_of_lt_succ hk, e⟩
theorem free_none (m : Nat) (owner : Array (Option Nat)) : ∀ (f i b : Nat), SetTable.layClean.free m owner f i b = none → ∀ t, t < f → oAt owner (itL m i b t).1 ≠ none
  | 0, _, _, _, t, ht => absurd ht (Nat.not_lt_zero _)
  | f + 1, i, b, h, t, ht => by
    rw [free_succ] at h
    cases z : (List.range (SetTable.runEnd m i + 1 - i)).find? (fun k => (oAt owner (i + k)).isNone) with
    | some k => rw [z] at h; cases h
    | none =>
      rw [z] at h
      cases t with
      | zero =>
        intro q
        have y := List.find?_eq_none.mp z 0 (List.mem_range.mpr (by have := runEnd_ge m i; omega))
        have q : oAt owner i = none := q
        rw [Nat.add_zero, q] at y
        exact y rfl
      | succ t => exact free_none m owner f _ _ h t (Nat.lt_of_succ_lt_succ ht)
theorem free_is (m : Nat) (owner : Array (Option Nat)) : ∀ (f i b p : Nat), SetTable.layClean.free m owner f i b = some p → oAt owner p = none
  | 0, _, _, _, h => by cases h
  | f + 1, i, b, p, h => by
    rw [free_succ] at h
    cases z : (List.range (SetTable.runEnd m i + 1 - i)).find? (fun k => (oAt owner (i + k)).isNone) with
    | some k =>
      rw [z] at h
      cases (show i + k = p from Option.some.inj h)
      have y := List.find?_some z
      cases q : oAt owner (i + k) with
      | none => rfl
      | some _ => rw [q] at y; cases y
    | none =>
      rw [z] at h
      exact free_is m owner f _ _ p h
theorem free_some {m : Nat} (g : good m = true) (owner : Array (Option Nat)) (h : Int) {j : Nat} (hj : j ≤ m) (hf : oAt owner j = none) : ∃ p, SetTable.layClean.free m owner (SetTable.turns m) (SetTable.bits h % (m + 1)) (SetTable.bits h) = some p ∧ oAt owner p = none := by
  cases z : SetTable.layClean.free m owner (SetTable.turns m) (SetTable.bits h % (m + 1)) (SetTable.bits h) with
  | some p => exact ⟨p, rfl, free_is m owner _ _ _ p z⟩
  | none =>
    obtain ⟨k, hk, e⟩ := good_meets g (runI_le m (SetTable.bits h) 12) hj
    have y := free_none m owner _ _ _ z (12 + k) (by show 12 + k < m + 15; omega)
    rw [itL_run] at y
    have w : runI m (SetTable.bits h) (12 + k) = j := (runI_tail (bits_lt h) k).trans e
    rw [show (runI m (SetTable.bits h) (12 + k), SetTable.bits h / 32 ^ (12 + k)).1 = j from w] at y
    exact absurd hf y
theorem none_in {owner : Array (Option Nat)} {p : Nat} (h : oAt owner p = none) : p < owner.size := by
  rcases Nat.lt_or_ge p owner.size with lt | ge
  · exact lt
  · have e : owner.getD p (some 0) = some 0 := by rw [Array.getD_eq_getD_getElem?, Array.getElem?_eq_none ge] <;> rfl
    exact absurd (e.symm.trans h) (by simp)
structure Ow (m n : Nat) (owner : Array (Option Nat)) : Prop where
  sz : owner.size = m + 1
  lt : ∀ j k, oAt owner j = some k → j ≤ m → k < n
  ex : ∀ k, k < n → ∃ j, j ≤ m ∧ oAt owner j = some k
  ps : ∃ ps : List Nat, ps.length = n ∧ ∀ j, j ≤ m → oAt owner j ≠ none → j ∈ ps
theorem fold_lay {m : Nat} (g : good m = true) : ∀ (rest : List Int) (n : Nat) (owner : Array (Option Nat)), Ow m n owner → n + rest.length ≤ m → ∃ owner', rest.foldl (stepF m) (some (owner, n)) = some (owner', n + rest.length) ∧ Ow m (n + rest.length) owner'
  | [], n, owner, W, _ => ⟨owner, rfl, W⟩
  | h :: rest, n, owner, W, hl => by
    rw [List.length_cons] at hl
    obtain ⟨ps, hps, hin⟩ := W.ps
    obtain ⟨j, hj, hnot⟩ := st_missing ps (m + 1) (by omega)
    have hfree : oAt owner j = none := Classical.byContradiction fun c => hnot (hin j (Nat.le_of_lt_succ hj) c)
    obtain ⟨p, e, hp⟩ := free_some g owner h (Nat.le_of_lt_succ hj) hfree
    have pin := none_in hp
    have W' : Ow m (n + 1) (owner.setIfInBounds p (some n)) := by
      refine ⟨by rw [Array.size_setIfInBounds]; exact W.sz, fun i k hi him => ?_, fun k hk => ?_, p :: ps, by rw [List.length_cons, hps], fun i him hi => ?_⟩
      · by_cases c : i = p
        · subst c
          rw [oAt_set_self _ pin] at hi
          cases hi
          omega
        · rw [oAt_set_ne _ c] at hi
          have := W.lt i k hi him
          omega
      · by_cases c : k = n
        · subst c
          exact ⟨p, by have := W.sz; omega, oAt_set_self _ pin⟩
        · obtain ⟨i, h1, h2⟩ := W.ex k (by omega)
          exact ⟨i, h1, by rw [oAt_set_ne _ (fun z => by rw [z, hp] at h2; cases h2)]; exact h2⟩
      · by_cases c : i = p
        · rw [c]; exact List.mem_cons_self
        · rw [oAt_set_ne _ c] at hi
          exact List.mem_cons_of_mem _ (hin i him hi)
    obtain ⟨owner', f, W2⟩ := fold_lay g rest (n + 1) _ W' (by omega)
    refine ⟨owner', ?_, by rw [show n + (h :: rest).length = n + 1 + rest.length by rw [List.length_cons]; omega]; exact W2⟩
    rw [List.foldl_cons, stepF_some e, show n + (h :: rest).length = n + 1 + rest.length by rw [List.length_cons]; omega]
    exact f
theorem lay_ok {m : Nat} (g : good m = true) {hs : Array Int} (hn : hs.size ≤ m) : ∃ owner, SetTable.layClean m hs = some owner ∧ Ow m hs.size owner := by
  have W0 : Ow m 0 (Array.replicate (m + 1) none) := ⟨by simp, fun j k e hj => (by rw [oAt_init hj] at e; cases e), fun k hk => absurd hk (Nat.not_lt_zero _), [], rfl, fun j hj e => absurd (oAt_init hj) e⟩
  obtain ⟨owner, f, W⟩ := fold_lay g hs.toList 0 _ W0 (by rw [Array.length_toList]; omega)
  rw [Array.length_toList, Nat.zero_add] at f W
  exact ⟨owner, by rw [layClean_eq, f] <;> rfl, W⟩
/-- the table that a clean laying leaves -/
theorem laid_ok {m fi mv : Nat} {led pl : Bool} (g : good m = true) {hs : Array Int} (hn : hs.size ≤ m) : ∃ t' order, SetTable.laid m fi mv led pl hs = some (t', order) ∧ order.toList.Perm (List.range hs.size) ∧ Ris t'.place.toList ∧ t'.place.size = hs.size ∧ t'.dummies = #[] ∧ t'.mask = m ∧ t'.led = led := by
  obtain ⟨owner, e, W⟩ := lay_ok g hn
  have ris := ris_live (fun j => owner.getD j none) (List.range (m + 1)) (by unfold Ris; first | exact List.pairwise_lt_range | exact List.pairwise_lt_range _)
  have r1 : Ris ((liveOf m owner).map (·.1)) := ris.1
  have mem := fun {j k : Nat} => mem_live (owner := owner) (m := m) W.sz (j := j) (k := k)
  have all : ∀ k, k < hs.size → k ∈ (liveOf m owner).map (·.2) := fun k hk => by
    obtain ⟨j, h1, h2⟩ := W.ex k hk
    exact List.mem_map.mpr ⟨(j, k), mem.mpr ⟨h1, h2⟩, rfl⟩
  have hlen : (liveOf m owner).length = hs.size := by
    obtain ⟨ps, p1, p2⟩ := W.ps
    have up := nat_nodup_len ((liveOf m owner).map (·.1)) ps (show ((liveOf m owner).map (·.1)).Nodup from List.Pairwise.imp (fun h => Nat.ne_of_lt h) (show ((liveOf m owner).map (·.1)).Pairwise (· < ·) from r1)) fun x hx => by
      obtain ⟨⟨y, k⟩, hq, rfl⟩ := List.mem_map.mp hx
      obtain ⟨b1, b2⟩ := mem.mp hq
      exact p2 y b1 (by rw [b2]; simp)
    have down := nat_nodup_len (List.range hs.size) ((liveOf m owner).map (·.2)) List.nodup_range fun k hk => all k (List.mem_range.mp hk)
    rw [List.length_map, p1] at up
    rw [List.length_map, List.length_range] at down
    omega
  refine ⟨_, _, show SetTable.laid m fi mv led pl hs = _ from by unfold SetTable.laid; rw [e] <;> rfl, ?_, r1, ?_, rfl, rfl, rfl⟩
  · exact perm_range hs.size _ (by show ((liveOf m owner).map (·.2)).length = _; rw [List.length_map]; exact hlen) fun k hk => all k hk
  · show ((liveOf m owner).map (·.1)).toArray.size = _
    rw [List.size_toArray, List.length_map]
    exact hlen
end Kg

set_option Elab.async false
set_option linter.all false
set_option maxRecDepth 100000
set_option maxHeartbeats 4000000
namespace Kg
open PySem PySem.Spec PyProof.Rows L2 Lk
section
variable {P : Program} {w : World} {A : Around} {E : Value → Shared → Prop} {s : Shared} {a : Addr} {o : Obj} {es : Array (Int × Value)} {ep : Nat} {t : SetTable}
/-- the members of a set, in some order -/
theorem walk_at {Q : Array (Int × Value) → Shared → Prop} (ho : s.heap.get? a = some o) (hd : o.data = .set es ep t) (hf : t.fits es.size = true) (hl : w.params.followText "set-order" = true ∨ t.led = true)
    (h : ∀ xs d, xs.toList.Perm es.toList → Q xs { s with drawn := d }) : wpAny (model P w) A (setWalk a) Q E s := by
  unfold setWalk
  refine wpAny_bind (wpAny_setState_of ho hd hf (wpAny_bind (wpAny_byText ?_)))
  by_cases hb : w.params.followText "set-order" = true
  · exact wp_if_pos hb (wpAny_bind (wpAny_askSetting (wpAny_pure (h _ s.drawn (pick_perm _ es)))))
  · have hled : t.led = true := hl.resolve_left hb
    refine wp_if_neg hb ?_
    try refine wpAny_bind (wpAny_pure ?_)
    by_cases hdr : (!t.plain && decide (es.size > 1)) = true
    · refine wp_if_pos (show (!t.plain && decide (es.size > 1)) = true from hdr) ?_
      exact wpAny_bind (drawOrder_at es.size es.toList s _ (by rw [Array.length_toList]; exact Nat.le_refl _) fun ys d p => wpAny_pure (h _ d (by simpa using p)))
    · refine wp_if_neg (show ¬ (!t.plain && decide (es.size > 1)) = true from hdr) ?_
      try refine wpAny_bind (wpAny_pure ?_)
      refine wpAny_bind (wpAny_of_eq (a := ()) (show (if (!t.led && decide (es.size > 1)) = true then unsupported "set:maker-not-led" else pure ()) = pure () by rw [hled] <;> rfl) ?_)
      exact wpAny_pure (h es s.drawn (List.Perm.refl _))
theorem good_int {l : List (Int × Value)} (g : ∀ e ∈ l, GoodE e) : ∀ e ∈ l, ∀ b, e.2 ≠ .ref b := fun e he b z => by
  obtain ⟨k, tk, h, _⟩ := g e he
  rw [h] at z
  cases z
theorem entries_at {Q : Array (Int × Value) → Shared → Prop} (ho : s.heap.get? a = some o) (hd : o.data = .set es ep t) (hf : t.fits es.size = true) (h : Q es s) : wpAny (model P w) A (setEntries a) Q E s := by
  unfold setEntries
  exact wpAny_bind (wpAny_setState_of ho hd hf (wpAny_pure h))
/-- sets of ints are asked nothing -/
theorem quiet_at {Q : Bool → Shared → Prop} (sets : List Addr) (hs : ∀ b ∈ sets, ∃ S n, SetR w s.heap b S n) (h : Q true s) : wpAny (model P w) A (setsQuiet sets) Q E s := by
  unfold setsQuiet
  refine wpAny_bind (wpAny_forIn_list _ (fun rest r s' => s' = s ∧ r = (none, ()) ∧ ∀ b ∈ rest, ∃ S n, SetR w s.heap b S n) _ ?_ ?_ _ _ ⟨rfl, rfl, hs⟩)
  · rintro b rest r s' ⟨rfl, rfl, hr⟩
    obtain ⟨S, n, o, es, ep, t, ho, hex, hd, g, nd, hm, hb, hf, hn, hr2, hl⟩ := hr b List.mem_cons_self
    refine wpAny_bind (entries_at ho hd hf ?_)
    have gi := good_int g
    refine wpAny_bind (MeetsSeq2.wpAny_forIn_array _ (fun (rest : List (Int × Value)) r s'' => s'' = s' ∧ r.1 = none ∧ ∀ e ∈ rest, ∀ b : Addr, e.2 ≠ Value.ref b) _ ?_ ?_ _ _ ⟨rfl, rfl, gi⟩)
    · rintro ⟨hh, x⟩ rest2 r2 s2 ⟨rfl, e2, hg⟩
      have hx := hg (hh, x) List.mem_cons_self
      cases x with
      | ref b => exact absurd rfl (hx b)
      | _ => exact wpAny_pure ⟨rfl, rfl, fun e he => hg e (List.mem_cons_of_mem _ he)⟩
    · rintro ⟨r2, _⟩ s2 ⟨rfl, e2, _⟩
      cases (show r2 = none from e2)
      exact wpAny_pure ⟨rfl, rfl, fun b hb => hr b (List.mem_cons_of_mem _ hb)⟩
  · rintro r s' ⟨rfl, rfl, _⟩
    exact wpAny_pure h
/-- what a walk may touch -/
def Rel (w : World) (fl : Option Addr) (s s' : Shared) : Prop := ∃ h' d, s' = { s with heap := h', drawn := d } ∧ match fl with
  | none => h' = s.heap
  | some f => Heap.SameBut f s.heap h' ∧ ∀ S n, SetR w s.heap f S n → SetR w h' f S n
theorem unseen_at {others : List Addr} {fl : Option Addr} {Q : Array (Int × Value) → Shared → Prop} (ho : s.heap.get? a = some o) (hd : o.data = .set es ep t) (hf : t.fits es.size = true) (hl : w.params.followText "set-order" = true ∨ t.led = true)
    (hs : ∀ b ∈ a :: others, ∃ S n, SetR w s.heap b S n) (hfl : ∀ f, fl = some f → ∃ S n, SetR w s.heap f S n) (h : ∀ xs s', xs.toList.Perm es.toList → Rel w fl s s' → Q xs s') : wpAny (model P w) A (setWalkUnseen a others fl) Q E s := by
  have same : ∀ d, Rel w fl s { s with drawn := d } := fun d => ⟨s.heap, d, rfl, by
    cases fl with
    | none => rfl
    | some f => exact ⟨Heap.SameBut.refl f s.heap, fun S n r => r⟩⟩
  have plain : wpAny (model P w) A (setWalk a) Q E s := walk_at ho hd hf hl fun xs d p => h xs _ p (same d)
  unfold setWalkUnseen
  refine wpAny_bind (wpAny_setState_of ho hd hf (wpAny_bind (wpAny_byText ?_)))
  by_cases c : (w.params.followText "set-order" || (t.led && t.plain) || decide (es.size ≤ 1)) = true
  · exact wp_if_pos c plain
  refine wp_if_neg c ?_
  try refine wpAny_bind (wpAny_pure ?_)
  have hb : w.params.followText "set-order" = false := by
    cases z : w.params.followText "set-order" with
    | false => rfl
    | true => rw [z] at c; simp at c
  have hled : t.led = true := hl.resolve_left (by rw [hb]; exact Bool.false_ne_true)
  refine wpAny_bind (quiet_at _ hs ?_)
  refine wp_if_neg (by simp) ?_
  try refine wpAny_bind (wpAny_pure ?_)
  refine wpAny_bind (wpAny_rule ?_)
  cases fl with
  | none =>
    try refine wpAny_bind (wpAny_pure ?_)
    exact wpAny_pure (h es s (List.Perm.refl _) (same s.drawn))
  | some f =>
    obtain ⟨S, n, of', ef, epf, tf, hof, hexf, hdf, gf, ndf, hmf, hbf, hff, hnf, hrf, hlf⟩ := hfl f rfl
    refine wpAny_bind (wpAny_setState_of hof hdf hff ?_)
    have new : ∀ pl', SetR w (s.heap.update f (Obj.putSet ef { tf with led := tf.led && t.led, plain := pl' })) f S n := fun pl' =>
      ⟨_, ef, _, _, store_at hof hdf, hexf, rfl, gf, ndf, hmf, hbf, hff, hnf, hrf, .inr (by show (tf.led && t.led) = true; rw [hled, hlf.resolve_left (by rw [hb]; exact Bool.false_ne_true)] <;> rfl)⟩
    have only : ∀ S' n', SetR w s.heap f S' n' → (∀ k, S' k = S k) ∧ n' = n := fun S' n' ⟨o2, e2, p2, t2, g1, _, g3, _, _, g6, _, _, g9, _⟩ => by
      rw [hof] at g1
      cases g1
      rw [hdf] at g3
      cases g3
      exact ⟨fun k => by rw [Bool.eq_iff_iff, g6 k, hmf k], g9.symm.trans hnf⟩
    have rel : ∀ pl', Rel w (some f) s { s with heap := s.heap.update f (Obj.putSet ef { tf with led := tf.led && t.led, plain := pl' }) } := fun pl' => ⟨_, s.drawn, rfl, Heap.SameBut.update s.heap f _, fun S' n' r => by
      obtain ⟨e1, e2⟩ := only S' n' r
      rw [e2]
      exact (new pl').congr e1⟩
    by_cases c2 : ((tf.led && !t.led) || (tf.plain && !t.plain)) = true
    · refine wp_if_pos c2 ?_
      first
        | exact wpAny_bind (wpAny_storeSet_of hof hdf (wpAny_pure (h es _ (List.Perm.refl _) (rel _))) (fits_of_scanBound hbf))
        | exact wpAny_bind (wpAny_bind (wpAny_storeSet_of hof hdf (wpAny_pure (wpAny_pure (h es _ (List.Perm.refl _) (rel _)))) (fits_of_scanBound hbf)))
    · refine wp_if_neg c2 ?_
      first
        | exact wpAny_pure (h es s (List.Perm.refl _) (same s.drawn))
        | exact wpAny_bind (wpAny_pure (wpAny_pure (h es s (List.Perm.refl _) (same s.drawn))))
        | exact wpAny_bind (wpAny_pure (h es s (List.Perm.refl _) (same s.drawn)))
theorem sub_set : isSubtype (.type "set") (.type "set") = pure true := by rw [isSubtype_type]; kernel_rfl
theorem SetR.is_set {S : Int → Bool} {n : Nat} (R : SetR w s.heap a S n) : s.TypeIs (.ref a) "set" := by
  obtain ⟨o, _, _, _, ho, hex, _⟩ := R
  exact ⟨o, ho, hex.1⟩
theorem anySet_at {S : Int → Bool} {n : Nat} {Q : Bool → Shared → Prop} (R : SetR w s.heap a S n) (h : Q true s) : wpAny (model P w) A (Builtin.Frozenset.isAnySet (.ref a)) Q E s := by
  unfold Builtin.Frozenset.isAnySet
  exact wpAny_bind (wpAny_isInstance (T := "set") (b := true) (SetR.is_set R) sub_set (wpAny_pure h))
theorem base_at {S : Int → Bool} {n : Nat} {Q : Value → Shared → Prop} (R : SetR w s.heap a S n) (h : Q (.type "set") s) : wpAny (model P w) A (Builtin.Frozenset.baseOf a) Q E s := by
  unfold Builtin.Frozenset.baseOf
  exact wpAny_bind (wpAny_isInstance (T := "set") (b := true) (SetR.is_set R) sub_set (wpAny_pure h))
theorem size_at {S : Int → Bool} {n : Nat} {Q : Nat → Shared → Prop} (R : SetR w s.heap a S n) (h : Q n s) : wpAny (model P w) A (Builtin.Frozenset.sizeOf a) Q E s := by
  obtain ⟨o, es, ep, t, ho, hex, hd, g, nd, hm, hb, hf, hn, hr, hl⟩ := R
  unfold Builtin.Frozenset.sizeOf
  exact wpAny_bind (entries_at ho hd hf (wpAny_pure (by rw [hn]; exact h)))
/-- is a member there -/
theorem find_at {T : Int → Bool} {m : Nat} {k : Int} {tk : Tok} {Q : Option Nat → Shared → Prop} (R : SetR w s.heap a T m) (h : ∀ r : Option Nat, r.isSome = T k → Q r s) : wpAny (model P w) A (setFind a (.int k tk) (hashInt k)) Q E s := by
  obtain ⟨o, es, ep, t, ho, hex, hd, g, nd, hm, hb, hf, hn, hr, hl⟩ := R
  exact PySem.W.setFind_any (knd := intKind P w) (k := k) (x := .int k tk) (intKind_is P w k tk) rfl ho hd (good_elems g) (fun j => (hm j).trans (good_mem g j)) hb hf h
theorem firstNodup : ∀ (l D : List Int), l.Nodup → (∀ x ∈ l, x ∈ D) → l.length ≤ D.length
  | [], _, _, _ => Nat.zero_le _
  | x :: l, D, h, hs => by
    obtain ⟨h1, h2⟩ := List.nodup_cons.mp h
    have hx : x ∈ D := hs x List.mem_cons_self
    have ih := firstNodup l (D.erase x) h2 fun y hy => (List.mem_erase_of_ne fun e => h1 (by rw [← e]; exact hy)).mpr (hs y (List.mem_cons_of_mem _ hy))
    rw [List.length_erase_of_mem hx] at ih
    have := List.length_pos_of_mem hx
    rw [List.length_cons]
    omega
/-- what the new set holds behind some members -/
def Part (S T : Int → Bool) (done : List (Int × Value)) : Int → Bool := fun k => decide (k ∈ done.map keyOf) && !T k
theorem few_at {S : Int → Bool} {c : Nat} (R : SetR w s.heap a S c) (L : List Int) (h : ∀ k, S k = true → k ∈ L) : c ≤ L.length := by
  obtain ⟨o, es, ep, t, ho, hex, hd, g, nd, hm, hb, hf, hn, hr, hl⟩ := R
  have z := firstNodup (es.toList.map keyOf) L nd fun k hk => h k ((hm k).mpr hk)
  rw [List.length_map, Array.length_toList, hn] at z
  exact z
theorem epoch_at {Q : Nat → Shared → Prop} (ho : s.heap.get? a = some o) (hd : o.data = .set es ep t) (hf : t.fits es.size = true) (h : Q ep s) : wpAny (model P w) A (setEpoch a) Q E s := by
  unfold setEpoch
  exact wpAny_bind (wpAny_setState_of ho hd hf (wpAny_pure h))
/-- while members are looked at: the two sets stay, the new one grows -/
def Grow (w : World) (T : Int → Bool) (l r p : Addr) (m : Nat) (o : Obj) (s0 : Shared) (done : List (Int × Value)) (s' : Shared) : Prop :=
  (∀ b ob, s0.heap.get? b = some ob → s'.heap.get? b = some ob) ∧ s'.gens = s0.gens ∧ s'.os = s0.os ∧ s'.heap.get? l = some o ∧ SetR w s'.heap r T m ∧ ∃ c, SetR w s'.heap p (fun k => decide (k ∈ done.map keyOf) && !T k) c
theorem diff_few {l r : Addr} {S T : Int → Bool} {n m : Nat} {idn : String} {Q : Value → Shared → Prop} (R1 : SetR w s.heap l S n) (R2 : SetR w s.heap r T m) (hn31 : n ≤ 31) (hbig : ¬ n / 4 > m)
    (hQ : ∀ (s' : Shared) (c : Nat), (∀ b ob, s.heap.get? b = some ob → s'.heap.get? b = some ob) → s'.gens = s.gens → s'.os = s.os → SetR w s'.heap s.heap.objs.size (fun k => S k && !T k) c → Q (.ref s.heap.objs.size) s') :
    wpAny (model P w) A (Builtin.Frozenset.difference idn l (.ref r)) Q E s := by
  unfold Builtin.Frozenset.difference
  refine wpAny_bind (anySet_at R2 ?_)
  refine wp_if_neg (by simp) ?_
  try refine wpAny_bind (wpAny_pure ?_)
  unfold Builtin.Frozenset.addrOf
  refine wpAny_bind (size_at R2 ?_)
  refine wpAny_bind (size_at R1 ?_)
  refine wp_if_neg hbig ?_
  try refine wpAny_bind (wpAny_pure ?_)
  refine wpAny_bind (base_at R1 (wpAny_bind (PpSet.newSet_ok ?_)))
  try refine wpAny_bind (wpAny_pure ?_)
  have l1 := R1.lt
  have l2 := R2.lt
  have h0 : ∀ ob : Obj, ∀ b x, s.heap.get? b = some x → (s.heap.push ob).get? b = some x := fun ob b x z => Heap.get?_push_of_some _ z
  have fresh := setR_fresh (h := s.heap) w
  have R1' := R1.at (h' := s.heap.push { cls := .type "set", dict := none, data := .set #[] 0 (.fresh 0 0 (!w.params.followText "set-order")) }) (fun x z => h0 _ _ _ z)
  have R2' := R2.at (h' := s.heap.push { cls := .type "set", dict := none, data := .set #[] 0 (.fresh 0 0 (!w.params.followText "set-order")) }) (fun x z => h0 _ _ _ z)
  have k0 := h0 { cls := .type "set", dict := none, data := .set #[] 0 (.fresh 0 0 (!w.params.followText "set-order")) }
  generalize hs1 : ({ s with heap := s.heap.push { cls := .type "set", dict := none, data := .set #[] 0 (.fresh 0 0 (!w.params.followText "set-order")) } } : Shared) = s1
  have eh : s.heap.push { cls := .type "set", dict := none, data := .set #[] 0 (.fresh 0 0 (!w.params.followText "set-order")) } = s1.heap := by rw [← hs1]
  have eg : s1.gens = s.gens := by rw [← hs1]
  have eo : s1.os = s.os := by rw [← hs1]
  rw [eh] at R1' R2' fresh k0
  have R1c := R1'
  obtain ⟨o, es, ep, t, ho, hex, hd, g, nd, hm, hb, hf, hn, hr, hl⟩ := R1c
  refine wpAny_bind (epoch_at ho hd hf ?_)
  refine wpAny_bind (wpAny_holding (wpAny_bind (wp_if_pos rfl (unseen_at ho hd hf hl ?_ ?_ ?_))))
  · intro b hb
    simp only [List.mem_cons, List.not_mem_nil, or_false] at hb
    rcases hb with rfl | rfl | rfl
    · exact ⟨_, _, R1'⟩
    · exact ⟨_, _, R2'⟩
    · exact ⟨_, _, fresh⟩
  · intro f e
    cases e
    exact ⟨_, _, fresh⟩
  rintro xs s2 px ⟨h2, d2, rfl, sb, keep⟩
  have ne1 : l ≠ s.heap.objs.size := Nat.ne_of_lt l1
  have ne2 : r ≠ s.heap.objs.size := Nat.ne_of_lt l2
  have start : Grow w T l r s.heap.objs.size m o s [] { s1 with heap := h2, drawn := d2 } := by
    refine ⟨fun b ob z => ?_, eg, eo, (sb.2 l ne1).trans ho, R2'.at fun x z => (sb.2 r ne2).trans z, 0, ?_⟩
    · have lt := Heap.lt_size z
      exact (sb.2 b (Nat.ne_of_lt lt)).trans (k0 b ob z)
    · exact (keep _ _ fresh).congr fun k => by simp
  refine wpAny_bind (MeetsSeq2.wpAny_forIn_array _ (fun rest _ s' => ∃ done, xs.toList = done ++ rest ∧ Grow w T l r s.heap.objs.size m o s done s') _ ?_ ?_ xs _ ⟨[], rfl, start⟩)
  · rintro ⟨hh, v⟩ rest b s3 ⟨done, ed, q1, q2, q3, q4, q5, c, q6⟩
    have hmem : (hh, v) ∈ es.toList := px.mem_iff.mp (by rw [ed]; exact List.mem_append_right _ List.mem_cons_self)
    obtain ⟨k, tk, e1, e2⟩ := g _ hmem
    cases (show v = Value.int k tk from e1)
    cases (show hh = hashInt k from e2)
    have hk : keyOf (hashInt k, Value.int k tk) = k := rfl
    have hc : c ≤ 31 := by
      have z := few_at q6 (done.map keyOf) fun j hj => by
        simp only [Bool.and_eq_true, decide_eq_true_eq] at hj
        exact hj.1
      have y : done.length ≤ n := by
        rw [← hn, ← Array.length_toList, ← px.length_eq, ed, List.length_append]
        omega
      rw [List.length_map] at z
      omega
    refine wpAny_bind (wpAny_holding (wp_if_pos rfl (wpAny_bind (find_at q5 fun fo hfo => ?_))))
    have unch : ∀ {s4 : Shared} {Q' : ForInStep PUnit → Shared → Prop}, s4.heap.get? l = some o → Q' (.yield PUnit.unit) s4 → wpAny (model P w) A (do Builtin.Frozenset.unchanged idn l ep; pure (ForInStep.yield PUnit.unit)) Q' E s4 := fun {s4 Q'} z q => by
      unfold Builtin.Frozenset.unchanged
      refine wpAny_bind (wpAny_bind (epoch_at z hd hf ?_))
      exact wp_if_neg (by simp) (wpAny_pure (wpAny_pure q))
    have next : ∀ {s4 : Shared} {c' : Nat}, Heap.SameBut s.heap.objs.size s3.heap s4.heap → s4.gens = s3.gens → s4.os = s3.os → SetR w s4.heap s.heap.objs.size (fun j => decide (j ∈ (done ++ [(hashInt k, Value.int k tk)]).map keyOf) && !T j) c' →
        ∃ done, xs.toList = done ++ rest ∧ Grow w T l r s.heap.objs.size m o s done s4 := fun {s4 c'} sb4 z1 z2 z3 => by
      refine ⟨done ++ [(hashInt k, Value.int k tk)], by rw [ed, List.append_assoc] <;> rfl, fun b ob z => ?_, z1.trans q2, z2.trans q3, (sb4.2 l ne1).trans q4, q5.at fun x z => (sb4.2 r ne2).trans z, c', z3⟩
      have lt := Heap.lt_size z
      exact (sb4.2 b (Nat.ne_of_lt lt)).trans (q1 b ob z)
    have mem1 : ∀ j, decide (j ∈ (done ++ [(hashInt k, Value.int k tk)]).map keyOf) = (decide (j ∈ done.map keyOf) || decide (j = k)) := fun j => by
      rw [List.map_append, Bool.eq_iff_iff]
      simp [hk]
    by_cases ht : T k = true
    · refine wp_if_neg (by rw [hfo, ht]; simp) ?_
      refine wpAny_pure (unch q4 ?_)
      refine next (Heap.SameBut.refl _ _) rfl rfl (c' := c) (q6.congr fun j => ?_)
      rw [mem1]
      by_cases e : j = k
      · subst e; rw [ht]; simp
      · simp [e]
    · have ht' : T k = false := by simpa using ht
      refine wp_if_pos (by rw [hfo, ht']; simp) ?_
      refine wpAny_bind (setR_add_hashed q6 (by unfold scanBound; omega) fun h4 sb4 new => wpAny_pure (unch ((sb4.2 l ne1).trans q4) ?_))
      refine next (s4 := { s3 with heap := h4 }) sb4 rfl rfl (new.congr fun j => ?_)
      rw [mem1]
      by_cases e : j = k
      · subst e; rw [ht']; simp
      · simp [e]
  · rintro b s3 ⟨done, ed, q1, q2, q3, q4, q5, c, q6⟩
    rw [List.append_nil] at ed
    refine wpAny_pure (wpAny_pure (hQ s3 c q1 q2 q3 (q6.congr fun k => ?_)))
    rw [Bool.eq_iff_iff]
    have z : S k = true ↔ k ∈ done.map keyOf := by rw [hm k, ← ed]; exact (px.map keyOf).mem_iff.symm
    simp only [Bool.and_eq_true, decide_eq_true_eq, z]
end
end Kg

set_option Elab.async false
set_option linter.all false
set_option maxRecDepth 100000
set_option maxHeartbeats 4000000
namespace Kg
open PySem PySem.Spec PyProof.Rows L2 Lk
/-- a set of ints and its table: M the mask, at most D slots that were given up -/
def Tab (w : World) (h : Heap) (a : Addr) (S : Int → Bool) (M D : Nat) : Prop :=
  ∃ o es ep t, h.get? a = some o ∧ o.ExactSet ∧ o.data = .set es ep t ∧ (∀ e ∈ es.toList, GoodE e) ∧ (es.toList.map keyOf).Nodup ∧ (∀ k, S k = true ↔ k ∈ es.toList.map keyOf) ∧
    es.size < scanBound ∧ t.fits es.size = true ∧ Ris t.place.toList ∧ (w.params.followText "set-order" = true ∨ t.led = true) ∧ t.mask = M ∧ t.dummies.size ≤ D
theorem Tab.setR {w : World} {h : Heap} {a : Addr} {S : Int → Bool} {M D : Nat} (R : Tab w h a S M D) : ∃ c, SetR w h a S c := by
  obtain ⟨o, es, ep, t, h1, h2, h3, h4, h5, h6, h7, h8, h9, h10, _⟩ := R
  exact ⟨es.size, o, es, ep, t, h1, h2, h3, h4, h5, h6, h7, h8, rfl, h9, h10⟩
theorem Tab.congr {w : World} {h : Heap} {a : Addr} {S S' : Int → Bool} {M D : Nat} (R : Tab w h a S M D) (e : ∀ k, S' k = S k) : Tab w h a S' M D := by
  rw [show S' = S from funext e]
  exact R
theorem Tab.at {w : World} {h h' : Heap} {a : Addr} {S : Int → Bool} {M D : Nat} (R : Tab w h a S M D) (k : ∀ o, h.get? a = some o → h'.get? a = some o) : Tab w h' a S M D := by
  obtain ⟨o, es, ep, t, ho, r⟩ := R
  exact ⟨o, es, ep, t, k o ho, r⟩
section
variable {P : Program} {w : World} {A : Around} {E : Value → Shared → Prop} {s : Shared} {a : Addr} {o : Obj} {es : Array (Int × Value)} {ep : Nat} {t : SetTable}
theorem place_at {k : Int} {tk : Tok} {Q : Option Nat → Shared → Prop} (ho : s.heap.get? a = some o) (hd : o.data = .set es ep t) (hf : t.fits es.size = true) (g : ∀ e ∈ es.toList, GoodE e) (hb : es.size < scanBound)
    (h0 : k ∉ es.toList.map keyOf → Q none s) (h1 : ∀ i e, es.toList[i]? = some e → keyOf e = k → Q (some i) s) : wpAny (model P w) A (setFind a (.int k tk) (hashInt k)) Q E s := by
  have hel : ElemsOf (intKind P w) es.toList := good_elems g
  have hkey := intKind_is P w k tk
  unfold setFind setFindIn
  refine wpAny_bind (wpAny_setState_of ho hd hf ?_)
  dsimp only
  rw [byScan_of (knd := intKind P w) (show (Value.int k tk).scannable = true from rfl) hb hel]
  simp only [↓reduceIte]
  refine wpAny_bind (wpAny_rule (wpAny_bind (wpAny_setScan_of (knd := intKind P w) hkey ho hd hf hel ?_)))
  cases hr : List.findIdx? (fun e => (intKind P w).is k e.2) es.toList with
  | none =>
    dsimp only
    refine wpAny_pure (h0 fun z => ?_)
    obtain ⟨e, he, q⟩ := (good_mem (P := P) (w := w) g k).1 z
    have c := List.findIdx?_eq_none_iff.mp hr e he
    rw [q] at c
    cases c
  | some j =>
    dsimp only
    obtain ⟨hj, pj, _⟩ := List.findIdx?_eq_some_iff_getElem.mp hr
    rw [Nat.zero_add]
    exact wpAny_pure (h1 j _ (List.getElem?_eq_getElem hj) ((good_is (g _ (List.getElem_mem hj)) k).1 pj))
theorem erase_list {α : Type} (xs : Array α) (i : Nat) : (SetTable.eraseAt xs i).toList = xs.toList.take i ++ xs.toList.drop (i + 1) := by
  unfold SetTable.eraseAt
  rw [Array.toList_append, Array.toList_extract, Array.toList_extract]
  simp only [List.extract, Nat.sub_zero, List.drop_zero]
  congr 1
  exact List.take_of_length_le (by rw [List.length_drop, Array.length_toList]; exact Nat.le_refl _)
theorem erase_size {α : Type} (xs : Array α) {i : Nat} (h : i < xs.size) : (SetTable.eraseAt xs i).size = xs.size - 1 := by
  rw [← Array.length_toList, erase_list, List.length_append, List.length_take, List.length_drop, Array.length_toList]
  omega
theorem ins_size {α : Type} (xs : Array α) (p : Nat) (x : α) : (SetTable.insertAt xs p x).size = xs.size + 1 := by
  rw [← Array.length_toList, SetTable.toList_insertAt]
  simp only [List.length_append, List.length_cons, List.length_take, List.length_drop, Array.length_toList]
  omega
theorem nodup_cut {l : List Int} {i : Nat} {k : Int} (nd : l.Nodup) (h : l[i]? = some k) : (l.take i ++ l.drop (i + 1)).Nodup ∧ ∀ j, j ∈ l.take i ++ l.drop (i + 1) ↔ j ∈ l ∧ j ≠ k := by
  obtain ⟨lt, e⟩ := List.getElem?_eq_some_iff.mp h
  have el : l = l.take i ++ k :: l.drop (i + 1) := by
    rw [← e, ← List.drop_eq_getElem_cons lt, List.take_append_drop]
  have pm : l.Perm (k :: (l.take i ++ l.drop (i + 1))) := by
    conv => lhs; rw [el]
    exact List.perm_middle
  have nd2 := pm.nodup_iff.mp nd
  obtain ⟨n1, n2⟩ := List.nodup_cons.mp nd2
  refine ⟨n2, fun j => ⟨fun hj => ⟨pm.mem_iff.mpr (List.mem_cons_of_mem _ hj), fun z => n1 (by rw [← z]; exact hj)⟩, fun ⟨h1, h2⟩ => ?_⟩⟩
  rcases List.mem_cons.mp (pm.mem_iff.mp h1) with z | z
  · exact absurd z h2
  · exact z
/-- one member goes, if it is there -/
theorem discard_at {S : Int → Bool} {M D : Nat} {k : Int} {tk : Tok} {Q : Bool → Shared → Prop} (R : Tab w s.heap a S M D) (hQ : ∀ b h', Heap.SameBut a s.heap h' → Tab w h' a (fun j => S j && !decide (j = k)) M (D + 1) → Q b { s with heap := h' }) :
    wpAny (model P w) A (setDiscardHashed a (.int k tk) (hashInt k)) Q E s := by
  have R0 := R
  obtain ⟨o, es, ep, t, ho, hex, hd, g, nd, hm, hb, hf, hr, hl, hM, hD⟩ := R
  unfold setDiscardHashed
  refine wpAny_bind (place_at ho hd hf g hb (fun hk => ?_) fun i e hi he => ?_)
  · refine wpAny_pure (hQ _ s.heap (Heap.SameBut.refl _ _) ?_)
    refine ⟨o, es, ep, t, ho, hex, hd, g, nd, fun j => ?_, hb, hf, hr, hl, hM, by omega⟩
    rw [Bool.and_eq_true, hm j]
    refine ⟨fun z => z.1, fun z => ⟨z, ?_⟩⟩
    simp only [Bool.not_eq_true', decide_eq_false_iff_not]
    exact fun y => hk (y ▸ z)
  · dsimp only
    refine wpAny_bind (wpAny_setState_of ho hd hf ?_)
    dsimp only
    have lt : i < es.toList.length := (List.getElem?_eq_some_iff.mp hi).1
    rw [Array.length_toList] at lt
    have hf' := hf
    simp only [SetTable.fits, Bool.and_eq_true, beq_iff_eq, decide_eq_true_eq] at hf'
    have hpl : i < t.place.size := by omega
    refine wpAny_bind (wpAny_storeSet_of ho hd (wpAny_bind (wpAny_point (wpAny_pure (hQ _ _ (Heap.SameBut.update s.heap a _) ?_)))) ?_)
    · have hes : (SetTable.eraseAt es i).toList = es.toList.take i ++ es.toList.drop (i + 1) := erase_list es i
      have hsz := erase_size es lt
      have hkk : (es.toList.map keyOf)[i]? = some k := by rw [List.getElem?_map, hi, ← he] <;> rfl
      obtain ⟨n1, n2⟩ := nodup_cut nd hkk
      have hkeys : (SetTable.eraseAt es i).toList.map keyOf = (es.toList.map keyOf).take i ++ (es.toList.map keyOf).drop (i + 1) := by rw [hes, List.map_append, List.map_take, List.map_drop]
      have et : t.drop i = { t with place := SetTable.eraseAt t.place i, dummies := SetTable.insertAt t.dummies (SetTable.below t.dummies t.place[i]) t.place[i] } := by
        unfold SetTable.drop
        rw [Array.getElem?_eq_getElem hpl]
      have hps := erase_size t.place hpl
      have hds : (SetTable.insertAt t.dummies (SetTable.below t.dummies t.place[i]) t.place[i]).size = t.dummies.size + 1 := ins_size _ _ _
      rw [et]
      refine ⟨_, SetTable.eraseAt es i, ep + 1, _, store_at ho hd, hex, rfl, fun e he' => ?_, by rw [hkeys]; exact n1, fun j => ?_, by omega, ?_, ?_, hl, hM, by show (SetTable.insertAt t.dummies _ _).size ≤ _; rw [hds]; omega⟩
      · rw [hes] at he'
        exact g e ((List.mem_append.mp he').elim List.mem_of_mem_take List.mem_of_mem_drop)
      · rw [hkeys, n2, Bool.and_eq_true, hm j]
        simp
      · simp only [SetTable.fits, SetTable.fill, Bool.and_eq_true, beq_iff_eq, decide_eq_true_eq]
        have hfill : t.place.size + t.dummies.size ≤ t.mask := hf'.2
        refine ⟨by omega, ?_⟩
        refine decide_eq_true (show (SetTable.eraseAt t.place i).size + (SetTable.insertAt t.dummies (SetTable.below t.dummies t.place[i]) t.place[i]).size ≤ t.mask from ?_)
        omega
      · show Ris (SetTable.eraseAt t.place i).toList
        rw [erase_list]
        refine List.Pairwise.sublist ?_ hr
        conv => rhs; rw [← List.take_append_drop i t.place.toList]
        refine List.Sublist.append (List.Sublist.refl _) ?_
        rw [show t.place.toList.drop (i + 1) = (t.place.toList.drop i).drop 1 by rw [List.drop_drop]]
        exact List.drop_sublist 1 _
    · have := erase_size es lt
      exact fits_of_scanBound (by omega)
/-- the order of a table laid anew -/
theorem order_perm {order : Array Nat} {xs : Array (Int × Value)} (h : order.toList.Perm (List.range xs.size)) : (order.filterMap (xs[·]?)).toList.Perm xs.toList := by
  rw [Array.toList_filterMap]
  exact (h.filterMap _).trans (by rw [filterMap_getElem?_range])
theorem merge_eq (p l : Addr) (each : Sem Unit) : setMerge p l each = (do
    if p == l then return
    let (eo, epoch, to) ← setState l
    if eo.isEmpty then return
    (do if let some wanted := (← setState p).2.2.roomFor eo.size then setRelay p wanted)
    let (_, _, ts) ← setState p
    match ts.road to with
    | .slotForSlot => storeSet p eo { to with finger := ts.finger, led := ts.led && to.led, moves := ts.moves, plain := ts.plain && to.plain }
    | .clean =>
      let (es, t) ← (do
        let some (t, order) := SetTable.laid ts.mask ts.finger ts.moves (ts.led && to.led) (ts.plain && to.plain) (eo.map (·.1)) | unsupported "internal:set-table-without-room"
        let es' := order.filterMap (eo[·]?)
        if es'.size != eo.size then unsupported "internal:set-table-lost-an-element"
        pure (es', t) : Sem (Array (Int × Value) × SetTable))
      storeSet p es t
    | .oneByOne =>
      for (h, x) in ← setWalkUnseen l [p] (some p) do
        let _ ← holding [x] (setAddHashed p x h)
        each
        if (← setState l).2.1 != epoch then unsupported "set.changed-during-merge") := by rfl
/-- the masks of a table for n members -/
theorem mask_of : ∀ n, n ≤ 31 → 5 ≤ n → ∃ M, SetTable.sizeAbove ((0 + n) * 2) - 1 = M ∧ good M = true ∧ n ≤ M ∧ ¬ SetTable.sizeAbove ((0 + n) * 2) > sizeLine := by
  have key : ∀ n, n < 32 → 5 ≤ n → (SetTable.sizeAbove ((0 + n) * 2) - 1 = 15 ∨ SetTable.sizeAbove ((0 + n) * 2) - 1 = 31 ∨ SetTable.sizeAbove ((0 + n) * 2) - 1 = 63) ∧ n ≤ SetTable.sizeAbove ((0 + n) * 2) - 1 ∧ ¬ SetTable.sizeAbove ((0 + n) * 2) > 16777216 := by decide +kernel
  intro n h1 h2
  obtain ⟨a, b, c⟩ := key n (by omega) h2
  obtain ⟨g7, g15, g31, g63⟩ := good_masks
  refine ⟨_, rfl, ?_, b, by rw [sizeLine_eq]; exact c⟩
  rcases a with e | e | e <;> rw [e] <;> assumption
end
end Kg

set_option Elab.async false
set_option linter.all false
set_option maxRecDepth 100000
set_option maxHeartbeats 4000000
namespace Kg
open PySem PySem.Spec PyProof.Rows L2 Lk
section
variable {P : Program} {w : World} {A : Around} {E : Value → Shared → Prop} {s : Shared} {a : Addr} {o : Obj} {es : Array (Int × Value)} {ep : Nat} {t : SetTable}
/-- an empty set whose table has room for n -/
def Room0 (w : World) (h : Heap) (p : Addr) (n : Nat) : Prop := ∃ o ep t, h.get? p = some o ∧ o.ExactSet ∧ o.data = .set #[] ep t ∧ t.fits 0 = true ∧ t.place = #[] ∧ t.dummies = #[] ∧ (w.params.followText "set-order" = true ∨ t.led = true) ∧ good t.mask = true ∧ n ≤ t.mask
theorem room_at {n : Nat} {p : Addr} {Q : Unit → Shared → Prop} (ho : s.heap.get? p = some o) (hex : o.ExactSet) (hd : o.data = .set #[] ep (.fresh 0 0 (!w.params.followText "set-order"))) (h4 : 4 ≤ n) (h31 : n ≤ 31)
    (hQ : ∀ h', Heap.SameBut p s.heap h' → Room0 w h' p n → Q () { s with heap := h' }) :
    wpAny (model P w) A (do if let some wanted := (← setState p).2.2.roomFor n then setRelay p wanted) Q E s := by
  have led : w.params.followText "set-order" = true ∨ (!w.params.followText "set-order") = true := by cases w.params.followText "set-order" <;> simp
  have fit : (SetTable.fresh 0 0 (!w.params.followText "set-order")).fits (#[] : Array (Int × Value)).size = true := by rfl
  refine wpAny_bind (wpAny_setState_of ho hd fit ?_)
  dsimp only
  by_cases c : (0 + n) * 5 ≥ 7 * 3
  · have e : (SetTable.fresh 0 0 (!w.params.followText "set-order")).roomFor n = some ((0 + n) * 2) := if_pos c
    rw [e]
    dsimp only
    obtain ⟨M, hM, gM, nM, big⟩ := mask_of n h31 (by omega)
    rw [setRelay_eq]
    refine wpAny_bind (wpAny_setState_of ho hd fit ?_)
    dsimp only
    refine wp_if_neg big ?_
    try refine wpAny_bind (wpAny_pure ?_)
    obtain ⟨t', order, e1, e2, e3, e4, e5, e6, e7⟩ := laid_ok (m := M) (fi := (SetTable.fresh 0 0 (!w.params.followText "set-order")).finger) (mv := (SetTable.fresh 0 0 (!w.params.followText "set-order")).movedTo M) (led := (SetTable.fresh 0 0 (!w.params.followText "set-order")).led) (pl := (SetTable.fresh 0 0 (!w.params.followText "set-order")).plain) gM (hs := #[]) (Nat.zero_le _)
    have e0 : (SetTable.fresh 0 0 (!w.params.followText "set-order")).relaid ((#[] : Array (Int × Value)).map (·.1)) ((0 + n) * 2) = some (t', order) := by
      unfold SetTable.relaid
      rw [hM, show ((#[] : Array (Int × Value)).map (·.1)) = #[] from by simp]
      exact e1
    rw [e0]
    dsimp only
    have eo : order = #[] := by
      have z := e2.length_eq
      rw [Array.length_toList] at z
      exact Array.eq_empty_of_size_eq_zero (by simpa using z)
    subst eo
    refine wpAny_bind (wp_if_neg (by simp) (wpAny_pure ?_))
    have ex : Array.filterMap (fun (x : Nat) => (#[] : Array (Int × Value))[x]?) (#[] : Array Nat) = #[] := by simp
    refine wpAny_storeSet_of ho hd (hQ _ (Heap.SameBut.update s.heap p _) ?_) (by rw [ex]; exact Nat.zero_le _)
    have pl : t'.place = #[] := Array.eq_empty_of_size_eq_zero (by rw [e4] <;> rfl)
    rw [ex]
    refine ⟨_, _, t', store_at ho hd, hex, rfl, ?_, pl, e5, ?_, by rw [e6]; exact gM, by rw [e6]; exact nM⟩
    · simp only [SetTable.fits, SetTable.fill, pl, e5]
      simp
    · rcases led with z | z
      · exact .inl z
      · exact .inr (e7.trans z)
  · have e : (SetTable.fresh 0 0 (!w.params.followText "set-order")).roomFor n = none := if_neg c
    rw [e]
    dsimp only
    refine wpAny_pure (hQ s.heap (Heap.SameBut.refl _ _) ⟨o, ep, _, ho, hex, hd, rfl, rfl, rfl, led, good_masks.1, by show n ≤ 7; omega⟩)
/-- a copy of a set of 4 to 31 ints -/
theorem merge_at {l p : Addr} {S : Int → Bool} {n : Nat} {op : Obj} {epp : Nat} {Q : Unit → Shared → Prop} (ne : p ≠ l) (R : SetR w s.heap l S n) (ho : s.heap.get? p = some op) (hex : op.ExactSet) (hd : op.data = .set #[] epp (.fresh 0 0 (!w.params.followText "set-order"))) (h4 : 4 ≤ n) (h31 : n ≤ 31)
    (hQ : ∀ h' M, Heap.SameBut p s.heap h' → Tab w h' p S M 0 → n ≤ M → Q () { s with heap := h' }) : wpAny (model P w) A (setMerge p l) Q E s := by
  have R0 := R
  obtain ⟨o, es, ep, t, hol, hexl, hdl, g, nd, hm, hb, hf, hn, hr, hl⟩ := R
  rw [merge_eq]
  refine wp_if_neg (by simp [ne]) ?_
  try refine wpAny_bind (wpAny_pure ?_)
  refine wpAny_bind (wpAny_setState_of hol hdl hf ?_)
  dsimp only
  have hne : es.isEmpty = false := by
    rw [Array.isEmpty_eq_false_iff]
    intro z
    rw [z] at hn
    have : 0 = n := hn
    omega
  refine wp_if_neg (by rw [hne]; exact Bool.false_ne_true) ?_
  try refine wpAny_bind (wpAny_pure ?_)
  rw [hn]
  refine wpAny_bind (room_at ho hex hd h4 h31 fun h1 sb1 rm => ?_)
  obtain ⟨o1, ep1, t1, q1, q2, q3, q4, q5, q6, q7, q8, q9⟩ := rm
  have hol1 : h1.get? l = some o := (sb1.2 l (Ne.symm ne)).trans hol
  refine wpAny_bind (wpAny_setState_of (s := { s with heap := h1 }) q1 q3 q4 ?_)
  dsimp only
  have fill0 : (t1.fill != 0) = false := by unfold SetTable.fill; rw [q5, q6] <;> rfl
  have led : ∀ b : Bool, b = (t1.led && t.led) → w.params.followText "set-order" = true ∨ b = true := fun b eb => by
    rcases q7 with z | z
    · exact .inl z
    · rcases hl with y | y
      · exact .inl y
      · exact .inr (by rw [eb, z, y] <;> rfl)
  by_cases c : (t1.mask == t.mask && t.dummies.isEmpty) = true
  · have er : t1.road t = .slotForSlot := by unfold SetTable.road; rw [if_neg (by rw [fill0]; exact Bool.false_ne_true), if_pos c]
    rw [er]
    dsimp only
    simp only [Bool.and_eq_true, beq_iff_eq, Array.isEmpty_iff] at c
    refine wpAny_storeSet_of (s := { s with heap := h1 }) q1 q3 (hQ _ t.mask (sb1.trans (Heap.SameBut.update h1 p _)) ?_ (by rw [← c.1]; exact q9)) (fits_of_scanBound hb)
    exact ⟨_, es, _, _, store_at q1 q3, q2, rfl, g, nd, hm, hb, hf, hr, led _ rfl, rfl, by show t.dummies.size ≤ 0; rw [c.2]; exact Nat.le_refl _⟩
  · have er : t1.road t = .clean := by unfold SetTable.road; rw [if_neg (by rw [fill0]; exact Bool.false_ne_true), if_neg c]
    rw [er]
    dsimp only
    obtain ⟨t', order, e1, e2, e3, e4, e5, e6, e7⟩ := laid_ok (m := t1.mask) (fi := t1.finger) (mv := t1.moves) (led := t1.led && t.led) (pl := t1.plain && t.plain) q8 (hs := es.map (·.1)) (by rw [Array.size_map, hn]; exact q9)
    rw [e1]
    dsimp only
    rw [Array.size_map] at e2 e4
    have pm := order_perm (xs := es) e2
    have hsz : (order.filterMap (es[·]?)).size = es.size := by rw [← Array.length_toList, pm.length_eq, Array.length_toList]
    refine wpAny_bind (wp_if_neg (by rw [hsz, hn]; simp) (wpAny_pure ?_))
    refine wpAny_storeSet_of (s := { s with heap := h1 }) q1 q3 (hQ _ t1.mask (sb1.trans (Heap.SameBut.update h1 p _)) ?_ q9) (fits_of_scanBound (by rw [hsz]; exact hb))
    refine ⟨_, _, _, t', store_at q1 q3, q2, rfl, fun e he => g e (pm.mem_iff.mp he), (pm.map keyOf).nodup_iff.mpr nd, fun k => (hm k).trans (pm.map keyOf).mem_iff.symm, by rw [hsz]; exact hb, ?_, e3, led _ e7, e6, by rw [e5]; exact Nat.le_refl _⟩
    simp only [SetTable.fits, SetTable.fill, Bool.and_eq_true, beq_iff_eq]
    refine ⟨by rw [e4, hsz], decide_eq_true ?_⟩
    rw [e4, e5, e6, hn]
    exact q9
end
end Kg

set_option Elab.async false
set_option linter.all false
set_option maxRecDepth 100000
set_option maxHeartbeats 4000000
namespace Kg
open PySem PySem.Spec PyProof.Rows L2 Lk
section
variable {P : Program} {w : World} {A : Around} {E : Value → Shared → Prop} {s : Shared}
theorem upd_at {p r : Addr} {S T : Int → Bool} {n m M : Nat} {idn : String} {Q : Unit → Shared → Prop} (T1 : Tab w s.heap p S M 0) (R1 : SetR w s.heap p S n) (R2 : SetR w s.heap r T m) (ne : p ≠ r) (few : m ≤ M / 4) (low : ¬ m / 8 > n)
    (hQ : ∀ s' : Shared, Heap.SameBut p s.heap s'.heap → s'.gens = s.gens → s'.os = s.os → (∃ c, SetR w s'.heap p (fun k => S k && !T k) c) → Q () s') : wpAny (model P w) A (Builtin.Frozenset.differenceUpdate idn p (.ref r)) Q E s := by
  have R2c := R2
  obtain ⟨o, es, ep, t, ho, hex, hd, g, nd, hm, hb, hf, hn, hr, hl⟩ := R2c
  unfold Builtin.Frozenset.differenceUpdate
  refine wp_if_neg (by show ¬ ((Value.ref r == Value.ref p) = true); intro z; have := eq_of_beq z; exact ne (by cases this; rfl)) ?_
  try refine wpAny_bind (wpAny_pure ?_)
  refine wpAny_bind (anySet_at R2 ?_)
  refine wp_if_pos rfl ?_
  unfold Builtin.Frozenset.addrOf
  refine wpAny_bind (wpAny_pure (wpAny_bind (size_at R2 ?_)))
  refine wpAny_bind (size_at R1 ?_)
  refine wp_if_neg low ?_
  try refine wpAny_bind (wpAny_pure ?_)
  refine wpAny_bind (epoch_at ho hd hf ?_)
  refine wpAny_bind (wpAny_holding (wpAny_bind (unseen_at ho hd hf hl ?_ (fun f z => nomatch z) ?_)))
  · intro b hb
    simp only [List.mem_cons, List.not_mem_nil, or_false] at hb
    rcases hb with rfl | rfl
    · exact ⟨_, _, R2⟩
    · exact ⟨_, _, R1⟩
  rintro xs s2 px ⟨h2, d2, rfl, rfl⟩
  have R2k : ∀ h', Heap.SameBut p s.heap h' → h'.get? r = some o := fun h' sb => (sb.2 r (Ne.symm ne)).trans ho
  refine wpAny_bind (MeetsSeq2.wpAny_forIn_array _ (fun rest _ s' => ∃ done, xs.toList = done ++ rest ∧ Heap.SameBut p s.heap s'.heap ∧ s'.gens = s.gens ∧ s'.os = s.os ∧ Tab w s'.heap p (fun k => S k && !decide (k ∈ done.map keyOf)) M done.length) _ ?_ ?_ xs _ ⟨[], rfl, Heap.SameBut.refl _ _, rfl, rfl, T1.congr fun k => by simp⟩)
  · rintro ⟨hh, v⟩ rest b s3 ⟨done, ed, q1, q2, q3, q4⟩
    have hmem : (hh, v) ∈ es.toList := px.mem_iff.mp (by rw [ed]; exact List.mem_append_right _ List.mem_cons_self)
    obtain ⟨k, tk, e1, e2⟩ := g _ hmem
    cases (show v = Value.int k tk from e1)
    cases (show hh = hashInt k from e2)
    refine wpAny_bind (wpAny_holding (discard_at q4 fun bb h4 sb4 new => ?_))
    unfold Builtin.Frozenset.unchanged
    refine wpAny_bind (wpAny_bind (epoch_at (s := { s3 with heap := h4 }) (R2k h4 (q1.trans sb4)) hd hf ?_))
    refine wp_if_neg (by simp) (wpAny_pure (wpAny_pure ?_))
    refine ⟨done ++ [(hashInt k, Value.int k tk)], by rw [ed, List.append_assoc] <;> rfl, q1.trans sb4, q2, q3, ?_⟩
    rw [List.length_append]
    refine new.congr fun j => ?_
    rw [List.map_append, Bool.eq_iff_iff]
    simp [show keyOf (hashInt k, Value.int k tk) = k from rfl, and_assoc]
  · rintro b s3 ⟨done, ed, q1, q2, q3, q4⟩
    rw [List.append_nil] at ed
    have q5 := q4
    obtain ⟨o5, es5, ep5, t5, z1, z2, z3, z4, z5, z6, z7, z8, z9, z10, z11, z12⟩ := q4
    have dn : done.length = m := by rw [← ed, px.length_eq, Array.length_toList, hn]
    refine wpAny_pure ?_
    unfold setTidy
    refine wpAny_bind (wpAny_setState_of z1 z3 z8 ?_)
    dsimp only
    refine wp_if_neg ?_ (wpAny_pure (hQ s3 q1 q2 q3 ?_))
    · unfold SetTable.tooManyDummies
      rw [decide_eq_true_eq, z11]
      omega
    · obtain ⟨c, hc⟩ := q5.setR
      refine ⟨c, hc.congr fun k => ?_⟩
      have z : T k = decide (k ∈ done.map keyOf) := by
        rw [Bool.eq_iff_iff, hm k, decide_eq_true_eq, ← ed]
        exact (px.map keyOf).mem_iff.symm
      rw [z]
theorem few_nodup {a b : Addr} {h h' : Heap} {S : Int → Bool} {n m : Nat} (R : SetR w h a S n) (R' : SetR w h' b S m) : n = m := by
  obtain ⟨o, es, ep, t, ho, hex, hd, g, nd, hm, hb, hf, hn, hr, hl⟩ := R
  obtain ⟨o', es', ep', t', ho', hex', hd', g', nd', hm', hb', hf', hn', hr', hl'⟩ := R'
  have x := firstNodup (es.toList.map keyOf) (es'.toList.map keyOf) nd fun k hk => (hm' k).mp ((hm k).mpr hk)
  have y := firstNodup (es'.toList.map keyOf) (es.toList.map keyOf) nd' fun k hk => (hm k).mp ((hm' k).mpr hk)
  rw [List.length_map, List.length_map, Array.length_toList, Array.length_toList] at x y
  omega
theorem diff_many {l r : Addr} {S T : Int → Bool} {n m : Nat} {idn : String} {Q : Value → Shared → Prop} (R1 : SetR w s.heap l S n) (R2 : SetR w s.heap r T m) (hn31 : n ≤ 31) (hbig : n / 4 > m)
    (hQ : ∀ (s' : Shared) (c : Nat), (∀ b ob, s.heap.get? b = some ob → s'.heap.get? b = some ob) → s'.gens = s.gens → s'.os = s.os → SetR w s'.heap s.heap.objs.size (fun k => S k && !T k) c → Q (.ref s.heap.objs.size) s') :
    wpAny (model P w) A (Builtin.Frozenset.difference idn l (.ref r)) Q E s := by
  unfold Builtin.Frozenset.difference
  refine wpAny_bind (anySet_at R2 ?_)
  refine wp_if_neg (by simp) ?_
  try refine wpAny_bind (wpAny_pure ?_)
  unfold Builtin.Frozenset.addrOf
  refine wpAny_bind (size_at R2 ?_)
  refine wpAny_bind (size_at R1 ?_)
  refine wp_if_pos hbig ?_
  refine wpAny_bind (wpAny_rule ?_)
  unfold Builtin.Frozenset.copyOf
  refine wpAny_bind (wpAny_bind (base_at R1 (wpAny_bind (PpSet.newSet_ok ?_))))
  have l1 := R1.lt
  have l2 := R2.lt
  have k0 : ∀ b x, s.heap.get? b = some x → (s.heap.push { cls := .type "set", dict := none, data := .set #[] 0 (.fresh 0 0 (!w.params.followText "set-order")) }).get? b = some x := fun b x z => Heap.get?_push_of_some _ z
  have R1' := R1.at fun x z => k0 _ x z
  have R2' := R2.at fun x z => k0 _ x z
  have new := Heap.get?_push_size s.heap (o := { cls := .type "set", dict := none, data := .set #[] 0 (.fresh 0 0 (!w.params.followText "set-order")) }) rfl
  have ne1 : s.heap.objs.size ≠ l := Ne.symm (Nat.ne_of_lt l1)
  have ne2 : s.heap.objs.size ≠ r := Ne.symm (Nat.ne_of_lt l2)
  unfold Builtin.Frozenset.addrOf
  try refine wpAny_bind (wpAny_pure ?_)
  refine wpAny_bind (merge_at (s := { s with heap := s.heap.push { cls := .type "set", dict := none, data := .set #[] 0 (.fresh 0 0 (!w.params.followText "set-order")) } }) ne1 R1' new ⟨rfl, rfl, rfl⟩ rfl (by omega) hn31 fun h2 M sb tab nM => ?_)
  refine wpAny_pure ?_
  have kp : ∀ b x, s.heap.get? b = some x → h2.get? b = some x := fun b x z => (sb.2 b (Nat.ne_of_lt (Heap.lt_size z))).trans (k0 b x z)
  have hn : SetR w h2 s.heap.objs.size S n := by
    obtain ⟨c, hc⟩ := tab.setR
    have z1 := few_nodup hc R1
    rw [← z1]
    exact hc
  try refine wpAny_bind (wpAny_pure ?_)
  refine wpAny_bind (wpAny_holding (wpAny_bind (wpAny_pure (upd_at (s := { s with heap := h2 }) tab hn (R2.at fun x z => kp _ x z) ne2 (by omega) (by omega) fun s3 sb3 g3 o3 ⟨c, hc⟩ => wpAny_pure (hQ s3 c (fun b x z => (sb3.2 b (Nat.ne_of_lt (Heap.lt_size z))).trans (kp b x z)) g3 o3 hc)))))
/-- l - r -/
theorem diff_at {l r : Addr} {S T : Int → Bool} {n m : Nat} {idn : String} {Q : Value → Shared → Prop} (R1 : SetR w s.heap l S n) (R2 : SetR w s.heap r T m) (hn31 : n ≤ 31)
    (hQ : ∀ (s' : Shared) (c : Nat), (∀ b ob, s.heap.get? b = some ob → s'.heap.get? b = some ob) → s'.gens = s.gens → s'.os = s.os → SetR w s'.heap s.heap.objs.size (fun k => S k && !T k) c → Q (.ref s.heap.objs.size) s') :
    wpAny (model P w) A (Builtin.Frozenset.difference idn l (.ref r)) Q E s := by
  by_cases h : n / 4 > m
  · exact diff_many R1 R2 hn31 h hQ
  · exact diff_few R1 R2 hn31 h hQ
end
end Kg

set_option Elab.async false
set_option linter.all false
set_option maxRecDepth 100000
set_option maxHeartbeats 1000000
namespace Kg
open PySem PySem.Spec PyProof.Rows L2 Lk
/-! ### the operator, and len -/
theorem entry_set_sub : entryFor table "set.__sub__" = some Builtin.«frozenset.__sub__» :=
  entryFor_alias (id' := "frozenset.__sub__") (by kernel_rfl) (by first | rfl | decide +kernel | (unfold String.splitOn; simp +decide [String.splitOnAux])) (by decide +kernel) (by kernel_rfl)
section
variable {X : Cx}
def rSub (w : World) : V → V → Hp → VK → Prop := fun x y H Q => ∃ (a b : Addr) (S T : Int → Bool) (n m : Nat), x = .ref a ∧ y = .ref b ∧ H a = some (SetO w a S n) ∧ H b = some (SetO w b T m) ∧ n ≤ 31 ∧
  ∀ p c, H p = none → Q (.ref p) (upd H p (SetO w p (fun k => S k && !T k) c))
theorem op_sub_set : OpR X (binaryOp .Sub) (rSub X.w) := by
  intro pins s σ H x y v u Q I rx ry h
  obtain ⟨a, b, S, T, n, m, rfl, rfl, ha, hb, hn, q⟩ := h
  cases (show v = Value.ref a from rx)
  cases (show u = Value.ref b from ry)
  have R1 := setO_get I ha
  have R2 := setO_get I hb
  refine wpAny_binaryOp_same (T := "set") (SetR.is_set R1) (SetR.is_set R2) F.fills_set_sub F.slot_set_sub ?_
  refine wpAny_call_entry F.slot_set_sub (SetR.is_set R1) entry_set_sub ?_ (F.args_set_sub_2 _ _)
  show wpAny _ _ (Builtin.Frozenset.slot1 "__sub__" ⟨[.ref a, .ref b], []⟩ >>= _) _ _ _
  refine wpAny_bind (wpAny_of_eq (a := (Value.ref a, Value.ref b)) rfl ?_)
  dsimp only
  refine wpAny_bind (wpAny_bind (anySet_at R1 ?_))
  try refine wpAny_bind (wpAny_pure ?_)
  show wpAny _ _ (Builtin.Frozenset.isAnySet (.ref b)) _ _ _
  refine anySet_at R2 ?_
  refine wp_if_neg (by simp) ?_
  try refine wpAny_bind (wpAny_pure ?_)
  show wpAny _ _ (Builtin.Frozenset.difference _ a (.ref b) >>= fun v => ret v) _ _ _
  refine wpAny_bind (diff_at R1 R2 hn fun s' c kk hg ho new => ?_)
  have I1 : Inv X pins σ (upd H s.heap.objs.size (SetO X.w s.heap.objs.size (fun k => S k && !T k) c)) { s with heap := s'.heap, toks := s'.toks } := I.laid (t' := s'.toks) kk (Nat.le_refl _) (setO_new new)
  have I2 : Inv X pins σ (upd H s.heap.objs.size (SetO X.w s.heap.objs.size (fun k => S k && !T k) c)) s' := I1.call' (ch := []) ho (Un.kept fun b ob e => e) (I1.hok.kept fun b ob e => e) (by rw [hg]; exact I.bare) (fun _ z => nomatch z)
  refine wpAny_pure ⟨.ref s.heap.objs.size, rfl, ?_, ?_⟩
  · intro z; exact Value.noConfusion z
  · exact ⟨.ref s.heap.objs.size, _, I2, rfl, q _ c (I.hok.fresh (Nat.le_refl _))⟩
end
end Kg

set_option Elab.async false
set_option linter.all false
set_option maxRecDepth 100000
set_option maxHeartbeats 1000000
namespace Kg
open PySem PySem.Spec PyProof.Rows L2 Lk
section
variable {X : Cx}
/-- len(a set of ints) -/
def rLenS (w : World) : List V → Hp → VK → Prop := fun xs H Q => ∃ (a : Addr) (S : Int → Bool) (n : Nat), xs = [.ref a] ∧ H a = some (SetO w a S n) ∧ ((n = 0 ↔ ∀ k, S k = false) → Q (.int n) H)
theorem zero_iff {w : World} {h : Heap} {a : Addr} {S : Int → Bool} {n : Nat} (R : SetR w h a S n) : n = 0 ↔ ∀ k, S k = false := by
  obtain ⟨o, es, ep, t, ho, hex, hd, g, nd, hm, hb, hf, hn, hr, hl⟩ := R
  refine ⟨fun e k => ?_, fun h => ?_⟩
  · cases z : S k with
    | false => rfl
    | true =>
      have y := (hm k).mp z
      have : es.toList = [] := List.length_eq_zero_iff.mp (by rw [Array.length_toList]; omega)
      rw [this] at y
      cases y
  · rcases Nat.eq_zero_or_pos n with z | z
    · exact z
    · have lt : 0 < es.toList.length := by rw [Array.length_toList]; omega
      have y := (hm (keyOf es.toList[0])).mpr (List.mem_map.mpr ⟨_, List.getElem_mem lt, rfl⟩)
      rw [h] at y
      cases y
theorem call_lenS : CallR X (.builtin "len") (rLenS X.w) := by
  intro pins s σ H xs us Q I r h
  obtain ⟨a, S, n, rfl, ha, q⟩ := h
  rw [Vals.ref1 r]
  have R := setO_get I ha
  have z := zero_iff R
  obtain ⟨o, es, ep, t, ho, hex, hd, g, nd, hm, hb, hf, hn, hr, hl⟩ := R
  have hn63 := line63
  have hb' : es.size < 4096 := hb
  refine call_len_set ho hex hd hf (by omega) ⟨.int n, H, I.tok _, ⟨_, by rw [hn]⟩, q z⟩
end
end Kg

set_option Elab.async false
set_option linter.all false
set_option maxRecDepth 100000
set_option maxHeartbeats 4000000
/-! dicts of ints; a walk over a dict's keys in a comprehension of two clauses; t.count; xs.remove -/
namespace Kx
open PySem PySem.Spec PyProof.Rows L2 Lk Kd Km
def dnV (d : Dn) : List (L2.Key × V) := d.map fun p => (Sum.inl p.1, V.int (p.2 : Int))
theorem valV_dn (d : Dn) (x : Int) : valV (dnV d) (Sum.inl x) = if x ∈ keysN d then some (.int (getN d x : Int)) else none := by
  induction d with
  | nil => rfl
  | cons p r ih =>
    show valV ((Sum.inl p.1, V.int (p.2 : Int)) :: dnV r) (Sum.inl x) = _
    by_cases e : p.1 = x
    · rw [valV_pos (by rw [e])]
      rw [if_pos (by show x ∈ p.1 :: keysN r; rw [e]; exact List.mem_cons_self)]
      show _ = some (V.int ((if p.1 = x then p.2 else getN r x : Nat) : Int))
      rw [if_pos e]
    · rw [valV_neg (fun z => e (Sum.inl.inj z)), ih]
      show _ = if x ∈ p.1 :: keysN r then some (V.int ((if p.1 = x then p.2 else getN r x : Nat) : Int)) else none
      rw [if_neg e]
      by_cases m : x ∈ keysN r
      · rw [if_pos m, if_pos (List.mem_cons_of_mem _ m)]
      · rw [if_neg m, if_neg (fun z => (List.mem_cons.mp z).elim (fun q => e q.symm) m)]
theorem get_dn (d : Dn) (x : Int) : (valV (dnV d) (Sum.inl x)).getD (.int 0) = .int (getN d x : Int) := by
  rw [valV_dn]
  by_cases m : x ∈ keysN d
  · rw [if_pos m] <;> rfl
  · rw [if_neg m, getN_not m] <;> rfl
theorem put_dn (d : Dn) (x : Int) (n : Nat) (nd : (keysN d).Nodup) : putK (dnV d) (Sum.inl x) (.int (n : Int)) = dnV (putN d x n) := by
  induction d with
  | nil => rfl
  | cons p r ih =>
    have nd' := List.nodup_cons.mp (show (p.1 :: keysN r).Nodup from nd)
    have ih := ih nd'.2
    show putK ((Sum.inl p.1, V.int (p.2 : Int)) :: dnV r) (Sum.inl x) (.int (n : Int)) = dnV (if p.1 = x then (x, n) :: r else p :: putN r x n)
    by_cases e : p.1 = x
    · rw [if_pos e]
      unfold putK
      rw [if_pos (by rw [List.any_cons, decide_eq_true (by rw [e]), Bool.true_or]), List.map_cons, if_pos (by rw [e])]
      show _ = (Sum.inl x, V.int (n : Int)) :: dnV r
      rw [e]
      congr 1
      unfold dnV
      rw [List.map_map]
      refine List.map_congr_left fun q hq => ?_
      have : q.1 ≠ x := fun z => nd'.1 (by rw [e, ← z]; exact List.mem_map.mpr ⟨q, hq, rfl⟩)
      show (if (Sum.inl q.1 : L2.Key) = Sum.inl x then _ else _) = _
      rw [if_neg (fun z => this (Sum.inl.inj z))]
    · rw [if_neg e]
      show _ = (Sum.inl p.1, V.int (p.2 : Int)) :: dnV (putN r x n)
      rw [← ih]
      unfold putK
      rw [List.any_cons, decide_eq_false (fun z => e (Sum.inl.inj z)), Bool.false_or]
      split
      · rw [List.map_cons, if_neg (fun z => e (Sum.inl.inj z))]
      · rfl
theorem dn_len (d : Dn) : (dnV d).length = d.length := by simp [dnV]
theorem valV_at {d : Dn} {i : Nat} {x : Int} {n : Nat} (nd : (keysN d).Nodup) (h : d[i]? = some (x, n)) : some (V.int (n : Int)) = valV (dnV d) (Sum.inl x) := by
  obtain ⟨h1, h2⟩ := get_at nd h
  rw [valV_dn, if_pos h1, h2]
theorem dn_get {d : Dn} {i : Nat} {k : L2.Key} {v : V} (h : (dnV d)[i]? = some (k, v)) : ∃ x n, d[i]? = some (x, n) ∧ k = Sum.inl x ∧ v = .int ((n : Nat) : Int) := by
  unfold dnV at h
  rw [List.getElem?_map] at h
  cases e : d[i]? with
  | none => rw [e] at h; cases h
  | some p =>
    rw [e] at h
    have z := Option.some.inj h
    exact ⟨p.1, p.2, rfl, (Prod.ext_iff.mp z).1.symm, (Prod.ext_iff.mp z).2.symm⟩
/-! ### comprehensions: over a locked dict; an inner range -/
theorem lc2_keys {d : Addr} {od : Obj} {kvs : List (L2.Key × V)} {g g1 : TG} {tt tt1 : TT} {wi1 : TI} {te : TE} {vs vs1 : List Nat} {σ : L2.St} {H1 : Hp} {D : Addr} {Qd : Hp → Prop} (Pv : Nat → Hp → Prop) (h0 : Pv 0 (upd H1 D (.lst []))) (hl : ∀ i H, i ≤ kvs.length → Pv i H → H d = some (.frz od (.dK kvs))) (hd : ∀ H, Pv kvs.length H → Qd H)
    (hs : ∀ i k v H, kvs[i]? = some (k, v) → Pv i H → g (kV k) (wipe σ vs) H fun σ2 H2 => wipe σ2 vs = wipe σ vs ∧ tt σ2 H2 fun b H3 => if b = true then wi1 σ2 H3 fun J1 H4 => Kc.In2 g1 tt1 te vs1 D (Pv (i + 1)) σ2 J1 H4 else Pv (i + 1) H3) :
    ∃ W : Nat → Nat → Hp → Prop, (∃ m, W 0 m (upd H1 D (.lst []))) ∧ ∀ i m H, W i m H → ((Itk d od kvs).stop i H ∧ Qd H) ∨ ((Itk d od kvs).go i H ∧ ∃ Nx : Hp → Prop, (∀ H', Nx H' → ∃ m', m' < m ∧ W (i + 1) m' H') ∧
      ∀ x H', (Itk d od kvs).yld i H x H' → g x (wipe σ vs) H' fun σ2 H2 => wipe σ2 vs = wipe σ vs ∧ tt σ2 H2 fun b H3 => if b = true then wi1 σ2 H3 fun J1 H4 => Kc.In2 g1 tt1 te vs1 D Nx σ2 J1 H4 else Nx H3) := by
  refine ⟨fun i m H => m = kvs.length - i ∧ i ≤ kvs.length ∧ Pv i H, ⟨kvs.length, rfl, Nat.zero_le _, h0⟩, fun i m H ⟨em, hi, p⟩ => ?_⟩
  subst em
  have q := hl i H hi p
  rcases Nat.lt_or_ge i kvs.length with lt | ge
  · refine .inr ⟨⟨q, lt⟩, Pv (i + 1), fun H' p' => ⟨kvs.length - (i + 1), by omega, rfl, lt, p'⟩, ?_⟩
    rintro x H' ⟨rfl, k, v, hk, rfl⟩
    exact hs i k v _ hk p
  · have ei : i = kvs.length := by omega
    subst ei
    exact .inl ⟨⟨q, Nat.le_refl _⟩, hd H p⟩
theorem in2_range {n : Nat} {lo : Int} {g1 : TG} {tt1 : TT} {te : TE} {vs1 : List Nat} {σ2 : L2.St} {H4 : Hp} {D : Addr} {Nx : Hp → Prop} (Pv : Nat → Hp → Prop) (h0 : Pv 0 H4) (hd : ∀ H, Pv n H → Nx H)
    (hs : ∀ i H, i < n → Pv i H → g1 (.int (lo + (i : Int))) (wipe σ2 vs1) H fun σ3 H5 => wipe σ3 vs1 = wipe σ2 vs1 ∧ tt1 σ3 H5 fun b H6 => if b = true then te σ3 H6 fun y H7 => ∃ acc, H7 D = some (.lst acc) ∧ acc.length < sizeLine ∧ Pv (i + 1) (upd H7 D (.lst (acc ++ [y]))) else Pv (i + 1) H6) :
    Kc.In2 g1 tt1 te vs1 D Nx σ2 (Itr lo n) H4 := by
  refine ⟨fun i m H => m = n - i ∧ i ≤ n ∧ Pv i H, ⟨n, rfl, Nat.zero_le _, h0⟩, fun i m H ⟨em, hi, p⟩ => ?_⟩
  subst em
  rcases Nat.lt_or_ge i n with lt | ge
  · refine .inr ⟨lt, Pv (i + 1), fun H' p' => ⟨n - (i + 1), by omega, rfl, lt, p'⟩, ?_⟩
    rintro x H' ⟨rfl, rfl⟩
    exact hs i _ lt p
  · have ei : i = n := by omega
    subst ei
    exact .inl ⟨Nat.le_refl _, hd H p⟩
/-! ### t.count(x) of a tuple of ints -/
def rCntT (K : PySem.W.Frag) : V → List V → Hp → VK → Prop := fun x xs H Q => ∃ (p : Addr) (ns : List Int) (k : Int), x = .ref p ∧ xs = [.int k] ∧ SqT K H p (ns.map V.int) ∧ Q (.int (ns.count k : Nat)) H
theorem mt_tcount {X : Cx} : MtR X "tuple.count" (rCntT X.K) := by
  intro pins s σ H x xs v us Q I rx rxs h
  obtain ⟨p, ns, k, rfl, rfl, hs, q⟩ := h
  cases rx
  obtain ⟨u, rfl, ru⟩ := rxs.one
  obtain ⟨t, rfl⟩ := ru
  obtain ⟨its, rv, ⟨⟨cls, dd, data, sl⟩, ho, hc, n, hd⟩, hlen⟩ := I.tuple hs
  simp only at hc hd
  subst hc hd
  have hi := ints_of_vals rv
  refine call_meets PySem.F.slot_tuple_count ⟨_, ho, rfl⟩ PySem.F.entry_tuple_count (PySem.F.args_tuple_count_2 _ _)
    (SeqAt.tuple_countAt p its.toArray n dd sl (.int k t) (eqk k)) ⟨ho, fun y hy => (eqk_gives hi y (by simpa using hy)).at _ _, ?_⟩
  have ec : its.toArray.toList.countP (eqk k) = ns.count k := eqk_count hi
  refine ⟨.int (ns.count k : Nat), H, I.tok _, ⟨s.toks, ?_⟩, q⟩
  show Value.int ((its.toArray.toList.countP (eqk k) : Nat) : Int) s.toks = Value.int ((ns.count k : Nat) : Int) s.toks
  rw [ec]
end Kx

set_option Elab.async false
set_option linter.all false
set_option maxRecDepth 100000
set_option maxHeartbeats 4000000
/-! y = {k: v for ..} -/
namespace Kz
open PySem PySem.Spec PyProof.Rows L2 Lk Kd Kx
section
variable {X : Cx}
theorem ps_setDc {i : Nat} {y : Str} {py : Pos} {kx vx tg iter : Expr} {ifs : List Expr} {scope : Scope} {own : List (Str × Nat)} {pos spos : Pos} {wi : TI} {g : TG} {tt : TT} {tk tv : TE} (hc : X.calm = true) (hN : X.N.Nodup) (hy : X.N[i]? = some y) (hyl : X.env.scope.names.lookup y = some .local)
    (hsw : swapsWith (.DictComp kx vx [⟨tg, iter, ifs, 0⟩] scope pos) (some (.Name y py)) spos.line X.env = pure true) (hi : PI X tg iter wi) (ok : BlkOk X.N X.env.scope scope own)
    (hg : ∀ (s : Shared) (H : Hp) (C : Addr) (cl : List (Str × Addr)) (fp : List Addr), PG (X.blk s H scope (compEnvC scope cl C X.env) fp) tg g) (ht : ∀ (s : Shared) (H : Hp) (C : Addr) (cl : List (Str × Addr)) (fp : List Addr), PTs (X.blk s H scope (compEnvC scope cl C X.env) fp) ifs tt)
    (hk : ∀ (s : Shared) (H : Hp) (C : Addr) (cl : List (Str × Addr)) (fp : List Addr), PE (X.blk s H scope (compEnvC scope cl C X.env) fp) kx tk)
    (he : ∀ (s : Shared) (H : Hp) (C : Addr) (cl : List (Str × Addr)) (fp : List Addr), PE (X.blk s H scope (compEnvC scope cl C X.env) fp) vx tv) (hs : ∀ x, foldedSetIterable iter X.env x = pure x := by intro _; rfl) :
    PS X (.Assign [.Name y py] (.DictComp kx vx [⟨tg, iter, ifs, 0⟩] scope pos) spos) (tAsg (tDc wi g tt tk tv (own.map (·.2))) (gName i)) := by
  refine ⟨fun pins s σ H D I h => ?_⟩
  rw [exec_Assign_Name_used _ _ _ _ hsw]
  refine wpAny_bind (wpAny_standAt (wpAny_bind ?_))
  show wpAny _ X.A (do let _ ← comprehension (.DictComp kx vx [⟨tg, iter, ifs, 0⟩] scope pos) scope X.env (firstIterPos [⟨tg, iter, ifs, 0⟩] pos) newDict false (eval iter X.env) (some (assign (.Name y py) X.env))) _ _ s
  have h : tDc wi g tt tk tv (own.map (·.2)) σ H (fun x H1 => gName i x σ H1 D.nx) := h
  refine wpAny_bind (thn (dc_core (Qf := fun _ s' => SP X pins D .next s') hc hN I hi ok hg ht hk he hs h fun L C s' m H' I' q hn f => ?_) fun _ s' hq => wpAny_pure (wpAny_pure hq))
  show wpAny _ _ (assign (.Name y py) X.env (.ref L)) _ _ _
  refine wpAny_assign_Name (store_ok2 (v := V.ref L) I' hN hy (.inl hyl) rfl (fun s2 I2 ⟨a, sb, ha⟩ => ?_) (.inr hyl))
  obtain ⟨f0, f1, f2, f3, f4, f5⟩ := f
  have haC : C ≠ a := by
    rcases ha with z | z
    · rw [z]; exact f1
    · exact fun e => f4 y a z e.symm
  refine ⟨m, hn.sameBut sb haC, fun h3 sb3 => ?_⟩
  exact ⟨_, H', I2.turned (t' := s2.toks) (fun b o hb e => (sb3.2 b hb).trans e) f0 f1 f3 f4 f5, q⟩
theorem sw_dict {kx vx : Expr} {gs : List Comprehension} {sp : Scope} {ps py : Pos} {y : Str} {l : Nat} {env : Env} (hk : env.scope.kind = .function) (hy : env.scope.names.lookup y = some .local) (hl : (py.line == ps.line) = true)
    (ha : (sp.names.any fun (n, k) => n == y && (k == .local || k == .cell)) = false) : swapsWith (.DictComp kx vx gs sp ps) (some (.Name y py)) l env = pure true := by
  have hb : env.blockKind = .function := by unfold Env.blockKind; rw [hk] <;> rfl
  unfold swapsWith
  simp only [hb, show env.kindOf y = some .local from hy, ha, Expr.pos, hl]
  rfl
end
/-- {.. for i, x in enumerate(a tuple)} -/
theorem dc_enT {K : PySem.W.Frag} {a : Addr} {xs : List V} {g : TG} {tt : TT} {tk tv : TE} {vs : List Nat} {σ : L2.St} {H1 : Hp} {D : Addr} {Qd : Hp → Prop} (Pv : Nat → Hp → Prop) (h0 : Pv 0 (upd H1 D (.dK []))) (hl : ∀ i H, i ≤ xs.length → Pv i H → SqT K H a xs)
    (hs : ∀ i x H T, xs[i]? = some x → Pv i H → H T = none → g (.ref T) (wipe σ vs) (upd H T (.tup [.int (i : Nat), x])) fun σ2 H2 => wipe σ2 vs = wipe σ vs ∧ tt σ2 H2 fun b H3 =>
      if b = true then tk σ2 H3 fun y H4 => tv σ2 H4 fun z H5 => ∃ kvs k, y = kV k ∧ H5 D = some (.dK kvs) ∧ kvs.length < sizeLine ∧ Pv (i + 1) (upd H5 D (.dK (putK kvs k z))) else Pv (i + 1) H3) (hd : ∀ H, Pv xs.length H → Qd H) :
    ∃ W : Nat → Nat → Hp → Prop, (∃ m, W 0 m (upd H1 D (.dK []))) ∧ ∀ i m H, W i m H →
      ((Kc.ItT K a).stop i H ∧ Qd H) ∨ ((Kc.ItT K a).go i H ∧ ∃ Nx : Hp → Prop, (∀ H', Nx H' → ∃ m', m' < m ∧ W (i + 1) m' H') ∧ ∀ x H', (Kc.ItT K a).yld i H x H' → g x (wipe σ vs) H' fun σ2 H2 => wipe σ2 vs = wipe σ vs ∧ tt σ2 H2 fun b H3 =>
        if b = true then tk σ2 H3 fun y H4 => tv σ2 H4 fun z H5 => ∃ kvs k, y = kV k ∧ H5 D = some (.dK kvs) ∧ kvs.length < sizeLine ∧ Nx (upd H5 D (.dK (putK kvs k z))) else Nx H3) := by
  refine ⟨fun i m H => m = xs.length - i ∧ i ≤ xs.length ∧ Pv i H, ⟨xs.length, by simp, Nat.zero_le _, h0⟩, ?_⟩
  rintro i m H ⟨rfl, hi, p⟩
  have q := hl i H hi p
  by_cases hlt : i < xs.length
  · refine .inr ⟨⟨xs, xs[i], q, by simp [hlt]⟩, Pv (i + 1), fun H' p' => ⟨xs.length - (i + 1), by omega, rfl, hlt, p'⟩, fun x H' y => ?_⟩
    obtain ⟨T, z, rfl, nT, rfl, hz⟩ := y
    exact hs i z H T (hz xs q) p nT
  · have e : i = xs.length := by omega
    subst e
    exact .inl ⟨⟨xs, q, Nat.le_refl _⟩, hd H p⟩
/-- a dict whose keys are these letters, each with its place -/
def plV (a : List Int) : List (L2.Key × V) := a.zipIdx.map fun p => (Sum.inl p.1, V.int (p.2 : Int))
theorem valV_pl (a : List Int) : ∀ (l : List Int) (n : Nat) (x : Int), valV ((l.zipIdx n).map fun p => ((Sum.inl p.1 : L2.Key), V.int (p.2 : Int))) (Sum.inl x) = (l.findIdx? fun y => decide (y = x)).map fun i => V.int ((i + n : Nat) : Int)
  | [], _, _ => rfl
  | y :: r, n, x => by
    show valV (((Sum.inl y : L2.Key), V.int (n : Int)) :: (r.zipIdx (n + 1)).map _) (Sum.inl x) = _
    rw [List.findIdx?_cons]
    by_cases e : y = x
    · rw [valV_pos (by rw [e]), if_pos (decide_eq_true e)]
      simp
    · rw [valV_neg (fun z => e (Sum.inl.inj z)), decide_eq_false e, if_neg Bool.false_ne_true, valV_pl a r (n + 1) x]
      cases h : r.findIdx? fun y => decide (y = x) with
      | none => rfl
      | some i =>
        show some (V.int ((i + (n + 1) : Nat) : Int)) = some (V.int ((i + 1 + n : Nat) : Int))
        rw [show i + (n + 1) = i + 1 + n by omega]
theorem pl_snoc {a : List Int} {i : Nat} {x : Int} (nd : a.Nodup) (h : a[i]? = some x) : putK (plV (a.take i)) (Sum.inl x) (.int (i : Int)) = plV (a.take (i + 1)) := by
  have hi : i < a.length := (List.getElem?_eq_some_iff.mp h).1
  have nx : ¬ x ∈ a.take i := fun m => by
    obtain ⟨j, hj⟩ := List.mem_iff_getElem?.mp m
    have hj' : j < (a.take i).length := (List.getElem?_eq_some_iff.mp hj).1
    rw [List.length_take] at hj'
    rw [List.getElem?_take_of_lt (by omega)] at hj
    have := Km.nodup_get nd h hj
    omega
  rw [putK_new]
  · rw [List.take_succ, h]
    unfold plV
    show _ = ((a.take i ++ [x]).zipIdx).map _
    rw [List.zipIdx_append, List.map_append, List.length_take, Nat.min_eq_left (Nat.le_of_lt hi)]
    simp
  · unfold plV
    rw [valV_pl (a.take i)]
    rw [List.findIdx?_eq_none_iff.mpr]
    · rfl
    · intro y hy
      exact decide_eq_false fun e => nx (e ▸ hy)
theorem pl_get {a : List Int} (nd : a.Nodup) (x : Int) : ((valV (plV a) (Sum.inl x)).getD (.int (-1)) = .int (-1) ∧ ¬ x ∈ a) ∨ ∃ i : Nat, a[i]? = some x ∧ (valV (plV a) (Sum.inl x)).getD (.int (-1)) = .int (i : Int) := by
  unfold plV
  rw [valV_pl a]
  cases h : a.findIdx? fun y => decide (y = x) with
  | none =>
    refine .inl ⟨rfl, fun m => ?_⟩
    have := List.findIdx?_eq_none_iff.mp h x m
    simp at this
  | some i =>
    obtain ⟨h1, h2, _⟩ := List.findIdx?_eq_some_iff_getElem.mp h
    refine .inr ⟨i, ?_, ?_⟩
    · rw [List.getElem?_eq_getElem h1, of_decide_eq_true h2]
    · show V.int ((i + 0 : Nat) : Int) = _
      rfl
end Kz
namespace Kz
open PySem PySem.Spec PyProof.Rows L2 Lk Kd Kx
section
variable {X : Cx} {K : PySem.W.Frag}
theorem tcountK (h : X.K = K) : MtR X "tuple.count" (rCntT K) := by subst h; exact mt_tcount
/-- at t a tuple without a dict of its own -/
def NoD (H : Hp) (t : Addr) : Prop := ∃ o xs, H t = some (.frz o (.tup xs)) ∧ o.cls = .type "tuple" ∧ o.dict = none
theorem NoD.same {H H' : Hp} {t : Addr} (s : Same H H') (h : NoD H t) : NoD H' t := let ⟨o, xs, e, c, d⟩ := h; ⟨o, xs, s _ _ e, c, d⟩
theorem NoD.ext {S c : Addr} {H H' : Hp} {t : Addr} (hS : Stm S c H) (s : Ext S H H') (h : NoD H t) : NoD H' t := by
  obtain ⟨o, xs, e, hc, d⟩ := h
  refine ⟨o, xs, s _ _ (fun z => ?_) e, hc, d⟩
  obtain ⟨_, _, _, h1, _⟩ := hS
  rw [z, h1] at e
  cases e
theorem cr_tupN : CallR X (.type "tuple") (fun xs H Q => ∃ p ys, xs = [.ref p] ∧ SqL X.K H p ys ∧ ∀ l o, H l = none → o.cls = .type "tuple" → o.dict = none → Q (.ref l) (upd H l (.frz o (.tup ys)))) := by
  intro pins s σ H xs us Q I r h
  obtain ⟨p, ys, rfl, hq, q⟩ := h
  obtain ⟨u, rfl, rx⟩ := vals1 r
  cases rx
  obtain ⟨its, r', pl, hz⟩ := I.list hq
  have hlen := r'.length
  refine call_tuple_list pl.isList (fun h' kp => ?_) (by simp only [List.size_toArray] <;> omega)
  have I1 : Inv X pins σ H { s with heap := h' } := I.kept (t' := s.toks) kp
  have I2 : Inv X pins σ (upd H h'.objs.size (.frz { cls := .type "tuple", data := .seq its.toArray } (.tup ys))) { s with heap := h'.push { cls := .type "tuple", data := .seq its.toArray } } :=
    I1.laid (t' := s.toks) (fun b o e => Heap.get?_push_of_some _ e) (Nat.le_refl _) (show ObjOk X.prog X.w _ _ _ (.frz _ (.tup ys)) from ⟨Heap.get?_push_size _ rfl, hz, its, r', IsTup.new _ _⟩)
  exact ⟨.ref h'.objs.size, _, I2, rfl, q _ _ (I1.hok.fresh (Nat.le_refl _)) rfl rfl⟩
def tTM (r : V → List V → Hp → VK → Prop) (to : TE) (t : TA) : TE := fun σ H Q => to σ H fun x H1 => (∃ p, x = .ref p ∧ NoD H1 p) ∧ t σ H1 fun xs H2 => r x xs H2 Q
theorem pe_tm {o e : Expr} {es : List Expr} {to : TE} {t : TA} {name : Str} {apos cpos : Pos} {id : String} {r : V → List V → Hp → VK → Prop} (slot : Slot "tuple" name id) (hty : typeOf (.builtin id) = pure (.type "method_descriptor")) (hm : MtR X id r) (ho : PE X o to) (ha : PA X (e :: es) t)
    (hbase : attributeBase o name X.env (eval o X.env) = eval o X.env := by rfl)
    (hfew : ((backTo cpos (starEach (e :: es) X.env)).all (fun x => !x.1) && (backToKw cpos (keywordEach [] X.env)).all (fun x => x.1.isSome)
      && decide ((e :: es).length + ([] : List Keyword).length + (if ([] : List Keyword).isEmpty then 0 else 1) < 30)) = true := by rfl)
    (hline : (apos.endLine == cpos.line) = true := by rfl) (hs : starEach (e :: es) X.env = (false, eval e X.env) :: starEach es X.env := by rfl) (hplain : (backTo cpos (starEach es X.env)).any (·.1) = false := by rfl) :
    PE X (.Call (.Attribute o name apos) (e :: es) [] cpos) (tTM r to t) := by
  refine ⟨fun pins s σ H Q I h => ?_⟩
  refine wpAny_Call_method_late hbase hfew hline rfl (thn (ho.run pins s σ H _ I h) fun v s1 ⟨x, H1, I1, r1, ⟨p, ex, ob, ys, hp, hc, hd⟩, q1⟩ => ?_)
  subst ex
  cases r1
  obtain ⟨hg, _⟩ := (show ObjOk X.prog X.w H1 s1.heap p (.frz ob (.tup ys)) from I1.hok p _ hp)
  refine ⟨"tuple", id, PySem.F.plainAttrs_tuple, slot, hty, ⟨ob, hg, hc⟩, (fun a e => by cases e; exact ⟨ob, hg, hd⟩), ?_⟩
  have hA := ha.run cpos pins s1 σ H1 _ I1 q1
  rw [hs] at hA ⊢
  refine Calls.callWith_builtin (by show (false || (backTo cpos (starEach es X.env)).any (·.1)) = false; rw [hplain] <;> rfl) (Calls.evalArgs_plain ?_)
  exact thn hA fun us s2 ⟨vs, H2, I2, r2, q2⟩ => hm pins s2 σ H2 (V.ref p) vs (.ref p) us Q I2 rfl r2 q2
end
end Kz
namespace Kz
open PySem PySem.Spec PyProof.Rows L2 Lk Kd Kx
def onI (f : Int → Bool) (d : PyData) : Bool := match d with
  | .int i => f i
  | _ => false
theorem all_int {K : PySem.W.Frag} {H : Hp} {p : Addr} {ns : List Int} {f : Int → Bool} {t0 : TE} {g : TG} {te : TE} {vs : List Nat} {σ : L2.St} {Q : VK} (ev : ∀ Q : VK, Q (.ref p) H → t0 σ H Q) (hT : SqT K H p (ns.map V.int)) (hz : ns.length ≤ 900)
    (hs : ∀ x H' (Q' : VK), Same H H' → x ∈ ns → Q' (.bl (f x)) H' → g (.int x) (wipe σ vs) H' fun σ2 H2 => wipe σ2 vs = wipe σ vs ∧ te σ2 H2 Q')
    (hQ : ∀ D H', Same H H' → SqL K H' D ((ns.map f).map V.bl) → Q (.ref D) H') : tLc (iTup K t0) g tYes te vs σ H Q := by
  refine all_dat (f := onI f) (ds := ns.map PyData.int) ev hT (dpa_ints ns) (by rw [List.length_map]; exact hz) (fun x d H' Q' s1 hm hx q => ?_) fun D H' s1 hD => ?_
  · obtain ⟨i, hi, rfl⟩ := List.mem_map.mp hm
    cases hx
    exact hs i H' Q' s1 hi q
  · refine hQ D H' s1 ?_
    have e : (ns.map PyData.int).map (onI f) = ns.map f := by rw [List.map_map]; rfl
    rw [e] at hD
    exact hD
theorem all_int_id (ns : List Int) (f : Int → Bool) : (ns.map f).all id = ns.all f := by
  induction ns with
  | nil => rfl
  | cons x r ih => simp [ih]
end Kz
namespace Kz
open PySem PySem.Spec PyProof.Rows L2 Lk Kd Kx
theorem catAK {X : Cx} {K : PySem.W.Frag} (h : X.K = K) : OpR X (binaryOp .Add) (rCatA K) := by subst h; exact op_catA
theorem dpa_at {K : PySem.W.Frag} {H : Hp} {es : List V} {ws : List (List Int)} {i : Nat} {v : V} (h : DpAll K H es (ws.map wD)) (e : es[i]? = some v) : ∃ w, ws[i]? = some w ∧ Dp K H v (wD w) := by
  obtain ⟨d, h1, h2⟩ := dpa_get h e
  rw [List.getElem?_map] at h1
  cases z : ws[i]? with
  | none => rw [z] at h1; cases h1
  | some w => rw [z] at h1; cases h1; exact ⟨w, rfl, h2⟩
theorem dpa_app {K : PySem.W.Frag} {H : Hp} : ∀ {vs us : List V} {ds es : List PyData}, DpAll K H vs ds → DpAll K H us es → DpAll K H (vs ++ us) (ds ++ es)
  | _, _, _, _, .nil, h => h
  | _ :: _, _, _ :: _, _, .cons h1 h2, h => .cons h1 (dpa_app h2 h)
/-- None or a word -/
def FoundD (K : PySem.W.Frag) (H : Hp) (v : V) : Option (List Int) → Prop
  | none => v = .non
  | some w => Dp K H v (wD w)
theorem FoundD.same {K : PySem.W.Frag} {H H' : Hp} {v : V} {o : Option (List Int)} (s : Same H H') (h : FoundD K H v o) : FoundD K H' v o := by
  cases o with
  | none => exact h
  | some w => exact dp_same s h
theorem w_len {K : PySem.W.Frag} {H : Hp} {v : V} {ns : List Int} (h : Dp K H v (wD ns)) : ∃ t, v = .ref t ∧ SqT K H t (ns.map V.int) := w_inv h
end Kz
namespace Kz
open PySem PySem.Spec PyProof.Rows L2 Lk Kd Kx
def oD : Option (List Int) → PyData
  | none => .none
  | some w => wD w
theorem FoundD.dp {K : PySem.W.Frag} {H : Hp} {v : V} {o : Option (List Int)} (h : FoundD K H v o) : Dp K H v (oD o) := by
  cases o with
  | none => rw [show v = .non from h]; exact .non
  | some w => exact h
theorem shaped_o (o : Option (List Int)) : SeqAt.shaped (oD o) = true := by
  cases o with
  | none => rfl
  | some w => exact shaped_w w
theorem FoundD.isNon {K : PySem.W.Frag} {H : Hp} {v : V} {o : Option (List Int)} (h : FoundD K H v o) : decide (v = .non) = o.isNone := by
  cases o with
  | none => rw [show v = .non from h] <;> rfl
  | some w =>
    obtain ⟨t, rfl, _⟩ := w_inv h
    exact decide_eq_false fun z => V.noConfusion z
end Kz

set_option Elab.async false
set_option linter.all false
set_option maxRecDepth 100000
set_option maxHeartbeats 4000000
/-! in a tuple of data; lists of truth values; kinds by their names -/
namespace Mr
open PySem PySem.Spec PyProof.Rows L2 Lk Kd Kx
section
variable {X : Cx}
def rInTD (K : PySem.W.Frag) : R2 := fun x y H Q => ∃ d ds, Dp K H x d ∧ Dp K H y (.tuple ds) ∧ SeqAt.shaped d = true ∧ SeqAt.shaped (.tuple ds) = true ∧ d.depth ≤ 60 ∧ Q (.bl (ds.any fun z => PyData.eqv z d)) H
theorem op_inTD (hu : X.A.units + 64 < cLine) : OpR X (compareOp .In) (rInTD X.K) := by
  intro pins s σ H x y v u Q I rx ry h
  obtain ⟨d, ds, hd, he, sd, se, hz, q⟩ := h
  obtain ⟨as, r1⟩ := Dp.reads I d x v hd rx
  obtain ⟨bs, r2⟩ := Dp.reads I (.tuple ds) y u he ry
  exact SeqAt.in_tuple_reads r2 r1 (SeqAt.canLay_of_shaped se) (SeqAt.canLay_of_shaped sd) (by have := Nat.min_le_right (PyData.depthAll ds) d.depth; omega) ⟨.bl _, H, I, rfl, q⟩
end
theorem dpa_bls {K : PySem.W.Frag} {H : Hp} : ∀ (bs : List Bool), DpAll K H (bs.map V.bl) (bs.map PyData.bool)
  | [] => .nil
  | b :: r => .cons (.bl b) (dpa_bls r)
theorem lay_bls : ∀ bs : List Bool, PyData.canLayAll0 (bs.map PyData.bool) = true ∧ PyData.depthAll (bs.map PyData.bool) = 0
  | [] => ⟨rfl, rfl⟩
  | n :: r => by
    obtain ⟨h1, h2⟩ := lay_bls r
    refine ⟨?_, ?_⟩
    · simp only [List.map, PyData.canLayAll0, PyData.canLay0, h1, Bool.and_self]
    · simp only [List.map, PyData.depthAll, PyData.depth, h2, Nat.max_self]
theorem shaped_bls (bs : List Bool) : SeqAt.shaped (.list (bs.map PyData.bool)) = true := by
  obtain ⟨h1, h2⟩ := lay_bls bs
  unfold SeqAt.shaped
  rw [PyData.canLay0, PyData.depth, h1, h2]
  rfl
/-- the pair of two words -/
def pD (p : List Int × List Int) : PyData := .tuple [wD p.1, wD p.2]
theorem shaped_p (p : List Int × List Int) : SeqAt.shaped (pD p) = true := by
  obtain ⟨h1, h2⟩ := lay_ints p.1
  obtain ⟨h3, h4⟩ := lay_ints p.2
  unfold SeqAt.shaped pD wD
  simp only [PyData.canLay0, PyData.canLayAll0, PyData.depth, PyData.depthAll, h1, h2, h3, h4]
  rfl
theorem p_inv {K : PySem.W.Frag} {H : Hp} {v : V} {p : List Int × List Int} (h : Dp K H v (pD p)) : ∃ t a b, v = .ref t ∧ SqT K H t [.ref a, .ref b] ∧ SqT K H a (p.1.map V.int) ∧ SqT K H b (p.2.map V.int) := by
  cases h with
  | tup h1 h2 =>
    cases h2 with
    | cons x r =>
      cases r with
      | cons y r =>
        cases r
        obtain ⟨a, rfl, ha⟩ := w_inv x
        obtain ⟨b, rfl, hb⟩ := w_inv y
        exact ⟨_, a, b, rfl, h1, ha, hb⟩
theorem p_mk {K : PySem.W.Frag} {H : Hp} {t a b : Addr} {p : List Int × List Int} (h : SqT K H t [.ref a, .ref b]) (ha : SqT K H a (p.1.map V.int)) (hb : SqT K H b (p.2.map V.int)) : Dp K H (.ref t) (pD p) := .tup h (.cons (w_mk ha) (.cons (w_mk hb) .nil))
/-- None or a pair of words -/
def FoundP (K : PySem.W.Frag) (H : Hp) (v : V) : Option (List Int × List Int) → Prop
  | none => v = .non
  | some p => Dp K H v (pD p)
theorem FoundP.same {K : PySem.W.Frag} {H H' : Hp} {v : V} {o : Option (List Int × List Int)} (s : Same H H') (h : FoundP K H v o) : FoundP K H' v o := by
  cases o with
  | none => exact h
  | some w => exact dp_same s h
theorem FoundP.isNon {K : PySem.W.Frag} {H : Hp} {v : V} {o : Option (List Int × List Int)} (h : FoundP K H v o) : decide (v = .non) = o.isNone := by
  cases o with
  | none => rw [show v = .non from h] <;> rfl
  | some w =>
    obtain ⟨t, a, b, rfl, _⟩ := p_inv h
    exact decide_eq_false fun z => V.noConfusion z
/-! ### kinds by their names -/
def inK (k : Km.Kd8) (ss : List V) : Bool := inV (.str (nm k)) ss
theorem in_bag_set (k : Km.Kd8) : inV (.str (nm k)) [.str "bag", .str "set"] = (isK k .bag || isK k .set) := by cases k <;> decide +kernel
theorem in_heads_first (k : Km.Kd8) : inV (.str (nm k)) [.str "heads", .str "first"] = (isK k .heads || isK k .first) := by cases k <;> decide +kernel
theorem in_tails_last (k : Km.Kd8) : inV (.str (nm k)) [.str "tails", .str "last"] = (isK k .tails || isK k .last) := by cases k <;> decide +kernel
theorem in_list_bag (k : Km.Kd8) : inV (.str (nm k)) [.str "list", .str "bag"] = (isK k .list || isK k .bag) := by cases k <;> decide +kernel
def idemV : List V := [.str "set", .str "first", .str "last", .str "ends", .str "heads", .str "tails"]
theorem in_idem (k : Km.Kd8) : inV (.str (nm k)) idemV = !(isK k .list || isK k .bag) := by cases k <;> decide +kernel
def pairsS : List PyData := [.tuple [.str "first", .str "ends"], .tuple [.str "first", .str "heads"], .tuple [.str "last", .str "ends"], .tuple [.str "last", .str "tails"]]
theorem und_if (n w : Km.Kd8) : Km.undB n w = if (isK n w || isK w .list) = true then true else if isK n .set = true then inV (.str (nm w)) [.str "bag", .str "heads", .str "tails"] else pairsS.any fun z => PyData.eqv z (.tuple [.str (nm n), .str (nm w)]) := by
  cases n <;> cases w <;> decide +kernel
def abv : Km.Kd8 → List Str
  | .list => ["list"] | .bag => ["list", "bag"] | .set => ["list", "bag", "set", "heads", "tails"] | .first => ["list", "first", "ends", "heads"] | .last => ["list", "last", "ends", "tails"] | .ends => ["list", "ends"] | .heads => ["list", "heads"] | .tails => ["list", "tails"]
theorem abv_in (n w : Km.Kd8) : inV (.str (nm w)) ((abv n).map V.str) = Km.undB n w := by cases n <;> cases w <;> decide +kernel
def all8 : List Km.Kd8 := [.list, .bag, .set, .first, .last, .ends, .heads, .tails]
theorem all8_map : all8.map (fun k => V.str (nm k)) = kNames := rfl
theorem flat_strs (ss : List Str) : (ss.map V.str).all flatV = true := by
  induction ss with
  | nil => rfl
  | cons y r ih => rw [List.map_cons, List.all_cons, ih] <;> rfl
def below (w : Km.Kd8) : List Km.Kd8 := all8.filter fun n => Km.undB n w
theorem below_pos (w : Km.Kd8) : 0 < (below w).length := by cases w <;> decide +kernel
theorem below_le (w : Km.Kd8) : (below w).length ≤ 8 := by cases w <;> decide +kernel
end Mr
namespace Mr
open PySem PySem.Spec PyProof.Rows L2 Lk Kd Kx
theorem ok_nm (k : Km.Kd8) : PyData.strOk (nm k) = true := by cases k <;> decide +kernel
theorem shaped_ss (a b : Km.Kd8) : SeqAt.shaped (.tuple [.str (nm a), .str (nm b)]) = true := by
  unfold SeqAt.shaped
  simp only [PyData.canLay0, PyData.canLayAll0, PyData.depth, PyData.depthAll, ok_nm]
  rfl
end Mr
namespace Mr
open PySem PySem.Spec PyProof.Rows L2 Lk Kd Kx
theorem effs_mut {K : PySem.W.Frag} {H : Hp} {L : Addr} {xs zs : List V} (hL : H L = some (.lst xs)) : ∀ {l : List (Bool × List Int)} {us : List V}, DpAll K H us (effs l) → DpAll K (upd H L (.lst zs)) us (effs l)
  | [], _, h => by cases h; exact .nil
  | e :: r, _, h => by
    cases h with
    | cons h1 h2 => exact .cons (ef_mut hL h1) (effs_mut hL h2)
theorem effs_get {K : PySem.W.Frag} {H : Hp} {l : List (Bool × List Int)} {us : List V} {i : Nat} {v : V} (h : DpAll K H us (effs l)) (hi : us[i]? = some v) : ∃ e, l[i]? = some e ∧ Ef K H v e := by
  obtain ⟨d, h1, h2⟩ := dpa_get h hi
  unfold effs at h1
  rw [List.getElem?_map] at h1
  cases z : l[i]? with
  | none => rw [z] at h1; cases h1
  | some e => rw [z] at h1; cases h1; exact ⟨e, rfl, h2⟩
theorem effs_at {K : PySem.W.Frag} {H : Hp} {l : List (Bool × List Int)} {us : List V} {i : Nat} {e : Bool × List Int} (h : DpAll K H us (effs l)) (hi : l[i]? = some e) : ∃ v, us[i]? = some v ∧ Ef K H v e := by
  have ll : us.length = l.length := by have := dpa_len h; unfold effs at this; rw [List.length_map] at this; exact this
  have lt : i < us.length := by rw [ll]; exact (List.getElem?_eq_some_iff.mp hi).1
  obtain ⟨e', h1, h2⟩ := effs_get h (List.getElem?_eq_getElem lt)
  rw [hi] at h1
  cases h1
  exact ⟨_, List.getElem?_eq_getElem lt, h2⟩
end Mr

set_option Elab.async false
set_option linter.all false
set_option maxRecDepth 100000
/-! defs with a keyword-only parameter; kinds that are none -/
namespace Ms
open PySem PySem.Spec PyProof.Rows L2 Lk
section
variable {P : Program} {w : World} {K : PySem.W.Frag} {mg : Str → Option Value} {base : Heap} {x qual : Str} {st : Stmt} {kws : List (Str × V)} {f : Addr} {fd : FuncData} {N ps : List Str} {k : Nat} {sp : Sp}
abbrev FnK (K : PySem.W.Frag) (x : Str) (st : Stmt) (kws : List (Str × V)) (f : Addr) (fd : FuncData) : Prop := FunD K x x (defArgs st) (defBody st) (defScope st) [] kws f fd
theorem okX (F : FnK K x st kws f fd) (S : FnScope N ps (defScope st)) (len : ∀ vs H Q E, sp vs H Q E → vs.length = ps.length)
    (hbody : ∀ (cdv : Value) (A : Around) (outer : List Env) (s : Shared) (H : Hp) (vs : List V) (Q : VK) (E : XK), Room k (A.deeper (envOfC x (defScope st) s.heap.objs.size f cdv)) → sp vs H Q E →
      ∃ t, PSs (cxOf (L2.CX P w) P w K mg base N x (defScope st) f cdv A outer s H E) (defBody st) t ∧ t { nx := fun _ H' => Q .non H', rt := Q } (start N vs) H) : FnOk P w K mg base (L2.CX P w) (k + 1) f fd ps sp :=
  F.ok S len hbody
theorem kb0 {params : Arguments} {body : List Stmt} {scope : Scope} (F : FunD K x qual params body scope [] kws f fd) (n : Nat) (ks : List Str)
    (h : ∀ (kV doc pm : Value) (an : Option Addr) (cdv ct : Value) (us ws : List Value), us.length = n → ws.length = ks.length →
      bindArgs (PySem.W.fnOf x qual params body scope .none kV doc pm an cdv ct) ⟨us, ks.zip ws⟩ = pure (ps.zip (us ++ ws))) : KBn K fd ps n ks (fun us ws => us ++ ws) (fun vs zs => vs ++ zs) := by
  obtain ⟨oc, od, dV, kV, doc, pm, an, cdv, ct, osl, rfl, lk, hcd, hD, hK⟩ := F.ex
  rcases hD with ⟨_, rfl⟩ | ⟨e, _⟩
  · exact ⟨fun s us ws X l1 l2 => .of_eq (h kV doc pm an cdv ct us ws l1 l2), fun r1 r2 => r1.append r2⟩
  · exact absurd rfl e
end
section
variable {X : Cx} {CX : CXT} {k n : Nat} {f : Addr} {fd : FuncData} {ps ks : List Str} {sp : Sp} {E : L2.St → XK} {x : Str} {p pos : Pos} {e : Expr} {es : List Expr} {kws : List Keyword} {t tk : TA} {g : List Value → List Value → List Value} {gV : List V → List V → List V}
def tCallNS (n m : Nat) (sp : Sp) (gV : List V → List V → List V) (E : L2.St → XK) (t tk : TA) : TE := fun σ H Q => t σ H fun vs H1 => tk σ H1 fun zs H2 => vs.length = n ∧ zs.length = m ∧ sp (gV vs zs) H2 Q (E σ)
theorem run_fnNS {pins : List (Addr × Obj)} {σ : L2.St} {H : Hp} {s : Shared} {Q : VK} {us ws : List Value} {vs zs : List V} (F : FnOk X.prog X.w X.K X.mg X.base CX k f fd ps sp) (hr : Room k X.A) (hb : KBn X.K fd ps n ks g gV) (hx : PassesAt CX X σ (E σ))
    (I : Inv X pins σ H s) (r : Vals vs us) (rz : Vals zs ws) (l1 : vs.length = n) (l2 : zs.length = ks.length) (h : sp (gV vs zs) H Q (E σ)) : wpAny (model X.prog X.w) X.A (call (.ref f) us (ks.zip ws)) (EP X pins σ Q) X.xe s := by
  have r2 := hb.rel r rz
  refine wpAny_call (codeAny_mono (F.run X.A X.stack s H ⟨us, ks.zip ws⟩ (g us ws) (gV vs zs) Q (E σ) hr I.env0 (hb.to s us ws I.kIn (r.length.symm.trans l1) (rz.length.symm.trans l2)) r2 h) fun r s' hq => ?_)
  cases r with
  | error e => exact hx pins H s e s' I hq
  | ok fl =>
    cases fl with
    | ret u => exact I.after hq
    | next => exact False.elim hq
    | brk => exact False.elim hq
    | cont => exact False.elim hq
theorem pe_callNS (F : FnOk X.prog X.w X.K X.mg X.base CX k f fd ps sp) (hr : Room k X.A) (hg : Gl X x) (hm : X.mg x = some (.ref f)) (hk : PySem.W.keepIn X.K (.ref f) = true) (hb : KBn X.K fd ps n ks g gV) (hx : ∀ σ, PassesAt CX X σ (E σ))
    (ha : PA X (e :: es) t) (hkw : PK X kws tk) (hall : (backToKw pos (keywordEach kws X.env)).all (·.1.isSome) = true := by rfl) (hks : (backToKw pos (keywordEach kws X.env)).filterMap (·.1) = ks := by rfl)
    (hdb : (x == ("__debug__" : Str)) = false := by decide) (he : starEach (e :: es) X.env = (false, eval e X.env) :: starEach es X.env := by rfl)
    (hpl : ((backTo pos (starEach (e :: es) X.env)).any (·.1) || (backToKw pos (keywordEach kws X.env)).any (·.1.isNone)) = false := by rfl) :
    PE X (.Call (.Name x p) (e :: es) kws pos) (tCallNS n ks.length sp gV E t tk) := by
  refine ⟨fun pins s σ H Q I h => ?_⟩
  refine wpAny_Call_Name_kw (ld_glob I hg hm ?_ hdb)
  refine PySem.W.callWith_KW (h₀ := X.base) I.ok.mod.kin hk hall (thn (ha.run pos pins s σ H _ I h) fun us s1 ⟨vs, H1, I1, r, q⟩ => ?_) hpl he
  refine thn (hkw.run pos pins s1 σ H1 _ I1 q) fun ws s2 ⟨zs, H2, I2, rz, l1, l2, q2⟩ => ⟨I2.kIn, ?_⟩
  rw [hks]
  exact run_fnNS F hr hb (hx σ) I2 r rz l1 l2 q2
end
/-! ### what is no kind -/
def badK (d : PyData) : Bool := match d with
  | .str x => !([("list" : Str), "bag", "set", "first", "last", "ends", "heads", "tails"].contains x)
  | _ => true
end Ms
namespace Ms
open PySem L2 Lk
theorem len1 {l : List V} (h : l.length = 1) : ∃ a, l = [a] := by
  match l, h with
  | [a], _ => exact ⟨a, rfl⟩
theorem len2 {l : List V} (h : l.length = 2) : ∃ a b, l = [a, b] := by
  match l, h with
  | [a, b], _ => exact ⟨a, b, rfl⟩
end Ms
namespace Ms
open PySem L2 Lk Kx
theorem notin8 {x : Str} (h : (!([("list" : Str), "bag", "set", "first", "last", "ends", "heads", "tails"].contains x)) = true) : inV (.str x) kNames = false := by
  cases e : inV (.str x) kNames with
  | false => rfl
  | true =>
    have h : [("list" : Str), "bag", "set", "first", "last", "ends", "heads", "tails"].contains x = false := by simpa using h
    exfalso
    obtain ⟨y, hy, e⟩ := List.any_eq_true.mp e
    have hy : y ∈ [("list" : Str), "bag", "set", "first", "last", "ends", "heads", "tails"].map V.str := hy
    obtain ⟨z, hz, rfl⟩ := List.mem_map.mp hy
    have ez : z = x := by
      unfold eqV at e
      simpa using e
    subst ez
    rw [List.contains_iff_mem.mpr hz] at h
    cases h
end Ms

set_option Elab.async false
set_option linter.all false
set_option maxRecDepth 100000
/-! rows of effects -/
namespace Mt
open PySem PySem.Spec PyProof.Rows L2 Lk Kd Kx
abbrev Ev := Bool × List Int
def opD : Option Ev → PyData
  | none => .none
  | some e => eD e.1 e.2
section
variable {K : PySem.W.Frag} {H H' : Hp} {v : V} {o : Option Ev} {xs : List V} {l : List (Option Ev)}
theorem found_dp : FoundE K H v o ↔ Dp K H v (opD o) := by
  cases o with
  | none =>
    constructor
    · intro h; have h : v = .non := h; subst h; exact .non
    · intro h
      have h : Dp K H v .none := h
      cases h
      rfl
  | some e => exact Iff.rfl
theorem rowO_get (h : DpAll K H xs (l.map opD)) {i : Nat} (hi : xs[i]? = some v) : ∃ o, l[i]? = some o ∧ Dp K H v (opD o) := by
  obtain ⟨d, hd, hv⟩ := dpa_get h hi
  rw [List.getElem?_map] at hd
  cases z : l[i]? with
  | none => rw [z] at hd; cases hd
  | some o => rw [z] at hd; cases Option.some.inj hd; exact ⟨o, rfl, hv⟩
theorem rowO_len (h : DpAll K H xs (l.map opD)) : xs.length = l.length := by
  have z := dpa_len h
  rwa [List.length_map] at z
theorem effs_op (l : List Ev) : effs l = (l.map some).map opD := by
  unfold effs
  rw [List.map_map]
  rfl
theorem op_non (h : Dp K H .non (opD o)) : o = none := by
  cases o with
  | none => rfl
  | some e => have h : Dp K H .non (eD e.1 e.2) := h; cases h
theorem op_inv (h : Dp K H v (opD o)) : (v = .non ∧ o = none) ∨ ∃ e, o = some e ∧ v ≠ .non ∧ Ef K H v e := by
  cases o with
  | none => have h : Dp K H v .none := h; cases h; exact .inl ⟨rfl, rfl⟩
  | some e =>
    refine .inr ⟨e, rfl, fun z => ?_, h⟩
    subst z
    have h : Dp K H .non (eD e.1 e.2) := h
    cases h
end
/-- the letters of a row; its effects that are not idle -/
def lets (l : List (Option Ev)) : List Int := l.filterMap fun o => o.map fun e => (e.2.length : Int)
def busy (l : List (Option Ev)) : List (Option Ev) := l.filter fun o => o != none && o != some (false, [])
theorem lets_snoc (l : List (Option Ev)) (o : Option Ev) : lets (l ++ [o]) = lets l ++ (match o with | some e => [(e.2.length : Int)] | none => []) := by
  unfold lets
  rw [List.filterMap_append]
  cases o <;> rfl
theorem busy_snoc (l : List (Option Ev)) (o : Option Ev) : busy (l ++ [o]) = busy l ++ (if (o != none && o != some (false, [])) = true then [o] else []) := by
  unfold busy
  rw [List.filter_append, List.filter_cons, List.filter_nil]
theorem lets_len (l : List (Option Ev)) : (lets l).length ≤ l.length := List.length_filterMap_le _ _
theorem take1 {α : Type} {l : List α} {i : Nat} {o : α} (h : l[i]? = some o) : l.take (i + 1) = l.take i ++ [o] := by
  rw [List.take_succ, h] <;> rfl
theorem lcB {K : PySem.W.Frag} {j : Nat} {σ : L2.St} {p : Addr} {xs : List V} {H : Hp} {g : TG} {tt : TT} {te : TE} {vs : List Nat} {Q : VK} (hj : σ[j]? = some (some (.ref p))) (hq : Sq K H p xs)
    (Pv : Addr → Nat → Hp → Prop) (h0 : ∀ D, H D = none → Pv D 0 (upd H D (.lst []))) (hsm : ∀ D i H', Pv D i H' → Same H H')
    (hs : ∀ D, H D = none → ∀ i x H', xs[i]? = some x → Pv D i H' → g x (wipe σ vs) H' fun σ2 H2 => wipe σ2 vs = wipe σ vs ∧ tt σ2 H2 fun b H3 =>
      if b = true then te σ2 H3 fun y H4 => ∃ acc, H4 D = some (.lst acc) ∧ acc.length < sizeLine ∧ Pv D (i + 1) (upd H4 D (.lst (acc ++ [y]))) else Pv D (i + 1) H3)
    (hd : ∀ D H', H D = none → Pv D xs.length H' → Q (.ref D) H') :
    tLc (fun σ H R => iList K (tVar j) σ H R ∨ iTup K (tVar j) σ H R) g tt te vs σ H Q := by
  rcases hq with hq | hq
  · exact .inl ⟨_, hj, p, rfl, ⟨_, hq⟩, fun D nD => lc_list (Pv D) (h0 D nD) (fun i H' _ hp => (hsm D i H' hp).seq hq) (hs D nD) (fun H' hp => hd D H' nD hp)⟩
  · exact .inr ⟨_, hj, p, rfl, ⟨_, hq⟩, fun D nD => lc_tup (Pv D) (h0 D nD) (fun i H' _ hp => seqT_same (hsm D i H' hp) hq) (hs D nD) (fun H' hp => hd D H' nD hp)⟩
theorem forB {K : PySem.W.Frag} {j : Nat} {σ : L2.St} {p : Addr} {xs : List V} {H H0 : Hp} {g : TG} {tb : TS} {D : Ends} (hj : σ[j]? = some (some (.ref p))) (hq : Sq K H0 p xs) (h00 : Same H0 H)
    (Pv : Nat → L2.St → Hp → Prop) (h0 : Pv 0 σ H) (hsm : ∀ i σ' H', Pv i σ' H' → Same H0 H')
    (hs : ∀ i x σ H, xs[i]? = some x → Pv i σ H → g x σ H fun σ2 H2 => tb { D with nx := Pv (i + 1), ct := Pv (i + 1), bk := D.nx } σ2 H2) (hd : ∀ σ H, Pv xs.length σ H → D.nx σ H) :
    tFor (fun σ H R => iList K (tVar j) σ H R ∨ iTup K (tVar j) σ H R) g tb D σ H := by
  rcases hq with hq | hq
  · exact .inl ⟨_, hj, p, rfl, ⟨_, h00.seq hq⟩, for_list Pv h0 (fun i σ' H' _ hp => (hsm i σ' H' hp).seq hq) hs hd⟩
  · exact .inr ⟨_, hj, p, rfl, ⟨_, seqT_same h00 hq⟩, for_tup Pv h0 (fun i σ' H' _ hp => seqT_same (hsm i σ' H' hp) hq) hs hd⟩
theorem enB {K : PySem.W.Frag} {j : Nat} {σ : L2.St} {p : Addr} {xs : List V} {H H0 : Hp} {g : TG} {tb : TS} {D : Ends} (hj : σ[j]? = some (some (.ref p))) (hq : Sq K H0 p xs) (h00 : Same H0 H)
    (Pv : Nat → L2.St → Hp → Prop) (h0 : Pv 0 σ H) (hsm : ∀ i σ' H', Pv i σ' H' → Same H0 H')
    (hs : ∀ i x σ H T, xs[i]? = some x → Pv i σ H → H T = none → g (.ref T) σ (upd H T (.tup [.int (i : Nat), x])) fun σ2 H2 => tb { D with nx := Pv (i + 1), ct := Pv (i + 1), bk := D.nx } σ2 H2) (hd : ∀ σ H, Pv xs.length σ H → D.nx σ H) :
    tFor (fun σ H R => iEnum K (tCons (tVar j) tNil) σ H R ∨ Kc.iEnT K (tCons (tVar j) tNil) σ H R) g tb D σ H := by
  rcases hq with hq | hq
  · exact .inl ⟨_, hj, p, xs, rfl, h00.seq hq, Kc.for_en Pv h0 (fun i σ' H' _ hp => (hsm i σ' H' hp).seq hq) hs hd⟩
  · exact .inr ⟨_, hj, p, xs, rfl, seqT_same h00 hq, Kc.for_enT Pv h0 (fun i σ' H' _ hp => seqT_same (hsm i σ' H' hp) hq) hs hd⟩
theorem neDK {X : Cx} {K : PySem.W.Frag} (h : X.K = K) (hu : X.A.units + 64 < cLine) : OpR X (compareOp .NotEq) (rNeD K) := by subst h; exact op_neD hu
theorem eqDK {X : Cx} {K : PySem.W.Frag} (h : X.K = K) (hu : X.A.units + 64 < cLine) : OpR X (compareOp .Eq) (rEqD K) := by subst h; exact op_eqD hu
theorem lcL {K : PySem.W.Frag} {j : Nat} {σ : L2.St} {p : Addr} {xs : List V} {H : Hp} {g : TG} {tt : TT} {te : TE} {vs : List Nat} {Q : VK} (hj : σ[j]? = some (some (.ref p))) (hq : SqL K H p xs)
    (Pv : Addr → Nat → Hp → Prop) (h0 : ∀ D, H D = none → Pv D 0 (upd H D (.lst []))) (hsm : ∀ D i H', Pv D i H' → Same H H')
    (hs : ∀ D, H D = none → ∀ i x H', xs[i]? = some x → Pv D i H' → g x (wipe σ vs) H' fun σ2 H2 => wipe σ2 vs = wipe σ vs ∧ tt σ2 H2 fun b H3 =>
      if b = true then te σ2 H3 fun y H4 => ∃ acc, H4 D = some (.lst acc) ∧ acc.length < sizeLine ∧ Pv D (i + 1) (upd H4 D (.lst (acc ++ [y]))) else Pv D (i + 1) H3)
    (hd : ∀ D H', H D = none → Pv D xs.length H' → Q (.ref D) H') :
    tLc (iList K (tVar j)) g tt te vs σ H Q :=
  ⟨_, hj, p, rfl, ⟨_, hq⟩, fun D nD => lc_list (Pv D) (h0 D nD) (fun i H' _ hp => (hsm D i H' hp).seq hq) (hs D nD) (fun H' hp => hd D H' nD hp)⟩
theorem busy_non (l : List (Option Ev)) : busy (l ++ [none]) = busy l := by rw [busy_snoc, if_neg (by simp), List.append_nil]
theorem busy_idle (l : List (Option Ev)) : busy (l ++ [some (false, [])]) = busy l := by rw [busy_snoc, if_neg (by simp), List.append_nil]
theorem busy_some (l : List (Option Ev)) {e : Ev} (h : e ≠ (false, [])) : busy (l ++ [some e]) = busy l ++ [some e] := by rw [busy_snoc, if_pos (by simpa using h)]
theorem busy_le (l : List (Option Ev)) : (busy l).length ≤ l.length := List.length_filter_le _ _
theorem idle_dec (e : Ev) : (decide (e.1 = false) && decide (e.2 = [])) = decide (e = (false, [])) := dec_pair e (false, [])
theorem some_get {l : List Ev} {i : Nat} {o : Option Ev} (h : (l.map some)[i]? = some o) : ∃ e, l[i]? = some e ∧ o = some e := by
  rw [List.getElem?_map] at h
  cases z : l[i]? with
  | none => rw [z] at h; cases h
  | some e => rw [z] at h; exact ⟨e, rfl, (Option.some.inj h).symm⟩
end Mt

set_option Elab.async false
set_option linter.all false
set_option maxRecDepth 100000
/-! rows of effects: the running wholes, the steps between, narrowed -/
namespace Mt
open PySem PySem.Spec PyProof.Rows L2 Lk Kd Kx Km
def wh (k : Kd8) (l : List Ev) : Ev := l.foldl (fun a e => nrm k (mulE a e)) (false, [])
def runs (k : Kd8) (l : List Ev) : List Ev := (List.range l.length).map fun i => wh k (l.take (i + 1))
def sts (k : Kd8) (a : Ev) (l : List Ev) : List (Option Ev) := List.zipWith (fun x y => stp k (nrm k x) (nrm k y)) (a :: l) l
variable {k : Kd8} {l : List Ev} {e a : Ev} {i : Nat}
theorem wh_snoc (h : l[i]? = some e) : wh k (l.take (i + 1)) = nrm k (mulE (wh k (l.take i)) e) := by
  unfold wh
  rw [take1 h, List.foldl_append]
  rfl
theorem runs_len (k : Kd8) (l : List Ev) : (runs k l).length = l.length := by simp [runs]
theorem runs_get (h : l[i]? = some e) : (runs k l)[i]? = some (wh k (l.take (i + 1))) := by
  have := (List.getElem?_eq_some_iff.mp h).1
  simp [runs, this]
theorem runs_at (h : (runs k l)[i]? = some a) : ∃ e, l[i]? = some e ∧ a = wh k (l.take (i + 1)) := by
  have hl := (List.getElem?_eq_some_iff.mp h).1
  rw [runs_len] at hl
  refine ⟨l[i], List.getElem?_eq_getElem hl, ?_⟩
  rw [runs_get (List.getElem?_eq_getElem hl)] at h
  exact (Option.some.inj h).symm
theorem wh_nrm (k : Kd8) (l : List Ev) : Nrm k (wh k l) := by
  unfold wh
  have : ∀ (l : List Ev) (a : Ev), Nrm k a → Nrm k (l.foldl (fun a e => nrm k (mulE a e)) a) := by
    intro l
    induction l with
    | nil => exact fun a h => h
    | cons e r ih => exact fun a _ => ih _ (Nrm.of k _)
  exact this l _ ⟨pl_nil0 k, nF_idle k false⟩
theorem mulE_mem {x y : Ev} {z : Int} (h : z ∈ (mulE x y).2) : z ∈ x.2 ∨ z ∈ y.2 := by
  obtain ⟨g, b⟩ := y
  cases g with
  | true => exact .inr h
  | false => exact List.mem_append.mp h
theorem wh_mem {gs : List Int} (h : ∀ e ∈ l, ∀ z ∈ e.2, z ∈ gs) : ∀ z ∈ (wh k l).2, z ∈ gs := by
  unfold wh
  have : ∀ (l : List Ev) (a : Ev), (∀ e ∈ l, ∀ z ∈ e.2, z ∈ gs) → (∀ z ∈ a.2, z ∈ gs) → ∀ z ∈ (l.foldl (fun a e => nrm k (mulE a e)) a).2, z ∈ gs := by
    intro l
    induction l with
    | nil => exact fun a _ h => h
    | cons e r ih =>
      intro a h1 h2
      refine ih _ (fun e he => h1 e (List.mem_cons_of_mem _ he)) fun z hz => ?_
      have hz : z ∈ Km.pl k (mulE a e).2 := hz
      exact (mulE_mem (Km.mem_pl hz)).elim (h2 z) (h1 e List.mem_cons_self z)
  exact this l _ h (fun z hz => by cases hz)
theorem mulE_ln (x y : Ev) : (mulE x y).2.length ≤ x.2.length + y.2.length := by
  obtain ⟨g, b⟩ := y
  cases g with
  | true => exact Nat.le_add_left _ _
  | false => exact Nat.le_of_eq List.length_append
theorem wh_len {n : Nat} (h : ∀ e ∈ l, e.2.length ≤ n) : (wh k l).2.length ≤ l.length * (n + 1) := by
  unfold wh
  have : ∀ (l : List Ev) (a : Ev), (∀ e ∈ l, e.2.length ≤ n) → (l.foldl (fun a e => nrm k (mulE a e)) a).2.length ≤ a.2.length + l.length * (n + 1) := by
    intro l
    induction l with
    | nil => exact fun a _ => by simp
    | cons e r ih =>
      intro a h1
      refine Nat.le_trans (ih _ fun e he => h1 e (List.mem_cons_of_mem _ he)) ?_
      have h2 := h1 e List.mem_cons_self
      have h3 : (nrm k (mulE a e)).2.length ≤ (mulE a e).2.length + 1 := Km.pl_len k _
      have h4 := mulE_ln a e
      rw [List.length_cons, Nat.add_mul]
      show (nrm k (mulE a e)).2.length + r.length * (n + 1) ≤ a.2.length + (r.length * (n + 1) + 1 * (n + 1))
      omega
  have := this l (false, []) h
  simpa using this
/-- a later whole: what leads there -/
theorem wh_drop (k : Kd8) (l : List Ev) (i : Nat) : ∃ p : Ev, ∀ a : Ev, (l.drop i).foldl (fun a e => nrm k (mulE a e)) (nrm k a) = nrm k (mulE a p) := by
  generalize l.drop i = m
  induction m with
  | nil => exact ⟨(false, []), fun a => by rw [mulE_0e] <;> rfl⟩
  | cons e r ih =>
    obtain ⟨p, hp⟩ := ih
    refine ⟨mulE e p, fun a => ?_⟩
    rw [List.foldl_cons, nrm_mul, hp, mulE_assoc]
theorem wh_split (k : Kd8) (l : List Ev) (i : Nat) : wh k l = (l.drop i).foldl (fun a e => nrm k (mulE a e)) (wh k (l.take i)) := by
  unfold wh
  conv => lhs; rw [← List.take_append_drop i l]
  rw [List.foldl_append]
theorem later (k : Kd8) (l : List Ev) (i j : Nat) (h : i ≤ j) : ∃ p, Leads k (wh k (l.take i)) (wh k (l.take j)) p := by
  have e1 : wh k (l.take j) = _ := wh_split k (l.take j) i
  rw [List.take_take, Nat.min_eq_left h] at e1
  obtain ⟨p, hp⟩ := wh_drop k (l.take j) i
  have n := wh_nrm k (l.take i)
  refine ⟨nrm k p, nrm_pl k p, (Nrm.of k p).fl, ?_⟩
  rw [e1]
  have := hp (wh k (l.take i))
  rw [n.eq] at this
  rw [this, thE_eq (nrm_pl k p), nrm_mulR]
theorem sts_len (k : Kd8) (a : Ev) (l : List Ev) : (sts k a l).length = l.length := by simp [sts]
theorem sts_get {b : Ev} (h1 : (a :: l)[i]? = some b) (h2 : l[i]? = some e) : (sts k a l)[i]? = some (stp k (nrm k b) (nrm k e)) := by
  unfold sts
  rw [List.getElem?_zipWith, h1, h2]
theorem sts_take {b : Ev} (h1 : (a :: l)[i]? = some b) (h2 : l[i]? = some e) : (sts k a l).take (i + 1) = (sts k a l).take i ++ [stp k (nrm k b) (nrm k e)] := take1 (sts_get h1 h2)
theorem runs_take (h : l[i]? = some e) : (runs k l).take (i + 1) = (runs k l).take i ++ [nrm k (mulE (wh k (l.take i)) e)] := by
  rw [take1 (runs_get h), wh_snoc h]
theorem dpa_snoc0 {K : PySem.W.Frag} {H : Hp} : ∀ {xs : List V} {ds : List PyData} {v : V} {d : PyData}, DpAll K H xs ds → Dp K H v d → DpAll K H (xs ++ [v]) (ds ++ [d])
  | _, _, _, _, .nil, h => .cons h .nil
  | _, _, _, _, .cons a r, h => .cons a (dpa_snoc0 r h)
theorem effs_snoc (l : List Ev) (e : Ev) : effs (l ++ [e]) = effs l ++ [eD e.1 e.2] := by
  unfold effs
  rw [List.map_append]
  rfl
theorem effs_len (l : List Ev) : (effs l).length = l.length := by unfold effs; exact List.length_map _
section
variable {K : PySem.W.Frag} {H0 H1 H2 : Hp} {D : Addr} {ys : List V} {v : V} {o : Option Ev} {lo : List (Option Ev)}
theorem op_mut {xs zs : List V} (hL : H1 D = some (.lst xs)) (h : Dp K H1 v (opD o)) : Dp K (upd H1 D (.lst zs)) v (opD o) := by
  cases o with
  | none => have h : Dp K H1 v .none := h; cases h; exact .non
  | some e => exact ef_mut hL h
theorem ops_mut {xs zs : List V} (hL : H1 D = some (.lst xs)) : ∀ {lo : List (Option Ev)} {us : List V}, DpAll K H1 us (lo.map opD) → DpAll K (upd H1 D (.lst zs)) us (lo.map opD)
  | [], _, h => by cases h; exact .nil
  | e :: r, _, h => by
    cases h with
    | cons h1 h2 => exact .cons (op_mut hL h1) (ops_mut hL h2)
theorem fillO (nD : H0 D = none) (s : Same H0 H1) (hD : H1 D = some (.lst ys)) (hy : DpAll K H1 ys (lo.map opD)) (s2 : Same H1 H2) (hv : Dp K H2 v (opD o)) :
    Same H0 (upd H2 D (.lst (ys ++ [v]))) ∧ (upd H2 D (.lst (ys ++ [v]))) D = some (.lst (ys ++ [v])) ∧ DpAll K (upd H2 D (.lst (ys ++ [v]))) (ys ++ [v]) ((lo ++ [o]).map opD) := by
  have h2 := s2 _ _ hD
  refine ⟨same_mut (s.trans s2) nD, upd_same, ?_⟩
  rw [List.map_append]
  exact dpa_snoc (ops_mut h2 (dpa_same s2 hy)) (op_mut h2 hv)
theorem fillE {l : List Ev} {e : Ev} (nD : H0 D = none) (s : Same H0 H1) (hD : H1 D = some (.lst ys)) (hy : DpAll K H1 ys (effs l)) (s2 : Same H1 H2) (hv : Ef K H2 v e) :
    Same H0 (upd H2 D (.lst (ys ++ [v]))) ∧ (upd H2 D (.lst (ys ++ [v]))) D = some (.lst (ys ++ [v])) ∧ DpAll K (upd H2 D (.lst (ys ++ [v]))) (ys ++ [v]) (effs (l ++ [e])) := by
  rw [effs_op] at hy ⊢
  rw [List.map_append]
  exact fillO (o := some e) nD s hD hy s2 hv
theorem get_eff {xs : List V} {l : List Ev} {i : Nat} (h : DpAll K H1 xs (effs l)) (hi : xs[i]? = some v) : ∃ e, l[i]? = some e ∧ Ef K H1 v e := Mr.effs_get h hi
end
theorem on_step (k : Kd8) {x y : Ev} (px : Km.pl k x.2 = x.2) (py : Km.pl k y.2 = y.2) (ms : List Int) : onE k y.1 y.2 (onE k x.1 x.2 ms) = onE k (nrm k (mulE x y)).1 (nrm k (mulE x y)).2 ms := by
  have h := on_two k px py ms
  first | exact h | exact h.symm
section
variable {K : PySem.W.Frag} {S c p : Addr} {H H' : Hp} {xs : List V} {l : List Ev}
theorem effs_ext (hS : Stm S c H) (e : Ext S H H') : ∀ {l : List Ev} {us : List V}, DpAll K H us (effs l) → DpAll K H' us (effs l)
  | [], _, h => by cases h; exact .nil
  | a :: r, _, h => by
    cases h with
    | cons h1 h2 => exact .cons (e_ext hS e h1) (effs_ext hS e h2)
/-- a row of effects, which is not the stream -/
structure RowL (K : PySem.W.Frag) (S p : Addr) (xs : List V) (l : List Ev) (H : Hp) : Prop where
  ne : p ≠ S
  at_ : H p = some (.lst xs)
  dat : DpAll K H xs (effs l)
theorem RowL.ext (h : RowL K S p xs l H) (hS : Stm S c H) (e : Ext S H H') : RowL K S p xs l H' := ⟨h.ne, e _ _ h.ne h.at_, effs_ext hS e h.dat⟩
theorem RowL.same (h : RowL K S p xs l H) (s : Same H H') : RowL K S p xs l H' := ⟨h.ne, s _ _ h.at_, dpa_same s h.dat⟩
theorem RowL.sq (h : RowL K S p xs l H) : SqL K H p xs := SqL.of h.at_
theorem RowL.len (h : RowL K S p xs l H) : xs.length = l.length := by have := dpa_len h.dat; rwa [effs_len] at this
end
end Mt

set_option Elab.async false
set_option linter.all false
set_option maxRecDepth 100000
/-! rows of effects: the steps of a row weigh no more than any row with the same wholes -/
namespace Mt
open PySem PySem.Spec PyProof.Rows L2 Lk Kd Kx Km
variable {k : Kd8} {l m : List Ev} {e a : Ev} {i : Nat}
/-- the same wholes -/
def SameW (k : Kd8) (l m : List Ev) : Prop := m.length = l.length ∧ ∀ i, wh k (m.take i) = wh k (l.take i)
theorem SameW.of_step (hl : m.length = l.length) (h : ∀ i f, m[i]? = some f → wh k (l.take (i + 1)) = nrm k (mulE (wh k (l.take i)) f)) : SameW k l m := by
  refine ⟨hl, fun i => ?_⟩
  induction i with
  | zero => rfl
  | succ i ih =>
    by_cases c : i < m.length
    · have hm := List.getElem?_eq_getElem c
      rw [wh_snoc hm, ih, h i _ hm]
    · rw [List.take_of_length_le (by omega), List.take_of_length_le (by omega)]
      rw [List.take_of_length_le (by omega), List.take_of_length_le (by omega)] at ih
      exact ih
theorem SameW.runs (h : SameW k l m) : runs k m = runs k l := by
  unfold Mt.runs
  rw [h.1]
  exact List.map_congr_left fun i _ => h.2 (i + 1)
theorem SameW.self : SameW k l l := ⟨rfl, fun _ => rfl⟩
/-- a row with some wholes in the places of its entries -/
theorem twin_same (hl : m.length = l.length) (h : ∀ i e, l[i]? = some e → m[i]? = some e ∨ (m[i]? = some (wh k (l.take (i + 1))) ∧ (wh k (l.take (i + 1))).1 = true)) : SameW k l m := by
  refine .of_step hl fun i f hf => ?_
  have hi : i < l.length := by have := (List.getElem?_eq_some_iff.mp hf).1; omega
  have he := List.getElem?_eq_getElem hi
  rcases h i _ he with g | ⟨g, g1⟩
  · rw [hf] at g
    cases g
    exact wh_snoc he
  · rw [hf] at g
    cases g
    have : mulE (wh k (l.take i)) (wh k (l.take (i + 1))) = wh k (l.take (i + 1)) := by
      generalize wh k (l.take i) = x at *
      generalize wh k (l.take (i + 1)) = y at *
      obtain ⟨f, b⟩ := y
      have g1 : f = true := g1
      subst g1
      rfl
    rw [this, (wh_nrm k _).eq]
/-- the steps of the wholes -/
def stE (k : Kd8) (l : List Ev) : List Ev := (List.range l.length).map fun i => (stp k (wh k (l.take i)) (wh k (l.take (i + 1)))).getD (false, [])
theorem stE_len : (stE k l).length = l.length := by simp [stE]
theorem prev_runs (hi : i < l.length) : ((false, []) :: runs k l)[i]? = some (wh k (l.take i)) := by
  cases i with
  | zero => rfl
  | succ j =>
    rw [List.getElem?_cons_succ]
    exact runs_get (List.getElem?_eq_getElem (by omega))
theorem stE_part (hs : SameW k l m) (pm : ∀ e ∈ m, Km.pl k e.2 = e.2) {f : Ev} (hf : m[i]? = some f) :
    ∃ s, stp k (wh k (l.take i)) (wh k (l.take (i + 1))) = some s ∧ s.2.length ≤ f.2.length ∧ (f = (false, []) → s = (false, [])) := by
  have n1 := wh_nrm k (l.take i)
  have n2 := wh_nrm k (l.take (i + 1))
  have e : wh k (l.take (i + 1)) = nrm k (mulE (wh k (l.take i)) f) := by rw [← hs.2, ← hs.2, wh_snoc hf]
  have pf := pm f (List.mem_of_getElem? hf)
  have L : Leads k (wh k (l.take i)) (wh k (l.take (i + 1))) (nrm k f) := ⟨nrm_pl k f, (Nrm.of k f).fl, by rw [thE_eq (nrm_pl k f), nrm_mulR, e]⟩
  obtain ⟨s, h1, h2⟩ := stp_least n1 n2 L
  refine ⟨s, h1, ?_, fun ez => ?_⟩
  · rw [show (nrm k f).2 = f.2 from pf] at h2
    exact h2
  · subst ez
    rw [e, mulE_0e, n1.eq, stp_eq] at h1
    exact (Option.some.inj h1).symm
theorem stE_get (pl : ∀ e ∈ l, Km.pl k e.2 = e.2) (hi : i < l.length) : ∃ s, (stE k l)[i]? = some s ∧ stp k (wh k (l.take i)) (wh k (l.take (i + 1))) = some s := by
  obtain ⟨s, hs, _⟩ := stE_part (SameW.self (k := k) (l := l)) pl (List.getElem?_eq_getElem hi)
  refine ⟨s, ?_, hs⟩
  simp [stE, hi, hs]
theorem sts_stE (pl : ∀ e ∈ l, Km.pl k e.2 = e.2) : sts k (false, []) (runs k l) = (stE k l).map some := by
  apply List.ext_getElem?
  intro i
  by_cases hi : i < l.length
  · obtain ⟨s, h1, h2⟩ := stE_get pl hi
    rw [sts_get (prev_runs hi) (runs_get (List.getElem?_eq_getElem hi)), (wh_nrm k _).eq, (wh_nrm k _).eq, h2, List.getElem?_map, h1]
    rfl
  · rw [List.getElem?_eq_none (by rw [sts_len, runs_len]; omega), List.getElem?_eq_none (by rw [List.length_map, stE_len]; omega)]
theorem stE_same (pl : ∀ e ∈ l, Km.pl k e.2 = e.2) : SameW k l (stE k l) := by
  refine .of_step stE_len fun i f hf => ?_
  have hi : i < l.length := by have := (List.getElem?_eq_some_iff.mp hf).1; rwa [stE_len] at this
  obtain ⟨s, h1, h2⟩ := stE_get pl hi
  rw [hf] at h1
  cases h1
  have L := stp_leads (wh_nrm k _) (wh_nrm k _) h2
  rw [← L.to, thE_eq L.pl]
theorem stE_pl (pl : ∀ e ∈ l, Km.pl k e.2 = e.2) : ∀ e ∈ stE k l, Km.pl k e.2 = e.2 := fun e he => by
  obtain ⟨i, hi⟩ := List.mem_iff_getElem?.mp he
  have hl : i < l.length := by have := (List.getElem?_eq_some_iff.mp hi).1; rwa [stE_len] at this
  obtain ⟨s, h1, h2⟩ := stE_get pl hl
  rw [hi] at h1
  cases h1
  exact (stp_leads (wh_nrm k _) (wh_nrm k _) h2).pl
theorem stE_sub (pl : ∀ e ∈ l, Km.pl k e.2 = e.2) : ∀ e ∈ stE k l, ∃ i, e.2.Sublist (wh k (l.take i)).2 := fun e he => by
  obtain ⟨i, hi⟩ := List.mem_iff_getElem?.mp he
  have hl : i < l.length := by have := (List.getElem?_eq_some_iff.mp hi).1; rwa [stE_len] at this
  obtain ⟨s, h1, h2⟩ := stE_get pl hl
  rw [hi] at h1
  cases h1
  exact ⟨i + 1, stp_sub (wh_nrm k _) (wh_nrm k _) h2⟩
theorem lets_le : ∀ {a b : List Ev}, a.length = b.length → (∀ (i : Nat) (x y : Ev), a[i]? = some x → b[i]? = some y → x.2.length ≤ y.2.length) → (lets (a.map some)).sum ≤ (lets (b.map some)).sum
  | [], [], _, _ => Int.le_refl _
  | x :: a, y :: b, hl, h => by
    have h0 := h 0 x y rfl rfl
    have ih := lets_le (a := a) (b := b) (Nat.succ.inj hl) fun i u v hu hv => h (i + 1) u v hu hv
    show (x.2.length : Int) + (lets (a.map some)).sum ≤ (y.2.length : Int) + (lets (b.map some)).sum
    omega
theorem busy_cons (e : Ev) (l : List (Option Ev)) : (busy (some e :: l)).length = (if e = (false, []) then 0 else 1) + (busy l).length := by
  unfold busy
  rw [List.filter_cons]
  by_cases c : e = (false, [])
  · rw [if_pos c, c, if_neg (by simp)]
    omega
  · rw [if_neg c, if_pos (by simpa using c), List.length_cons]
    omega
theorem busy_mono : ∀ {a b : List Ev}, a.length = b.length → (∀ (i : Nat) (x y : Ev), a[i]? = some x → b[i]? = some y → y = (false, []) → x = (false, [])) → (busy (a.map some)).length ≤ (busy (b.map some)).length
  | [], [], _, _ => Nat.le_refl _
  | x :: a, y :: b, hl, h => by
    have h0 := h 0 x y rfl rfl
    have ih := busy_mono (a := a) (b := b) (Nat.succ.inj hl) fun i u v hu hv => h (i + 1) u v hu hv
    rw [List.map_cons, List.map_cons, busy_cons, busy_cons]
    by_cases c : y = (false, [])
    · rw [if_pos c, if_pos (h0 c)]; omega
    · rw [if_neg c]
      split <;> omega
theorem stE_lets (pl : ∀ e ∈ l, Km.pl k e.2 = e.2) (hs : SameW k l m) (pm : ∀ e ∈ m, Km.pl k e.2 = e.2) : (lets ((stE k l).map some)).sum ≤ (lets (m.map some)).sum := by
  refine lets_le (by rw [stE_len, hs.1]) fun i x y hx hy => ?_
  have hl : i < l.length := by have := (List.getElem?_eq_some_iff.mp hx).1; rwa [stE_len] at this
  obtain ⟨s, h1, h2⟩ := stE_get pl hl
  rw [hx] at h1
  cases h1
  obtain ⟨s, g1, g2, _⟩ := stE_part hs pm hy
  rw [h2] at g1
  cases g1
  exact g2
theorem stE_busy (pl : ∀ e ∈ l, Km.pl k e.2 = e.2) (hs : SameW k l m) (pm : ∀ e ∈ m, Km.pl k e.2 = e.2) : (busy ((stE k l).map some)).length ≤ (busy (m.map some)).length := by
  refine busy_mono (by rw [stE_len, hs.1]) fun i x y hx hy e => ?_
  have hl : i < l.length := by have := (List.getElem?_eq_some_iff.mp hx).1; rwa [stE_len] at this
  obtain ⟨s, h1, h2⟩ := stE_get pl hl
  rw [hx] at h1
  cases h1
  obtain ⟨s, g1, _, g3⟩ := stE_part hs pm hy
  rw [h2] at g1
  cases g1
  exact g3 e
theorem nodup_le : ∀ {l gs : List Int}, l.Nodup → (∀ x ∈ l, x ∈ gs) → l.length ≤ gs.length
  | [], _, _, _ => Nat.zero_le _
  | x :: r, gs, hn, h => by
    obtain ⟨h1, h2⟩ := List.nodup_cons.mp hn
    have hx := h x List.mem_cons_self
    have ih := nodup_le (l := r) (gs := gs.erase x) h2 fun y hy => by
      have : y ≠ x := fun e => h1 (e ▸ hy)
      exact (List.mem_erase_of_ne this).mpr (h y (List.mem_cons_of_mem _ hy))
    rw [List.length_erase_of_mem hx] at ih
    have := List.length_pos_of_mem hx
    rw [List.length_cons]
    omega
theorem wh_tails {gs : List Int} (h : ∀ e ∈ l, ∀ z ∈ e.2, z ∈ gs) : (wh .tails l).2.length ≤ gs.length := nodup_le (Km.tails_nodup (wh_nrm .tails l).pl) (wh_mem h)
theorem isEf_good {k : Kd8} {e : Ev} (hp : Km.pl k e.2 = e.2) (hr : ∀ z ∈ e.2, 0 ≤ z ∧ z ≤ 999999999) : (isI "bool" (.bool e.1) && isPl k (wD e.2)) = true := by
  rw [isI_bool_bool, Bool.true_and]
  unfold isPl
  have h1 : isWd isL (wD e.2) = true := by
    show (e.2.map PyData.int).all isL = true
    rw [List.all_eq_true]
    intro d hd
    obtain ⟨x, hx, rfl⟩ := List.mem_map.mp hd
    obtain ⟨a, b⟩ := hr x hx
    show (decide (0 ≤ x) && decide (x ≤ 999999999)) = true
    simp [a, b]
  have h2 : wInts (wD e.2) = e.2 := wInts_w e.2
  rw [h1, h2, hp]
  simp
theorem lay_effs : ∀ l : List Ev, PyData.canLayAll0 (effs l) = true ∧ PyData.depthAll (effs l) ≤ 4
  | [] => ⟨by rw [effs, List.map_nil, PyData.canLayAll0], by rw [effs, List.map_nil, PyData.depthAll]; omega⟩
  | e :: r => by
    obtain ⟨h1, h2⟩ := lay_effs r
    have he := shaped_e e.1 e.2
    have c := SeqAt.canLay_of_shaped he
    have d : (eD e.1 e.2).depth ≤ 4 := by
      obtain ⟨_, h4⟩ := lay_ints e.2
      unfold eD wD
      simp only [PyData.depth, PyData.depthAll, h4]
      decide
    constructor
    · show PyData.canLayAll0 (eD e.1 e.2 :: effs r) = true
      rw [PyData.canLayAll0, c, h1] <;> rfl
    · show PyData.depthAll (eD e.1 e.2 :: effs r) ≤ 4
      rw [PyData.depthAll]
      omega
theorem shaped_effs (l : List Ev) : SeqAt.shaped (.list (effs l)) = true := by
  obtain ⟨h1, h2⟩ := lay_effs l
  unfold SeqAt.shaped
  rw [PyData.canLay0, PyData.depth, h1]
  simp
  omega
end Mt

set_option Elab.async false
set_option linter.all false
set_option maxRecDepth 100000
set_option maxHeartbeats 4000000
namespace Kx
open PySem PySem.Spec PyProof.Rows L2 Lk
/-! ### the text by places -/
def top (i : Nat) : Stmt := PySem.Challenge.pw_leastshelf_k08_whole_rows_of_effects.main.body.getD i (.Pass ⟨0, 0, 0, 0⟩)
abbrev s_shown : Stmt := top 1
abbrev s_different : Stmt := top 18
abbrev s_Kind__rest_between : Stmt := inClass (top 19) 2
abbrev s_HeadsKind__rest_between : Stmt := inClass (top 19) 2
abbrev s_FirstKind__rest_between : Stmt := inClass (top 19) 2
abbrev s_BagKind__rest_between : Stmt := inClass (top 20) 2
abbrev s_SetKind__rest_between : Stmt := inClass (top 20) 2
abbrev s_TailsKind__rest_between : Stmt := inClass (top 24) 2
abbrev s_LastKind__rest_between : Stmt := inClass (top 25) 2
abbrev s_EndsKind__rest_between : Stmt := inClass (top 26) 2
abbrev s_is_letter : Stmt := top 28
abbrev s_check_kind : Stmt := top 29
abbrev s_row_letters : Stmt := top 53
abbrev s_row_count : Stmt := top 54
abbrev s__law_stream : Stmt := top 64
abbrev s__law_mixed : Stmt := top 65
abbrev s__law_plain : Stmt := top 72
abbrev s__law_normal : Stmt := top 74
abbrev s__law_is_number : Stmt := top 77
abbrev s__law_sums : Stmt := top 87
abbrev s_Kind__plain : Stmt := inClass (top 19) 1
abbrev s_BagKind__plain : Stmt := inClass (top 20) 1
abbrev s_SetKind__plain : Stmt := inClass (top 21) 1
abbrev s_HeadsKind__plain : Stmt := inClass (top 22) 1
abbrev s_FirstKind__plain : Stmt := inClass (top 23) 1
abbrev s_TailsKind__plain : Stmt := inClass (top 24) 1
abbrev s_LastKind__plain : Stmt := inClass (top 25) 1
abbrev s_EndsKind__plain : Stmt := inClass (top 26) 1
abbrev s_kind_named : Stmt := top 30
abbrev s_is_word : Stmt := top 31
abbrev s_normal : Stmt := top 43
abbrev s__law_draw : Stmt := top 66
abbrev s__law_joined : Stmt := top 73
abbrev s__law_is_word : Stmt := top 78
abbrev s__law_narrowed_row : Stmt := top 92
abbrev s_is_plain : Stmt := top 32
abbrev s_rest : Stmt := top 36
abbrev s_then : Stmt := top 44
abbrev s_effect_on : Stmt := top 45
abbrev s_narrowed_effect : Stmt := top 47
abbrev s__law_pick : Stmt := top 67
abbrev s__law_then : Stmt := top 75
abbrev s__law_on : Stmt := top 76
abbrev s__law_is_effect : Stmt := top 79
abbrev s__law_rest : Stmt := top 80
abbrev s_is_effect : Stmt := top 42
abbrev s_step : Stmt := top 49
abbrev s__law_kind : Stmt := top 68
abbrev s__law_letters : Stmt := top 69
abbrev s__law_raw : Stmt := top 70
abbrev s__law_step : Stmt := top 81
abbrev s__law_running : Stmt := top 83
abbrev s__law_same_row : Stmt := top 86
abbrev s__law_states : Stmt := top 90
abbrev s__law_lower_kind : Stmt := top 91
abbrev s_under : Stmt := top 38
abbrev s_check_effects : Stmt := top 50
abbrev s_swallowed : Stmt := top 58
abbrev s_twice_at_once : Stmt := top 60
abbrev s_twice_later : Stmt := top 61
abbrev s_twice_earlier : Stmt := top 62
abbrev s__law_near : Stmt := top 71
abbrev s__law_twin_row : Stmt := top 84
abbrev s__law_steps : Stmt := top 85
abbrev s__law_later : Stmt := top 89
abbrev s_plain_word : Stmt := top 34
abbrev s_joined : Stmt := top 35
abbrev s_fresh_word : Stmt := top 37
abbrev s_parted_words : Stmt := top 39
abbrev s_parting_state : Stmt := top 46
abbrev s_running : Stmt := top 51
abbrev s_steps_between : Stmt := top 52
abbrev s_parting_word : Stmt := top 59
abbrev s__law_row : Stmt := top 82
abbrev s_change_places : Stmt := top 56
abbrev s_parting_swap : Stmt := top 57
abbrev s__law_along : Stmt := top 88
abbrev s__law_refused_row : Stmt := top 93
abbrev s__law_word_door : Stmt := top 94
abbrev s__law_effect_door : Stmt := top 95
abbrev s__law_refused_kind : Stmt := top 96
abbrev s__law_refusals : Stmt := top 97
abbrev s_law : Stmt := top 98
abbrev si_NameFault : Stmt := inClass (top 3) 0
abbrev si_PlaceFault : Stmt := inClass (top 4) 0
theorem sc_shown : FnScope ["value"] ["value"] (defScope s_shown) := ⟨rfl, rfl, rfl, by decide +kernel, rfl, by decide +kernel, by decide +kernel⟩
theorem sc_different : FnScope ["letters", "seen", "out", "letter"] ["letters"] (defScope s_different) := ⟨rfl, rfl, rfl, by decide +kernel, rfl, by decide +kernel, by decide +kernel⟩
theorem sc_Kind__rest_between : FnScope ["self", "one", "other"] ["self", "one", "other"] (defScope s_Kind__rest_between) := ⟨rfl, rfl, rfl, by decide +kernel, rfl, by decide +kernel, by decide +kernel⟩
theorem sc_HeadsKind__rest_between : FnScope ["self", "one", "other"] ["self", "one", "other"] (defScope s_HeadsKind__rest_between) := ⟨rfl, rfl, rfl, by decide +kernel, rfl, by decide +kernel, by decide +kernel⟩
theorem sc_FirstKind__rest_between : FnScope ["self", "one", "other"] ["self", "one", "other"] (defScope s_FirstKind__rest_between) := ⟨rfl, rfl, rfl, by decide +kernel, rfl, by decide +kernel, by decide +kernel⟩
theorem sc_BagKind__rest_between : FnScope ["self", "one", "other", "spare", "letter", "_"] ["self", "one", "other"] (defScope s_BagKind__rest_between) := ⟨rfl, rfl, rfl, by decide +kernel, rfl, by decide +kernel, by decide +kernel⟩
theorem sc_SetKind__rest_between : FnScope ["self", "one", "other", "spare", "letter", "_"] ["self", "one", "other"] (defScope s_SetKind__rest_between) := ⟨rfl, rfl, rfl, by decide +kernel, rfl, by decide +kernel, by decide +kernel⟩
theorem sc_TailsKind__rest_between : FnScope ["self", "one", "other", "places", "place", "letter", "kept", "before"] ["self", "one", "other"] (defScope s_TailsKind__rest_between) := ⟨rfl, rfl, rfl, by decide +kernel, rfl, by decide +kernel, by decide +kernel⟩
theorem sc_LastKind__rest_between : FnScope ["self", "one", "other"] ["self", "one", "other"] (defScope s_LastKind__rest_between) := ⟨rfl, rfl, rfl, by decide +kernel, rfl, by decide +kernel, by decide +kernel⟩
theorem sc_EndsKind__rest_between : FnScope ["self", "one", "other"] ["self", "one", "other"] (defScope s_EndsKind__rest_between) := ⟨rfl, rfl, rfl, by decide +kernel, rfl, by decide +kernel, by decide +kernel⟩
theorem sc_is_letter : FnScope ["thing"] ["thing"] (defScope s_is_letter) := ⟨rfl, rfl, rfl, by decide +kernel, rfl, by decide +kernel, by decide +kernel⟩
theorem sc_check_kind : FnScope ["name"] ["name"] (defScope s_check_kind) := ⟨rfl, rfl, rfl, by decide +kernel, rfl, by decide +kernel, by decide +kernel⟩
theorem sc_row_letters : FnScope ["row", "effect"] ["row"] (defScope s_row_letters) := ⟨rfl, rfl, rfl, by decide +kernel, rfl, by decide +kernel, by decide +kernel⟩
theorem sc_row_count : FnScope ["row", "effect"] ["row"] (defScope s_row_count) := ⟨rfl, rfl, rfl, by decide +kernel, rfl, by decide +kernel, by decide +kernel⟩
theorem sc__law_stream : FnScope ["_law_script", "_law_cell"] ["_law_script"] (defScope s__law_stream) := ⟨rfl, rfl, rfl, by decide +kernel, rfl, by decide +kernel, by decide +kernel⟩
theorem sc__law_mixed : FnScope ["_law_cell", "_law_place", "_law_one"] ["_law_cell", "_law_place"] (defScope s__law_mixed) := ⟨rfl, rfl, rfl, by decide +kernel, rfl, by decide +kernel, by decide +kernel⟩
theorem sc__law_plain : FnScope ["_law_kind_here", "_law_word", "_law_row_here", "_law_k"] ["_law_kind_here", "_law_word"] (defScope s__law_plain) := ⟨rfl, rfl, rfl, by decide +kernel, rfl, by decide +kernel, by decide +kernel⟩
theorem sc__law_normal : FnScope ["_law_kind_here", "_law_effect"] ["_law_kind_here", "_law_effect"] (defScope s__law_normal) := ⟨rfl, rfl, rfl, by decide +kernel, rfl, by decide +kernel, by decide +kernel⟩
theorem sc__law_is_number : FnScope ["_law_thing"] ["_law_thing"] (defScope s__law_is_number) := ⟨rfl, rfl, rfl, by decide +kernel, rfl, by decide +kernel, by decide +kernel⟩
theorem sc__law_sums : FnScope ["_law_row_here", "_law_effect"] ["_law_row_here"] (defScope s__law_sums) := ⟨rfl, rfl, rfl, by decide +kernel, rfl, by decide +kernel, by decide +kernel⟩
theorem sc_Kind__plain : FnScope ["self", "word"] ["self", "word"] (defScope s_Kind__plain) := ⟨rfl, rfl, rfl, by decide +kernel, rfl, by decide +kernel, by decide +kernel⟩
theorem sc_BagKind__plain : FnScope ["self", "word"] ["self", "word"] (defScope s_BagKind__plain) := ⟨rfl, rfl, rfl, by decide +kernel, rfl, by decide +kernel, by decide +kernel⟩
theorem sc_SetKind__plain : FnScope ["self", "word"] ["self", "word"] (defScope s_SetKind__plain) := ⟨rfl, rfl, rfl, by decide +kernel, rfl, by decide +kernel, by decide +kernel⟩
theorem sc_HeadsKind__plain : FnScope ["self", "word"] ["self", "word"] (defScope s_HeadsKind__plain) := ⟨rfl, rfl, rfl, by decide +kernel, rfl, by decide +kernel, by decide +kernel⟩
theorem sc_FirstKind__plain : FnScope ["self", "word"] ["self", "word"] (defScope s_FirstKind__plain) := ⟨rfl, rfl, rfl, by decide +kernel, rfl, by decide +kernel, by decide +kernel⟩
theorem sc_TailsKind__plain : FnScope ["self", "word"] ["self", "word"] (defScope s_TailsKind__plain) := ⟨rfl, rfl, rfl, by decide +kernel, rfl, by decide +kernel, by decide +kernel⟩
theorem sc_LastKind__plain : FnScope ["self", "word"] ["self", "word"] (defScope s_LastKind__plain) := ⟨rfl, rfl, rfl, by decide +kernel, rfl, by decide +kernel, by decide +kernel⟩
theorem sc_EndsKind__plain : FnScope ["self", "word"] ["self", "word"] (defScope s_EndsKind__plain) := ⟨rfl, rfl, rfl, by decide +kernel, rfl, by decide +kernel, by decide +kernel⟩
theorem sc_kind_named : FnScope ["name"] ["name"] (defScope s_kind_named) := ⟨rfl, rfl, rfl, by decide +kernel, rfl, by decide +kernel, by decide +kernel⟩
theorem sc_is_word : FnScope ["thing", "letter"] ["thing"] (defScope s_is_word) := ⟨rfl, rfl, rfl, by decide +kernel, rfl, by decide +kernel, by decide +kernel⟩
theorem sc_normal : FnScope ["kind", "effect", "clear", "word"] ["kind", "effect"] (defScope s_normal) := ⟨rfl, rfl, rfl, by decide +kernel, rfl, by decide +kernel, by decide +kernel⟩
theorem sc__law_draw : FnScope ["_law_stream_here", "_law_many", "_law_cell", "_law_value"] ["_law_stream_here", "_law_many"] (defScope s__law_draw) := ⟨rfl, rfl, rfl, by decide +kernel, rfl, by decide +kernel, by decide +kernel⟩
theorem sc__law_joined : FnScope ["_law_kind_here", "_law_left", "_law_right"] ["_law_kind_here", "_law_left", "_law_right"] (defScope s__law_joined) := ⟨rfl, rfl, rfl, by decide +kernel, rfl, by decide +kernel, by decide +kernel⟩
theorem sc__law_is_word : FnScope ["_law_thing", "_law_letter"] ["_law_thing"] (defScope s__law_is_word) := ⟨rfl, rfl, rfl, by decide +kernel, rfl, by decide +kernel, by decide +kernel⟩
theorem sc__law_narrowed_row : FnScope ["_law_narrow", "_law_wide", "_law_row_here", "_law_lower", "_law_effect", "_law_first"] ["_law_narrow", "_law_wide", "_law_row_here"] (defScope s__law_narrowed_row) := ⟨rfl, rfl, rfl, by decide +kernel, rfl, by decide +kernel, by decide +kernel⟩
theorem sc_is_plain : FnScope ["kind", "thing", "maker"] ["kind", "thing"] (defScope s_is_plain) := ⟨rfl, rfl, rfl, by decide +kernel, rfl, by decide +kernel, by decide +kernel⟩
theorem sc_rest : FnScope ["kind", "one", "other"] ["kind", "one", "other"] (defScope s_rest) := ⟨rfl, rfl, rfl, by decide +kernel, rfl, by decide +kernel, by decide +kernel⟩
theorem sc_then : FnScope ["kind", "effects", "maker", "clear", "letters", "clears", "word"] ["kind", "effects"] (defScope s_then) := ⟨rfl, rfl, rfl, by decide +kernel, rfl, by decide +kernel, by decide +kernel⟩
theorem sc_effect_on : FnScope ["kind", "effect", "state", "maker", "clear", "word"] ["kind", "effect", "state"] (defScope s_effect_on) := ⟨rfl, rfl, rfl, by decide +kernel, rfl, by decide +kernel, by decide +kernel⟩
theorem sc_narrowed_effect : FnScope ["kind", "effect", "maker", "clear", "word"] ["kind", "effect"] (defScope s_narrowed_effect) := ⟨rfl, rfl, rfl, by decide +kernel, rfl, by decide +kernel, by decide +kernel⟩
theorem sc__law_pick : FnScope ["_law_stream_here", "_law_many"] ["_law_stream_here", "_law_many"] (defScope s__law_pick) := ⟨rfl, rfl, rfl, by decide +kernel, rfl, by decide +kernel, by decide +kernel⟩
theorem sc__law_then : FnScope ["_law_kind_here", "_law_first", "_law_second"] ["_law_kind_here", "_law_first", "_law_second"] (defScope s__law_then) := ⟨rfl, rfl, rfl, by decide +kernel, rfl, by decide +kernel, by decide +kernel⟩
theorem sc__law_on : FnScope ["_law_kind_here", "_law_effect", "_law_state"] ["_law_kind_here", "_law_effect", "_law_state"] (defScope s__law_on) := ⟨rfl, rfl, rfl, by decide +kernel, rfl, by decide +kernel, by decide +kernel⟩
theorem sc__law_is_effect : FnScope ["_law_thing"] ["_law_thing"] (defScope s__law_is_effect) := ⟨rfl, rfl, rfl, by decide +kernel, rfl, by decide +kernel, by decide +kernel⟩
theorem sc__law_rest : FnScope ["_law_kind_here", "_law_one", "_law_other", "_law_row_here", "_law_letter", "_law_size", "_law_word"] ["_law_kind_here", "_law_one", "_law_other"] (defScope s__law_rest) := ⟨rfl, rfl, rfl, by decide +kernel, rfl, by decide +kernel, by decide +kernel⟩
theorem sc_is_effect : FnScope ["kind", "thing"] ["kind", "thing"] (defScope s_is_effect) := ⟨rfl, rfl, rfl, by decide +kernel, rfl, by decide +kernel, by decide +kernel⟩
theorem sc_step : FnScope ["kind", "one", "other", "first", "last", "behind"] ["kind", "one", "other"] (defScope s_step) := ⟨rfl, rfl, rfl, by decide +kernel, rfl, by decide +kernel, by decide +kernel⟩
theorem sc__law_kind : FnScope ["_law_stream_here"] ["_law_stream_here"] (defScope s__law_kind) := ⟨rfl, rfl, rfl, by decide +kernel, rfl, by decide +kernel, by decide +kernel⟩
theorem sc__law_letters : FnScope ["_law_stream_here", "_law_many", "_law_wide", "_law_letters_here", "_law_k", "_law_letter"] ["_law_stream_here"] (defScope s__law_letters) := ⟨rfl, rfl, rfl, by decide +kernel, rfl, by decide +kernel, by decide +kernel⟩
theorem sc__law_raw : FnScope ["_law_stream_here", "_law_letters_here", "_law_size", "_law_k"] ["_law_stream_here", "_law_letters_here"] (defScope s__law_raw) := ⟨rfl, rfl, rfl, by decide +kernel, rfl, by decide +kernel, by decide +kernel⟩
theorem sc__law_step : FnScope ["_law_kind_here", "_law_first", "_law_second", "_law_word"] ["_law_kind_here", "_law_first", "_law_second"] (defScope s__law_step) := ⟨rfl, rfl, rfl, by decide +kernel, rfl, by decide +kernel, by decide +kernel⟩
theorem sc__law_running : FnScope ["_law_kind_here", "_law_row_here", "_law_whole", "_law_due", "_law_effect"] ["_law_kind_here", "_law_row_here"] (defScope s__law_running) := ⟨rfl, rfl, rfl, by decide +kernel, rfl, by decide +kernel, by decide +kernel⟩
theorem sc__law_same_row : FnScope ["_law_told", "_law_due", "_law_k"] ["_law_told", "_law_due"] (defScope s__law_same_row) := ⟨rfl, rfl, rfl, by decide +kernel, rfl, by decide +kernel, by decide +kernel⟩
theorem sc__law_states : FnScope ["_law_kind_here", "_law_row_here", "_law_due", "_law_state", "_law_now", "_law_plain_here", "_law_k"] ["_law_kind_here", "_law_row_here", "_law_due", "_law_state"] (defScope s__law_states) := ⟨rfl, rfl, rfl, by decide +kernel, rfl, by decide +kernel, by decide +kernel⟩
theorem sc__law_lower_kind : FnScope ["_law_stream_here", "_law_wide", "_law_below"] ["_law_stream_here", "_law_wide"] (defScope s__law_lower_kind) := ⟨rfl, rfl, rfl, by decide +kernel, rfl, by decide +kernel, by decide +kernel⟩
theorem sc_under : FnScope ["one", "other"] ["one", "other"] (defScope s_under) := ⟨rfl, rfl, rfl, by decide +kernel, rfl, by decide +kernel, by decide +kernel⟩
theorem sc_check_effects : FnScope ["kind", "row", "place", "thing"] ["kind", "row"] (defScope s_check_effects) := ⟨rfl, rfl, rfl, by decide +kernel, rfl, by decide +kernel, by decide +kernel⟩
theorem sc_swallowed : FnScope ["kind", "small", "large"] ["kind", "small", "large"] (defScope s_swallowed) := ⟨rfl, rfl, rfl, by decide +kernel, rfl, by decide +kernel, by decide +kernel⟩
theorem sc_twice_at_once : FnScope ["kind", "word"] ["kind", "word"] (defScope s_twice_at_once) := ⟨rfl, rfl, rfl, by decide +kernel, rfl, by decide +kernel, by decide +kernel⟩
theorem sc_twice_later : FnScope ["kind", "word"] ["kind", "word"] (defScope s_twice_later) := ⟨rfl, rfl, rfl, by decide +kernel, rfl, by decide +kernel, by decide +kernel⟩
theorem sc_twice_earlier : FnScope ["kind", "word"] ["kind", "word"] (defScope s_twice_earlier) := ⟨rfl, rfl, rfl, by decide +kernel, rfl, by decide +kernel, by decide +kernel⟩
theorem sc__law_near : FnScope ["_law_stream_here", "_law_letters_here", "_law_word", "_law_way", "_law_other", "_law_at"] ["_law_stream_here", "_law_letters_here", "_law_word"] (defScope s__law_near) := ⟨rfl, rfl, rfl, by decide +kernel, rfl, by decide +kernel, by decide +kernel⟩
theorem sc__law_twin_row : FnScope ["_law_stream_here", "_law_kind_here", "_law_row_here", "_law_due", "_law_twin", "_law_k", "_law_effect"] ["_law_stream_here", "_law_kind_here", "_law_row_here"] (defScope s__law_twin_row) := ⟨rfl, rfl, rfl, by decide +kernel, rfl, by decide +kernel, by decide +kernel⟩
theorem sc__law_steps : FnScope ["_law_kind_here", "_law_begin", "_law_row_here", "_law_before", "_law_due", "_law_effect", "_law_behind"] ["_law_kind_here", "_law_begin", "_law_row_here"] (defScope s__law_steps) := ⟨rfl, rfl, rfl, by decide +kernel, rfl, by decide +kernel, by decide +kernel⟩
theorem sc__law_later : FnScope ["_law_kind_here", "_law_due", "_law_k", "_law_m", "_law_told"] ["_law_kind_here", "_law_due"] (defScope s__law_later) := ⟨rfl, rfl, rfl, by decide +kernel, rfl, by decide +kernel, by decide +kernel⟩
theorem sc_plain_word : FnScope ["kind", "word", "maker"] ["kind", "word"] (defScope s_plain_word) := ⟨rfl, rfl, rfl, by decide +kernel, rfl, by decide +kernel, by decide +kernel⟩
theorem sc_joined : FnScope ["kind", "words", "maker", "word", "letter"] ["kind", "words"] (defScope s_joined) := ⟨rfl, rfl, rfl, by decide +kernel, rfl, by decide +kernel, by decide +kernel⟩
theorem sc_fresh_word : FnScope ["kind", "words", "maker", "used", "word", "letter", "fresh"] ["kind", "words"] (defScope s_fresh_word) := ⟨rfl, rfl, rfl, by decide +kernel, rfl, by decide +kernel, by decide +kernel⟩
theorem sc_parted_words : FnScope ["one", "other", "fine", "coarse", "left", "right"] ["one", "other"] (defScope s_parted_words) := ⟨rfl, rfl, rfl, by decide +kernel, rfl, by decide +kernel, by decide +kernel⟩
theorem sc_parting_state : FnScope ["kind", "one", "other", "left", "right"] ["kind", "one", "other"] (defScope s_parting_state) := ⟨rfl, rfl, rfl, by decide +kernel, rfl, by decide +kernel, by decide +kernel⟩
theorem sc_running : FnScope ["kind", "row", "out", "so_far", "effect"] ["kind", "row"] (defScope s_running) := ⟨rfl, rfl, rfl, by decide +kernel, rfl, by decide +kernel, by decide +kernel⟩
theorem sc_steps_between : FnScope ["kind", "row", "start", "out", "before", "effect"] ["kind", "row", "start"] (defScope s_steps_between) := ⟨rfl, rfl, rfl, by decide +kernel, rfl, by decide +kernel, by decide +kernel⟩
theorem sc_parting_word : FnScope ["kind", "small", "large"] ["kind", "small", "large"] (defScope s_parting_word) := ⟨rfl, rfl, rfl, by decide +kernel, rfl, by decide +kernel, by decide +kernel⟩
theorem sc__law_row : FnScope ["_law_stream_here", "_law_kind_here", "_law_letters_here", "_law_row_here", "_law_word", "_law_k", "_law_flag"] ["_law_stream_here", "_law_kind_here", "_law_letters_here"] (defScope s__law_row) := ⟨rfl, rfl, rfl, by decide +kernel, rfl, by decide +kernel, by decide +kernel⟩
theorem sc_change_places : FnScope ["kind", "one", "other"] ["kind", "one", "other"] (defScope s_change_places) := ⟨rfl, rfl, rfl, by decide +kernel, rfl, by decide +kernel, by decide +kernel⟩
theorem sc_parting_swap : FnScope ["kind", "one", "other"] ["kind", "one", "other"] (defScope s_parting_swap) := ⟨rfl, rfl, rfl, by decide +kernel, rfl, by decide +kernel, by decide +kernel⟩
theorem sc__law_along : FnScope ["_law_kind_here", "_law_row_here", "_law_twin", "_law_due", "_law_kept", "_law_told", "_law_other", "_law_sums_here"] ["_law_kind_here", "_law_row_here", "_law_twin"] (defScope s__law_along) := ⟨rfl, rfl, rfl, by decide +kernel, rfl, by decide +kernel, by decide +kernel⟩
theorem sc__law_refused_row : FnScope ["_law_kind_here", "_law_row_here", "_law_way", "_law_told", "e", "_law_others"] ["_law_kind_here", "_law_row_here", "_law_way"] (defScope s__law_refused_row) := ⟨rfl, rfl, rfl, by decide +kernel, rfl, by decide +kernel, by decide +kernel⟩
theorem sc__law_word_door : FnScope ["_law_at", "_law_name", "_law_word"] ["_law_at", "_law_name", "_law_word"] (defScope s__law_word_door) := ⟨rfl, rfl, rfl, by decide +kernel, rfl, by decide +kernel, by decide +kernel⟩
theorem sc__law_effect_door : FnScope ["_law_at", "_law_name", "_law_word", "_law_effect"] ["_law_at", "_law_name", "_law_word", "_law_effect"] (defScope s__law_effect_door) := ⟨rfl, rfl, rfl, by decide +kernel, rfl, by decide +kernel, by decide +kernel⟩
theorem sc__law_refused_kind : FnScope ["_law_at", "_law_name", "_law_word", "_law_effect", "_law_told", "e"] ["_law_at", "_law_name", "_law_word", "_law_effect"] (defScope s__law_refused_kind) := ⟨rfl, rfl, rfl, by decide +kernel, rfl, by decide +kernel, by decide +kernel⟩
theorem sc__law_refusals : FnScope ["_law_stream_here", "_law_kind_here", "_law_row_here", "_law_odd", "_law_bad", "_law_place", "_law_spoilt", "_law_way", "_law_tail", "_law_at", "_law_name", "_law_word", "_law_effect"] ["_law_stream_here", "_law_kind_here", "_law_row_here"] (defScope s__law_refusals) := ⟨rfl, rfl, rfl, by decide +kernel, rfl, by decide +kernel, by decide +kernel⟩
theorem sc_law : FnScope ["_law_script", "_law_stream_here", "_law_kind_here", "_law_letters_here", "_law_row_here", "_law_twin", "_law_begin", "_law_state", "_law_narrow", "_law_due", "_law_handed", "_law_lower", "_law_effect"] ["_law_script"] (defScope s_law) := ⟨rfl, rfl, rfl, by decide +kernel, rfl, by decide +kernel, by decide +kernel⟩
theorem sci_NameFault : NdefX.NScope ["self", "name", "__class__"] ["self", "name"] ["__class__"] (defScope si_NameFault) := NdefX.nscope_by (by decide +kernel)
theorem sci_PlaceFault : NdefX.NScope ["self", "place", "__class__"] ["self", "place"] ["__class__"] (defScope si_PlaceFault) := NdefX.nscope_by (by decide +kernel)
/-! ### the addresses and what the top has written -/
structure Ad where
  f_shown : Addr
  fd_shown : FuncData
  f_different : Addr
  fd_different : FuncData
  f_Kind__rest_between : Addr
  fd_Kind__rest_between : FuncData
  f_HeadsKind__rest_between : Addr
  fd_HeadsKind__rest_between : FuncData
  f_FirstKind__rest_between : Addr
  fd_FirstKind__rest_between : FuncData
  f_BagKind__rest_between : Addr
  fd_BagKind__rest_between : FuncData
  f_SetKind__rest_between : Addr
  fd_SetKind__rest_between : FuncData
  f_TailsKind__rest_between : Addr
  fd_TailsKind__rest_between : FuncData
  f_LastKind__rest_between : Addr
  fd_LastKind__rest_between : FuncData
  f_EndsKind__rest_between : Addr
  fd_EndsKind__rest_between : FuncData
  f_is_letter : Addr
  fd_is_letter : FuncData
  f_check_kind : Addr
  fd_check_kind : FuncData
  f_row_letters : Addr
  fd_row_letters : FuncData
  f_row_count : Addr
  fd_row_count : FuncData
  f__law_stream : Addr
  fd__law_stream : FuncData
  f__law_mixed : Addr
  fd__law_mixed : FuncData
  f__law_plain : Addr
  fd__law_plain : FuncData
  f__law_normal : Addr
  fd__law_normal : FuncData
  f__law_is_number : Addr
  fd__law_is_number : FuncData
  f__law_sums : Addr
  fd__law_sums : FuncData
  f_Kind__plain : Addr
  fd_Kind__plain : FuncData
  f_BagKind__plain : Addr
  fd_BagKind__plain : FuncData
  f_SetKind__plain : Addr
  fd_SetKind__plain : FuncData
  f_HeadsKind__plain : Addr
  fd_HeadsKind__plain : FuncData
  f_FirstKind__plain : Addr
  fd_FirstKind__plain : FuncData
  f_TailsKind__plain : Addr
  fd_TailsKind__plain : FuncData
  f_LastKind__plain : Addr
  fd_LastKind__plain : FuncData
  f_EndsKind__plain : Addr
  fd_EndsKind__plain : FuncData
  f_kind_named : Addr
  fd_kind_named : FuncData
  f_is_word : Addr
  fd_is_word : FuncData
  f_normal : Addr
  fd_normal : FuncData
  f__law_draw : Addr
  fd__law_draw : FuncData
  f__law_joined : Addr
  fd__law_joined : FuncData
  f__law_is_word : Addr
  fd__law_is_word : FuncData
  f__law_narrowed_row : Addr
  fd__law_narrowed_row : FuncData
  f_is_plain : Addr
  fd_is_plain : FuncData
  f_rest : Addr
  fd_rest : FuncData
  f_then : Addr
  fd_then : FuncData
  f_effect_on : Addr
  fd_effect_on : FuncData
  f_narrowed_effect : Addr
  fd_narrowed_effect : FuncData
  f__law_pick : Addr
  fd__law_pick : FuncData
  f__law_then : Addr
  fd__law_then : FuncData
  f__law_on : Addr
  fd__law_on : FuncData
  f__law_is_effect : Addr
  fd__law_is_effect : FuncData
  f__law_rest : Addr
  fd__law_rest : FuncData
  f_is_effect : Addr
  fd_is_effect : FuncData
  f_step : Addr
  fd_step : FuncData
  f__law_kind : Addr
  fd__law_kind : FuncData
  f__law_letters : Addr
  fd__law_letters : FuncData
  f__law_raw : Addr
  fd__law_raw : FuncData
  f__law_step : Addr
  fd__law_step : FuncData
  f__law_running : Addr
  fd__law_running : FuncData
  f__law_same_row : Addr
  fd__law_same_row : FuncData
  f__law_states : Addr
  fd__law_states : FuncData
  f__law_lower_kind : Addr
  fd__law_lower_kind : FuncData
  f_under : Addr
  fd_under : FuncData
  f_check_effects : Addr
  fd_check_effects : FuncData
  f_swallowed : Addr
  fd_swallowed : FuncData
  f_twice_at_once : Addr
  fd_twice_at_once : FuncData
  f_twice_later : Addr
  fd_twice_later : FuncData
  f_twice_earlier : Addr
  fd_twice_earlier : FuncData
  f__law_near : Addr
  fd__law_near : FuncData
  f__law_twin_row : Addr
  fd__law_twin_row : FuncData
  f__law_steps : Addr
  fd__law_steps : FuncData
  f__law_later : Addr
  fd__law_later : FuncData
  f_plain_word : Addr
  fd_plain_word : FuncData
  f_joined : Addr
  fd_joined : FuncData
  f_fresh_word : Addr
  fd_fresh_word : FuncData
  f_parted_words : Addr
  fd_parted_words : FuncData
  f_parting_state : Addr
  fd_parting_state : FuncData
  f_running : Addr
  fd_running : FuncData
  f_steps_between : Addr
  fd_steps_between : FuncData
  f_parting_word : Addr
  fd_parting_word : FuncData
  f__law_row : Addr
  fd__law_row : FuncData
  f_change_places : Addr
  fd_change_places : FuncData
  f_parting_swap : Addr
  fd_parting_swap : FuncData
  f__law_along : Addr
  fd__law_along : FuncData
  f__law_refused_row : Addr
  fd__law_refused_row : FuncData
  f__law_word_door : Addr
  fd__law_word_door : FuncData
  f__law_effect_door : Addr
  fd__law_effect_door : FuncData
  f__law_refused_kind : Addr
  fd__law_refused_kind : FuncData
  f__law_refusals : Addr
  fd__law_refusals : FuncData
  f_law : Addr
  fd_law : FuncData
  c_StoreError : Addr
  c_NameFault : Addr
  c_PlaceFault : Addr
  c_BadKind : Addr
  c_BadName : Addr
  c_BadWord : Addr
  c_BadEffect : Addr
  c_BadStretch : Addr
  c_BadField : Addr
  c_BadBatch : Addr
  c_Kind : Addr
  c_BagKind : Addr
  c_SetKind : Addr
  c_HeadsKind : Addr
  c_FirstKind : Addr
  c_TailsKind : Addr
  c_LastKind : Addr
  c_EndsKind : Addr
  k_KIND_NAMES : Addr
  k_IDLE : Addr
  i_NameFault : Addr
  fdi_NameFault : FuncData
  i_PlaceFault : Addr
  fdi_PlaceFault : FuncData
structure Txt (P : Program) (K : PySem.W.Frag) (mg : Str → Option Value) (A' : Ad) : Prop where
  F_shown : Hk.Fn K "shown" s_shown [] A'.f_shown A'.fd_shown
  g_shown : mg "shown" = some (.ref A'.f_shown)
  b_shown : Binds K A'.fd_shown ["value"] []
  F_different : Hk.Fn K "different" s_different [] A'.f_different A'.fd_different
  g_different : mg "different" = some (.ref A'.f_different)
  b_different : Binds K A'.fd_different ["letters"] []
  F_Kind__rest_between : Hk.FnM K "rest_between" "Kind.rest_between" s_Kind__rest_between [] A'.f_Kind__rest_between A'.fd_Kind__rest_between
  me_Kind__rest_between : Meth K A'.c_Kind "rest_between" A'.f_Kind__rest_between
  b_Kind__rest_between : Binds K A'.fd_Kind__rest_between ["self", "one", "other"] []
  F_HeadsKind__rest_between : Hk.FnM K "rest_between" "Kind.rest_between" s_HeadsKind__rest_between [] A'.f_HeadsKind__rest_between A'.fd_HeadsKind__rest_between
  me_HeadsKind__rest_between : Meth K A'.c_HeadsKind "rest_between" A'.f_HeadsKind__rest_between
  b_HeadsKind__rest_between : Binds K A'.fd_HeadsKind__rest_between ["self", "one", "other"] []
  F_FirstKind__rest_between : Hk.FnM K "rest_between" "Kind.rest_between" s_FirstKind__rest_between [] A'.f_FirstKind__rest_between A'.fd_FirstKind__rest_between
  me_FirstKind__rest_between : Meth K A'.c_FirstKind "rest_between" A'.f_FirstKind__rest_between
  b_FirstKind__rest_between : Binds K A'.fd_FirstKind__rest_between ["self", "one", "other"] []
  F_BagKind__rest_between : Hk.FnM K "rest_between" "BagKind.rest_between" s_BagKind__rest_between [] A'.f_BagKind__rest_between A'.fd_BagKind__rest_between
  me_BagKind__rest_between : Meth K A'.c_BagKind "rest_between" A'.f_BagKind__rest_between
  b_BagKind__rest_between : Binds K A'.fd_BagKind__rest_between ["self", "one", "other"] []
  F_SetKind__rest_between : Hk.FnM K "rest_between" "BagKind.rest_between" s_SetKind__rest_between [] A'.f_SetKind__rest_between A'.fd_SetKind__rest_between
  me_SetKind__rest_between : Meth K A'.c_SetKind "rest_between" A'.f_SetKind__rest_between
  b_SetKind__rest_between : Binds K A'.fd_SetKind__rest_between ["self", "one", "other"] []
  F_TailsKind__rest_between : Hk.FnM K "rest_between" "TailsKind.rest_between" s_TailsKind__rest_between [] A'.f_TailsKind__rest_between A'.fd_TailsKind__rest_between
  me_TailsKind__rest_between : Meth K A'.c_TailsKind "rest_between" A'.f_TailsKind__rest_between
  b_TailsKind__rest_between : Binds K A'.fd_TailsKind__rest_between ["self", "one", "other"] []
  F_LastKind__rest_between : Hk.FnM K "rest_between" "LastKind.rest_between" s_LastKind__rest_between [] A'.f_LastKind__rest_between A'.fd_LastKind__rest_between
  me_LastKind__rest_between : Meth K A'.c_LastKind "rest_between" A'.f_LastKind__rest_between
  b_LastKind__rest_between : Binds K A'.fd_LastKind__rest_between ["self", "one", "other"] []
  F_EndsKind__rest_between : Hk.FnM K "rest_between" "EndsKind.rest_between" s_EndsKind__rest_between [] A'.f_EndsKind__rest_between A'.fd_EndsKind__rest_between
  me_EndsKind__rest_between : Meth K A'.c_EndsKind "rest_between" A'.f_EndsKind__rest_between
  b_EndsKind__rest_between : Binds K A'.fd_EndsKind__rest_between ["self", "one", "other"] []
  F_is_letter : Hk.Fn K "is_letter" s_is_letter [] A'.f_is_letter A'.fd_is_letter
  g_is_letter : mg "is_letter" = some (.ref A'.f_is_letter)
  b_is_letter : Binds K A'.fd_is_letter ["thing"] []
  F_check_kind : Hk.Fn K "check_kind" s_check_kind [] A'.f_check_kind A'.fd_check_kind
  g_check_kind : mg "check_kind" = some (.ref A'.f_check_kind)
  b_check_kind : Binds K A'.fd_check_kind ["name"] []
  F_row_letters : Hk.Fn K "row_letters" s_row_letters [] A'.f_row_letters A'.fd_row_letters
  g_row_letters : mg "row_letters" = some (.ref A'.f_row_letters)
  b_row_letters : Binds K A'.fd_row_letters ["row"] []
  F_row_count : Hk.Fn K "row_count" s_row_count [] A'.f_row_count A'.fd_row_count
  g_row_count : mg "row_count" = some (.ref A'.f_row_count)
  b_row_count : Binds K A'.fd_row_count ["row"] []
  F__law_stream : Hk.Fn K "_law_stream" s__law_stream [] A'.f__law_stream A'.fd__law_stream
  g__law_stream : mg "_law_stream" = some (.ref A'.f__law_stream)
  b__law_stream : Binds K A'.fd__law_stream ["_law_script"] []
  F__law_mixed : Hk.Fn K "_law_mixed" s__law_mixed [] A'.f__law_mixed A'.fd__law_mixed
  g__law_mixed : mg "_law_mixed" = some (.ref A'.f__law_mixed)
  b__law_mixed : Binds K A'.fd__law_mixed ["_law_cell", "_law_place"] []
  F__law_plain : Hk.Fn K "_law_plain" s__law_plain [] A'.f__law_plain A'.fd__law_plain
  g__law_plain : mg "_law_plain" = some (.ref A'.f__law_plain)
  b__law_plain : Binds K A'.fd__law_plain ["_law_kind_here", "_law_word"] []
  F__law_normal : Hk.Fn K "_law_normal" s__law_normal [] A'.f__law_normal A'.fd__law_normal
  g__law_normal : mg "_law_normal" = some (.ref A'.f__law_normal)
  b__law_normal : Binds K A'.fd__law_normal ["_law_kind_here", "_law_effect"] []
  F__law_is_number : Hk.Fn K "_law_is_number" s__law_is_number [] A'.f__law_is_number A'.fd__law_is_number
  g__law_is_number : mg "_law_is_number" = some (.ref A'.f__law_is_number)
  b__law_is_number : Binds K A'.fd__law_is_number ["_law_thing"] []
  F__law_sums : Hk.Fn K "_law_sums" s__law_sums [] A'.f__law_sums A'.fd__law_sums
  g__law_sums : mg "_law_sums" = some (.ref A'.f__law_sums)
  b__law_sums : Binds K A'.fd__law_sums ["_law_row_here"] []
  F_Kind__plain : Hk.FnM K "plain" "Kind.plain" s_Kind__plain [] A'.f_Kind__plain A'.fd_Kind__plain
  me_Kind__plain : Meth K A'.c_Kind "plain" A'.f_Kind__plain
  b_Kind__plain : Binds K A'.fd_Kind__plain ["self", "word"] []
  F_BagKind__plain : Hk.FnM K "plain" "BagKind.plain" s_BagKind__plain [] A'.f_BagKind__plain A'.fd_BagKind__plain
  me_BagKind__plain : Meth K A'.c_BagKind "plain" A'.f_BagKind__plain
  b_BagKind__plain : Binds K A'.fd_BagKind__plain ["self", "word"] []
  F_SetKind__plain : Hk.FnM K "plain" "SetKind.plain" s_SetKind__plain [] A'.f_SetKind__plain A'.fd_SetKind__plain
  me_SetKind__plain : Meth K A'.c_SetKind "plain" A'.f_SetKind__plain
  b_SetKind__plain : Binds K A'.fd_SetKind__plain ["self", "word"] []
  F_HeadsKind__plain : Hk.FnM K "plain" "HeadsKind.plain" s_HeadsKind__plain [] A'.f_HeadsKind__plain A'.fd_HeadsKind__plain
  me_HeadsKind__plain : Meth K A'.c_HeadsKind "plain" A'.f_HeadsKind__plain
  b_HeadsKind__plain : Binds K A'.fd_HeadsKind__plain ["self", "word"] []
  F_FirstKind__plain : Hk.FnM K "plain" "FirstKind.plain" s_FirstKind__plain [] A'.f_FirstKind__plain A'.fd_FirstKind__plain
  me_FirstKind__plain : Meth K A'.c_FirstKind "plain" A'.f_FirstKind__plain
  b_FirstKind__plain : Binds K A'.fd_FirstKind__plain ["self", "word"] []
  F_TailsKind__plain : Hk.FnM K "plain" "TailsKind.plain" s_TailsKind__plain [] A'.f_TailsKind__plain A'.fd_TailsKind__plain
  me_TailsKind__plain : Meth K A'.c_TailsKind "plain" A'.f_TailsKind__plain
  b_TailsKind__plain : Binds K A'.fd_TailsKind__plain ["self", "word"] []
  F_LastKind__plain : Hk.FnM K "plain" "LastKind.plain" s_LastKind__plain [] A'.f_LastKind__plain A'.fd_LastKind__plain
  me_LastKind__plain : Meth K A'.c_LastKind "plain" A'.f_LastKind__plain
  b_LastKind__plain : Binds K A'.fd_LastKind__plain ["self", "word"] []
  F_EndsKind__plain : Hk.FnM K "plain" "EndsKind.plain" s_EndsKind__plain [] A'.f_EndsKind__plain A'.fd_EndsKind__plain
  me_EndsKind__plain : Meth K A'.c_EndsKind "plain" A'.f_EndsKind__plain
  b_EndsKind__plain : Binds K A'.fd_EndsKind__plain ["self", "word"] []
  F_kind_named : Hk.Fn K "kind_named" s_kind_named [] A'.f_kind_named A'.fd_kind_named
  g_kind_named : mg "kind_named" = some (.ref A'.f_kind_named)
  b_kind_named : Binds K A'.fd_kind_named ["name"] []
  F_is_word : Hk.Fn K "is_word" s_is_word [] A'.f_is_word A'.fd_is_word
  g_is_word : mg "is_word" = some (.ref A'.f_is_word)
  b_is_word : Binds K A'.fd_is_word ["thing"] []
  F_normal : Hk.Fn K "normal" s_normal [] A'.f_normal A'.fd_normal
  g_normal : mg "normal" = some (.ref A'.f_normal)
  b_normal : Binds K A'.fd_normal ["kind", "effect"] []
  F__law_draw : Hk.Fn K "_law_draw" s__law_draw [] A'.f__law_draw A'.fd__law_draw
  g__law_draw : mg "_law_draw" = some (.ref A'.f__law_draw)
  b__law_draw : Binds K A'.fd__law_draw ["_law_stream_here", "_law_many"] []
  F__law_joined : Hk.Fn K "_law_joined" s__law_joined [] A'.f__law_joined A'.fd__law_joined
  g__law_joined : mg "_law_joined" = some (.ref A'.f__law_joined)
  b__law_joined : Binds K A'.fd__law_joined ["_law_kind_here", "_law_left", "_law_right"] []
  F__law_is_word : Hk.Fn K "_law_is_word" s__law_is_word [] A'.f__law_is_word A'.fd__law_is_word
  g__law_is_word : mg "_law_is_word" = some (.ref A'.f__law_is_word)
  b__law_is_word : Binds K A'.fd__law_is_word ["_law_thing"] []
  F__law_narrowed_row : Hk.Fn K "_law_narrowed_row" s__law_narrowed_row [] A'.f__law_narrowed_row A'.fd__law_narrowed_row
  g__law_narrowed_row : mg "_law_narrowed_row" = some (.ref A'.f__law_narrowed_row)
  b__law_narrowed_row : Binds K A'.fd__law_narrowed_row ["_law_narrow", "_law_wide", "_law_row_here"] []
  F_is_plain : Hk.Fn K "is_plain" s_is_plain [] A'.f_is_plain A'.fd_is_plain
  g_is_plain : mg "is_plain" = some (.ref A'.f_is_plain)
  b_is_plain : Binds K A'.fd_is_plain ["kind", "thing"] []
  F_rest : Hk.Fn K "rest" s_rest [] A'.f_rest A'.fd_rest
  g_rest : mg "rest" = some (.ref A'.f_rest)
  b_rest : Binds K A'.fd_rest ["kind", "one", "other"] []
  F_then : Hk.Fn K "then" s_then [] A'.f_then A'.fd_then
  g_then : mg "then" = some (.ref A'.f_then)
  F_effect_on : Hk.Fn K "effect_on" s_effect_on [] A'.f_effect_on A'.fd_effect_on
  g_effect_on : mg "effect_on" = some (.ref A'.f_effect_on)
  b_effect_on : Binds K A'.fd_effect_on ["kind", "effect", "state"] []
  F_narrowed_effect : Hk.Fn K "narrowed_effect" s_narrowed_effect [] A'.f_narrowed_effect A'.fd_narrowed_effect
  g_narrowed_effect : mg "narrowed_effect" = some (.ref A'.f_narrowed_effect)
  b_narrowed_effect : Binds K A'.fd_narrowed_effect ["kind", "effect"] []
  F__law_pick : Hk.Fn K "_law_pick" s__law_pick [] A'.f__law_pick A'.fd__law_pick
  g__law_pick : mg "_law_pick" = some (.ref A'.f__law_pick)
  b__law_pick : Binds K A'.fd__law_pick ["_law_stream_here", "_law_many"] []
  F__law_then : Hk.Fn K "_law_then" s__law_then [] A'.f__law_then A'.fd__law_then
  g__law_then : mg "_law_then" = some (.ref A'.f__law_then)
  b__law_then : Binds K A'.fd__law_then ["_law_kind_here", "_law_first", "_law_second"] []
  F__law_on : Hk.Fn K "_law_on" s__law_on [] A'.f__law_on A'.fd__law_on
  g__law_on : mg "_law_on" = some (.ref A'.f__law_on)
  b__law_on : Binds K A'.fd__law_on ["_law_kind_here", "_law_effect", "_law_state"] []
  F__law_is_effect : Hk.Fn K "_law_is_effect" s__law_is_effect [] A'.f__law_is_effect A'.fd__law_is_effect
  g__law_is_effect : mg "_law_is_effect" = some (.ref A'.f__law_is_effect)
  b__law_is_effect : Binds K A'.fd__law_is_effect ["_law_thing"] []
  F__law_rest : Hk.Fn K "_law_rest" s__law_rest [] A'.f__law_rest A'.fd__law_rest
  g__law_rest : mg "_law_rest" = some (.ref A'.f__law_rest)
  b__law_rest : Binds K A'.fd__law_rest ["_law_kind_here", "_law_one", "_law_other"] []
  F_is_effect : Hk.Fn K "is_effect" s_is_effect [] A'.f_is_effect A'.fd_is_effect
  g_is_effect : mg "is_effect" = some (.ref A'.f_is_effect)
  b_is_effect : Binds K A'.fd_is_effect ["kind", "thing"] []
  F_step : Hk.Fn K "step" s_step [] A'.f_step A'.fd_step
  g_step : mg "step" = some (.ref A'.f_step)
  b_step : Binds K A'.fd_step ["kind", "one", "other"] []
  F__law_kind : Hk.Fn K "_law_kind" s__law_kind [] A'.f__law_kind A'.fd__law_kind
  g__law_kind : mg "_law_kind" = some (.ref A'.f__law_kind)
  b__law_kind : Binds K A'.fd__law_kind ["_law_stream_here"] []
  F__law_letters : Hk.Fn K "_law_letters" s__law_letters [] A'.f__law_letters A'.fd__law_letters
  g__law_letters : mg "_law_letters" = some (.ref A'.f__law_letters)
  b__law_letters : Binds K A'.fd__law_letters ["_law_stream_here"] []
  F__law_raw : Hk.Fn K "_law_raw" s__law_raw [] A'.f__law_raw A'.fd__law_raw
  g__law_raw : mg "_law_raw" = some (.ref A'.f__law_raw)
  b__law_raw : Binds K A'.fd__law_raw ["_law_stream_here", "_law_letters_here"] []
  F__law_step : Hk.Fn K "_law_step" s__law_step [] A'.f__law_step A'.fd__law_step
  g__law_step : mg "_law_step" = some (.ref A'.f__law_step)
  b__law_step : Binds K A'.fd__law_step ["_law_kind_here", "_law_first", "_law_second"] []
  F__law_running : Hk.Fn K "_law_running" s__law_running [] A'.f__law_running A'.fd__law_running
  g__law_running : mg "_law_running" = some (.ref A'.f__law_running)
  b__law_running : Binds K A'.fd__law_running ["_law_kind_here", "_law_row_here"] []
  F__law_same_row : Hk.Fn K "_law_same_row" s__law_same_row [] A'.f__law_same_row A'.fd__law_same_row
  g__law_same_row : mg "_law_same_row" = some (.ref A'.f__law_same_row)
  b__law_same_row : Binds K A'.fd__law_same_row ["_law_told", "_law_due"] []
  F__law_states : Hk.Fn K "_law_states" s__law_states [] A'.f__law_states A'.fd__law_states
  g__law_states : mg "_law_states" = some (.ref A'.f__law_states)
  b__law_states : Binds K A'.fd__law_states ["_law_kind_here", "_law_row_here", "_law_due", "_law_state"] []
  F__law_lower_kind : Hk.Fn K "_law_lower_kind" s__law_lower_kind [] A'.f__law_lower_kind A'.fd__law_lower_kind
  g__law_lower_kind : mg "_law_lower_kind" = some (.ref A'.f__law_lower_kind)
  b__law_lower_kind : Binds K A'.fd__law_lower_kind ["_law_stream_here", "_law_wide"] []
  F_under : Hk.Fn K "under" s_under [] A'.f_under A'.fd_under
  g_under : mg "under" = some (.ref A'.f_under)
  b_under : Binds K A'.fd_under ["one", "other"] []
  F_check_effects : Hk.Fn K "check_effects" s_check_effects [] A'.f_check_effects A'.fd_check_effects
  g_check_effects : mg "check_effects" = some (.ref A'.f_check_effects)
  b_check_effects : Binds K A'.fd_check_effects ["kind", "row"] []
  F_swallowed : Hk.Fn K "swallowed" s_swallowed [] A'.f_swallowed A'.fd_swallowed
  g_swallowed : mg "swallowed" = some (.ref A'.f_swallowed)
  b_swallowed : Binds K A'.fd_swallowed ["kind", "small", "large"] []
  F_twice_at_once : Hk.Fn K "twice_at_once" s_twice_at_once [] A'.f_twice_at_once A'.fd_twice_at_once
  g_twice_at_once : mg "twice_at_once" = some (.ref A'.f_twice_at_once)
  b_twice_at_once : Binds K A'.fd_twice_at_once ["kind", "word"] []
  F_twice_later : Hk.Fn K "twice_later" s_twice_later [] A'.f_twice_later A'.fd_twice_later
  g_twice_later : mg "twice_later" = some (.ref A'.f_twice_later)
  b_twice_later : Binds K A'.fd_twice_later ["kind", "word"] []
  F_twice_earlier : Hk.Fn K "twice_earlier" s_twice_earlier [] A'.f_twice_earlier A'.fd_twice_earlier
  g_twice_earlier : mg "twice_earlier" = some (.ref A'.f_twice_earlier)
  b_twice_earlier : Binds K A'.fd_twice_earlier ["kind", "word"] []
  F__law_near : Hk.Fn K "_law_near" s__law_near [] A'.f__law_near A'.fd__law_near
  g__law_near : mg "_law_near" = some (.ref A'.f__law_near)
  b__law_near : Binds K A'.fd__law_near ["_law_stream_here", "_law_letters_here", "_law_word"] []
  F__law_twin_row : Hk.Fn K "_law_twin_row" s__law_twin_row [] A'.f__law_twin_row A'.fd__law_twin_row
  g__law_twin_row : mg "_law_twin_row" = some (.ref A'.f__law_twin_row)
  b__law_twin_row : Binds K A'.fd__law_twin_row ["_law_stream_here", "_law_kind_here", "_law_row_here"] []
  F__law_steps : Hk.Fn K "_law_steps" s__law_steps [] A'.f__law_steps A'.fd__law_steps
  g__law_steps : mg "_law_steps" = some (.ref A'.f__law_steps)
  b__law_steps : Binds K A'.fd__law_steps ["_law_kind_here", "_law_begin", "_law_row_here"] []
  F__law_later : Hk.Fn K "_law_later" s__law_later [] A'.f__law_later A'.fd__law_later
  g__law_later : mg "_law_later" = some (.ref A'.f__law_later)
  b__law_later : Binds K A'.fd__law_later ["_law_kind_here", "_law_due"] []
  F_plain_word : Hk.Fn K "plain_word" s_plain_word [] A'.f_plain_word A'.fd_plain_word
  g_plain_word : mg "plain_word" = some (.ref A'.f_plain_word)
  b_plain_word : Binds K A'.fd_plain_word ["kind", "word"] []
  F_joined : Hk.Fn K "joined" s_joined [] A'.f_joined A'.fd_joined
  g_joined : mg "joined" = some (.ref A'.f_joined)
  F_fresh_word : Hk.Fn K "fresh_word" s_fresh_word [] A'.f_fresh_word A'.fd_fresh_word
  g_fresh_word : mg "fresh_word" = some (.ref A'.f_fresh_word)
  F_parted_words : Hk.Fn K "parted_words" s_parted_words [] A'.f_parted_words A'.fd_parted_words
  g_parted_words : mg "parted_words" = some (.ref A'.f_parted_words)
  b_parted_words : Binds K A'.fd_parted_words ["one", "other"] []
  F_parting_state : Hk.Fn K "parting_state" s_parting_state [] A'.f_parting_state A'.fd_parting_state
  g_parting_state : mg "parting_state" = some (.ref A'.f_parting_state)
  b_parting_state : Binds K A'.fd_parting_state ["kind", "one", "other"] []
  F_running : Hk.Fn K "running" s_running [] A'.f_running A'.fd_running
  g_running : mg "running" = some (.ref A'.f_running)
  b_running : Binds K A'.fd_running ["kind", "row"] []
  F_steps_between : Ms.FnK K "steps_between" s_steps_between [("start", .ref (A'.k_IDLE))] A'.f_steps_between A'.fd_steps_between
  bk_steps_between : KBn K A'.fd_steps_between ["kind", "row", "start"] 2 ["start"] (fun us ws => us ++ ws) (fun vs zs => vs ++ zs)
  g_steps_between : mg "steps_between" = some (.ref A'.f_steps_between)
  F_parting_word : Hk.Fn K "parting_word" s_parting_word [] A'.f_parting_word A'.fd_parting_word
  g_parting_word : mg "parting_word" = some (.ref A'.f_parting_word)
  b_parting_word : Binds K A'.fd_parting_word ["kind", "small", "large"] []
  F__law_row : Hk.Fn K "_law_row" s__law_row [] A'.f__law_row A'.fd__law_row
  g__law_row : mg "_law_row" = some (.ref A'.f__law_row)
  b__law_row : Binds K A'.fd__law_row ["_law_stream_here", "_law_kind_here", "_law_letters_here"] []
  F_change_places : Hk.Fn K "change_places" s_change_places [] A'.f_change_places A'.fd_change_places
  g_change_places : mg "change_places" = some (.ref A'.f_change_places)
  b_change_places : Binds K A'.fd_change_places ["kind", "one", "other"] []
  F_parting_swap : Hk.Fn K "parting_swap" s_parting_swap [] A'.f_parting_swap A'.fd_parting_swap
  g_parting_swap : mg "parting_swap" = some (.ref A'.f_parting_swap)
  b_parting_swap : Binds K A'.fd_parting_swap ["kind", "one", "other"] []
  F__law_along : Hk.Fn K "_law_along" s__law_along [] A'.f__law_along A'.fd__law_along
  g__law_along : mg "_law_along" = some (.ref A'.f__law_along)
  b__law_along : Binds K A'.fd__law_along ["_law_kind_here", "_law_row_here", "_law_twin"] []
  F__law_refused_row : Hk.Fn K "_law_refused_row" s__law_refused_row [] A'.f__law_refused_row A'.fd__law_refused_row
  g__law_refused_row : mg "_law_refused_row" = some (.ref A'.f__law_refused_row)
  b__law_refused_row : Binds K A'.fd__law_refused_row ["_law_kind_here", "_law_row_here", "_law_way"] []
  F__law_word_door : Hk.Fn K "_law_word_door" s__law_word_door [] A'.f__law_word_door A'.fd__law_word_door
  g__law_word_door : mg "_law_word_door" = some (.ref A'.f__law_word_door)
  b__law_word_door : Binds K A'.fd__law_word_door ["_law_at", "_law_name", "_law_word"] []
  F__law_effect_door : Hk.Fn K "_law_effect_door" s__law_effect_door [] A'.f__law_effect_door A'.fd__law_effect_door
  g__law_effect_door : mg "_law_effect_door" = some (.ref A'.f__law_effect_door)
  b__law_effect_door : Binds K A'.fd__law_effect_door ["_law_at", "_law_name", "_law_word", "_law_effect"] []
  F__law_refused_kind : Hk.Fn K "_law_refused_kind" s__law_refused_kind [] A'.f__law_refused_kind A'.fd__law_refused_kind
  g__law_refused_kind : mg "_law_refused_kind" = some (.ref A'.f__law_refused_kind)
  b__law_refused_kind : Binds K A'.fd__law_refused_kind ["_law_at", "_law_name", "_law_word", "_law_effect"] []
  F__law_refusals : Hk.Fn K "_law_refusals" s__law_refusals [] A'.f__law_refusals A'.fd__law_refusals
  g__law_refusals : mg "_law_refusals" = some (.ref A'.f__law_refusals)
  b__law_refusals : Binds K A'.fd__law_refusals ["_law_stream_here", "_law_kind_here", "_law_row_here"] []
  F_law : Hk.Fn K "law" s_law [] A'.f_law A'.fd_law
  g_law : mg "law" = some (.ref A'.f_law)
  b_law : Binds K A'.fd_law ["_law_script"] []
  dd1_steps_between : ∃ ds : List Value, Binds K A'.fd_steps_between ["kind", "row", "start"] ds ∧ Vals [.ref (A'.k_IDLE)] ds
  z_abs : mg "abs" = none
  z_all : mg "all" = none
  z_bool : mg "bool" = none
  z_enumerate : mg "enumerate" = none
  z_int : mg "int" = none
  z_isinstance : mg "isinstance" = none
  z_len : mg "len" = none
  z_list : mg "list" = none
  z_max : mg "max" = none
  z_range : mg "range" = none
  z_repr : mg "repr" = none
  z_set : mg "set" = none
  z_sorted : mg "sorted" = none
  z_str : mg "str" = none
  z_sum : mg "sum" = none
  z_super : mg "super" = none
  z_tuple : mg "tuple" = none
  c_GREATEST_LETTER : ∃ t, mg "GREATEST_LETTER" = some (.int 999999999 t)
  m_StoreError : mg "StoreError" = some (.ref A'.c_StoreError)
  m_NameFault : mg "NameFault" = some (.ref A'.c_NameFault)
  m_PlaceFault : mg "PlaceFault" = some (.ref A'.c_PlaceFault)
  m_BadKind : mg "BadKind" = some (.ref A'.c_BadKind)
  m_BadName : mg "BadName" = some (.ref A'.c_BadName)
  m_BadWord : mg "BadWord" = some (.ref A'.c_BadWord)
  m_BadEffect : mg "BadEffect" = some (.ref A'.c_BadEffect)
  m_BadStretch : mg "BadStretch" = some (.ref A'.c_BadStretch)
  m_BadField : mg "BadField" = some (.ref A'.c_BadField)
  m_BadBatch : mg "BadBatch" = some (.ref A'.c_BadBatch)
  m_Kind : mg "Kind" = some (.ref A'.c_Kind)
  m_BagKind : mg "BagKind" = some (.ref A'.c_BagKind)
  m_SetKind : mg "SetKind" = some (.ref A'.c_SetKind)
  m_HeadsKind : mg "HeadsKind" = some (.ref A'.c_HeadsKind)
  m_FirstKind : mg "FirstKind" = some (.ref A'.c_FirstKind)
  m_TailsKind : mg "TailsKind" = some (.ref A'.c_TailsKind)
  m_LastKind : mg "LastKind" = some (.ref A'.c_LastKind)
  m_EndsKind : mg "EndsKind" = some (.ref A'.c_EndsKind)
  mk_KIND_NAMES : mg "KIND_NAMES" = some (.ref A'.k_KIND_NAMES)
  kt_KIND_NAMES : ∀ H : Hp, SqT K H A'.k_KIND_NAMES [.str "list", .str "bag", .str "set", .str "first", .str "last", .str "ends", .str "heads", .str "tails"]
  mk_IDLE : mg "IDLE" = some (.ref A'.k_IDLE)
  ke_IDLE : ∃ p, ∀ H : Hp, SqT K H A'.k_IDLE [.bl false, .ref p] ∧ SqT K H p []
  cl_Kind : Cls K A'.c_Kind
  bc_Kind : Kd.BareC K A'.c_Kind
  cl_BagKind : Cls K A'.c_BagKind
  bc_BagKind : Kd.BareC K A'.c_BagKind
  cl_SetKind : Cls K A'.c_SetKind
  bc_SetKind : Kd.BareC K A'.c_SetKind
  cl_HeadsKind : Cls K A'.c_HeadsKind
  bc_HeadsKind : Kd.BareC K A'.c_HeadsKind
  cl_FirstKind : Cls K A'.c_FirstKind
  bc_FirstKind : Kd.BareC K A'.c_FirstKind
  cl_TailsKind : Cls K A'.c_TailsKind
  bc_TailsKind : Kd.BareC K A'.c_TailsKind
  cl_LastKind : Cls K A'.c_LastKind
  bc_LastKind : Kd.BareC K A'.c_LastKind
  cl_EndsKind : Cls K A'.c_EndsKind
  bc_EndsKind : Kd.BareC K A'.c_EndsKind
  S_NameFault : Sup.SupF P K A'.c_NameFault A'.i_NameFault "NameFault.__init__" (defArgs si_NameFault) (defBody si_NameFault) (defScope si_NameFault) A'.fdi_NameFault
  S_PlaceFault : Sup.SupF P K A'.c_PlaceFault A'.i_PlaceFault "PlaceFault.__init__" (defArgs si_PlaceFault) (defBody si_PlaceFault) (defScope si_PlaceFault) A'.fdi_PlaceFault
  bi_NameFault : Binds K A'.fdi_NameFault ["self", "name"] []
  bi_PlaceFault : Binds K A'.fdi_PlaceFault ["self", "place"] []
  s_BadEffect : Sup.SupC K A'.c_BadEffect A'.c_PlaceFault "place"
  i_BadEffect : PySem.W.findIn K (.ref A'.c_BadEffect) "__init__" = some (some (.ref A'.i_PlaceFault))
  x_BadEffect : Lk.ExD K A'.c_BadEffect
  y_BadEffect : XfC K A'.c_BadEffect
  e_BadEffect : PySem.W.exmOne K (.ref A'.c_BadEffect) (.ref A'.c_BadEffect) = some true
  s_BadKind : Sup.SupC K A'.c_BadKind A'.c_NameFault "name"
  i_BadKind : PySem.W.findIn K (.ref A'.c_BadKind) "__init__" = some (some (.ref A'.i_NameFault))
  x_BadKind : Lk.ExD K A'.c_BadKind
  y_BadKind : XfC K A'.c_BadKind
  e_BadKind : PySem.W.exmOne K (.ref A'.c_BadKind) (.ref A'.c_BadKind) = some true
  k_BadEffect_StoreError : PySem.W.kitOne K (.ref A'.c_BadEffect) (.ref A'.c_StoreError) = some true
  k_BadEffect_NameFault : PySem.W.kitOne K (.ref A'.c_BadEffect) (.ref A'.c_NameFault) = some false
  k_BadEffect_PlaceFault : PySem.W.kitOne K (.ref A'.c_BadEffect) (.ref A'.c_PlaceFault) = some true
  k_BadEffect_BadKind : PySem.W.kitOne K (.ref A'.c_BadEffect) (.ref A'.c_BadKind) = some false
  k_BadEffect_BadName : PySem.W.kitOne K (.ref A'.c_BadEffect) (.ref A'.c_BadName) = some false
  k_BadEffect_BadWord : PySem.W.kitOne K (.ref A'.c_BadEffect) (.ref A'.c_BadWord) = some false
  k_BadEffect_BadStretch : PySem.W.kitOne K (.ref A'.c_BadEffect) (.ref A'.c_BadStretch) = some false
  k_BadEffect_BadField : PySem.W.kitOne K (.ref A'.c_BadEffect) (.ref A'.c_BadField) = some false
  k_BadEffect_BadBatch : PySem.W.kitOne K (.ref A'.c_BadEffect) (.ref A'.c_BadBatch) = some false
  k_BadKind_StoreError : PySem.W.kitOne K (.ref A'.c_BadKind) (.ref A'.c_StoreError) = some true
  k_BadKind_NameFault : PySem.W.kitOne K (.ref A'.c_BadKind) (.ref A'.c_NameFault) = some true
  k_BadKind_PlaceFault : PySem.W.kitOne K (.ref A'.c_BadKind) (.ref A'.c_PlaceFault) = some false
  k_BadKind_BadName : PySem.W.kitOne K (.ref A'.c_BadKind) (.ref A'.c_BadName) = some false
  k_BadKind_BadWord : PySem.W.kitOne K (.ref A'.c_BadKind) (.ref A'.c_BadWord) = some false
  k_BadKind_BadEffect : PySem.W.kitOne K (.ref A'.c_BadKind) (.ref A'.c_BadEffect) = some false
  k_BadKind_BadStretch : PySem.W.kitOne K (.ref A'.c_BadKind) (.ref A'.c_BadStretch) = some false
  k_BadKind_BadField : PySem.W.kitOne K (.ref A'.c_BadKind) (.ref A'.c_BadField) = some false
  k_BadKind_BadBatch : PySem.W.kitOne K (.ref A'.c_BadKind) (.ref A'.c_BadBatch) = some false
section
variable {P : Program} {w : World} {K : PySem.W.Frag} {mg : Str → Option Value} {base : Heap} {A' : Ad}
/-! ### shown -/
def shOk (d : PyData) : Prop := (∀ x, d = .str x → x.length < 60 → (reprText x).length ≤ 100000) ∧ ∀ x, d = .str x → x.length ≤ sizeLine
def sp_shown (K : PySem.W.Frag) : Sp := fun vs H Q _ => ∃ (v : V) (d : PyData), vs = [v] ∧ Dp K H v d ∧ shOk d ∧ ∀ y : Str, y.length ≤ 100000 → Q (.str y) H
theorem ok_shown (T : Txt P K mg A') : FnOk P w K mg base CX0 1 A'.f_shown A'.fd_shown ["value"] (sp_shown K) := by
  refine Hk.okN T.F_shown sc_shown (fun vs H Q E h => ?_) (fun cdv A outer s H vs Q E hr h => ?_)
  · obtain ⟨v, d, rfl, _⟩ := h
    rfl
  · obtain ⟨v, d, rfl, hd, ⟨hs, hl⟩, k⟩ := h
    refine ⟨_, (pss_cons (ps_if (PW.pt (pw_or (pt_cmpR op_isN (pv 0) pe_non (nomark _)) (pw_or1 (pt_val (pe_callB call_isD (by rfl) T.z_isinstance (by decide +kernel) (pa_cons (pv 0) (pa_cons (pe_bltn (v := .ty "bool") (by rfl) T.z_bool (by decide +kernel) rfl) pa_nil))))))) (pss_one (ps_ret (pe_callTy (Lk.CallR.or Lk.call_str_none (Lk.CallR.or Lk.call_str_bool call_str_int)) (by rfl) T.z_str (by decide +kernel) (pa_cons (pv 0) pa_nil)))) pss_nil)
    (pss_cons (ps_if (PW.pt (pw_and (pt_val (pe_callB call_isD (by rfl) T.z_isinstance (by decide +kernel) (pa_cons (pv 0) (pa_cons (pe_bltn (v := .ty "int") (by rfl) T.z_int (by decide +kernel) rfl) pa_nil)))) (pw_and1 (pt_cmpR op_lt (pe_callB call_abs (by rfl) T.z_abs (by decide +kernel) (pa_cons (pv 0) pa_nil)) (pe_op op_pow pe_int pe_int) (nomark _))))) (pss_one (ps_ret (pe_callTy (Lk.CallR.or Lk.call_str_none (Lk.CallR.or Lk.call_str_bool call_str_int)) (by rfl) T.z_str (by decide +kernel) (pa_cons (pv 0) pa_nil)))) pss_nil)
    (pss_cons (ps_if (PW.pt (pw_and (pt_val (pe_callB call_isD (by rfl) T.z_isinstance (by decide +kernel) (pa_cons (pv 0) (pa_cons (pe_bltn (v := .ty "str") (by rfl) T.z_str (by decide +kernel) rfl) pa_nil)))) (pw_and1 (pt_cmpR op_lt (pe_callB call_len_str (by rfl) T.z_len (by decide +kernel) (pa_cons (pv 0) pa_nil)) pe_int (nomark _))))) (pss_one (ps_ret (pe_callB call_repr_str (by rfl) T.z_repr (by decide +kernel) (pa_cons (pv 0) pa_nil)))) pss_nil)
    (pss_one (ps_ret pe_str))))), ?_⟩
    have hd' := hd
    have klast : ∀ H', H' = H → Q (.str "of another form") H' := fun H' e => by rw [e]; exact k _ (by decide)
    cases hd with
    | non =>
      refine ⟨_, rfl, rfl, _, rfl, ?_⟩
      refine ifT rfl ?_
      refine ifT rfl ?_
      exact ⟨_, rfl, .inl ⟨rfl, k _ (by decide)⟩⟩
    | bl b =>
      refine ⟨_, rfl, rfl, _, rfl, ?_⟩
      refine ifF rfl ?_
      refine ⟨_, rfl, _, _, _, rfl, okT_bool, hd', _, rfl, ?_⟩
      refine ifT (isI_bool_bool b) ?_
      exact ⟨_, rfl, .inr (.inl ⟨_, rfl, k _ (by cases b <;> decide)⟩)⟩
    | int i =>
      refine ⟨_, rfl, rfl, _, rfl, ?_⟩
      refine ifF rfl ?_
      refine ⟨_, rfl, _, _, _, rfl, okT_bool, hd', _, rfl, ?_⟩
      refine ifF (isI_bool_int i) ?_
      refine ⟨_, rfl, _, _, _, rfl, okT_int, hd', _, rfl, ?_⟩
      refine ifT (isI_int_int i) ?_
      refine ⟨_, rfl, _, rfl, _, _, rfl, rfl, ⟨by decide, by decide, by decide⟩, _, _, rfl, rfl, _, rfl, ?_⟩
      refine if2 (fun c => ?_) (fun c => ?_)
      · have c' : (if i < 0 then -i else i) < 1000000000000 := of_decide_eq_true c
        have hb : i.natAbs < 10 ^ 12 := by omega
        refine ⟨_, rfl, .inr (.inr ⟨_, rfl, log_int (Nat.lt_trans hb (by decide)), k _ ?_⟩)⟩
        have := len_int (k := 12) (by decide) hb
        omega
      · refine ⟨_, rfl, _, _, _, rfl, okT_str, hd', _, rfl, ?_⟩
        refine ifF (isI_str_int i) ?_
        exact klast _ rfl
    | str x =>
      refine ⟨_, rfl, rfl, _, rfl, ?_⟩
      refine ifF rfl ?_
      refine ⟨_, rfl, _, _, _, rfl, okT_bool, hd', _, rfl, ?_⟩
      refine ifF (isI_bool_str x) ?_
      refine ⟨_, rfl, _, _, _, rfl, okT_int, hd', _, rfl, ?_⟩
      refine ifF (isI_int_str x) ?_
      refine ⟨_, rfl, _, _, _, rfl, okT_str, hd', _, rfl, ?_⟩
      refine ifT (isI_str_str x) ?_
      refine ⟨_, rfl, _, rfl, hl x rfl, _, _, rfl, rfl, _, rfl, ?_⟩
      refine if2 (fun c => ?_) (fun c => ?_)
      · have c' : ((x.length : Nat) : Int) < 60 := of_decide_eq_true c
        have hb := hs x rfl (by omega)
        exact ⟨_, rfl, _, rfl, Nat.le_trans hb (by decide), k _ hb⟩
      · exact klast _ rfl
    | lst h1 h2 =>
      refine ⟨_, rfl, rfl, _, rfl, ?_⟩
      refine ifF rfl ?_
      refine ⟨_, rfl, _, _, _, rfl, okT_bool, hd', _, rfl, ?_⟩
      refine ifF (isI_bool_list _) ?_
      refine ⟨_, rfl, _, _, _, rfl, okT_int, hd', _, rfl, ?_⟩
      refine ifF (isI_int_list _) ?_
      refine ⟨_, rfl, _, _, _, rfl, okT_str, hd', _, rfl, ?_⟩
      refine ifF (isI_str_list _) ?_
      exact klast _ rfl
    | tup h1 h2 =>
      refine ⟨_, rfl, rfl, _, rfl, ?_⟩
      refine ifF rfl ?_
      refine ⟨_, rfl, _, _, _, rfl, okT_bool, hd', _, rfl, ?_⟩
      refine ifF (isI_bool_tuple _) ?_
      refine ⟨_, rfl, _, _, _, rfl, okT_int, hd', _, rfl, ?_⟩
      refine ifF (isI_int_tuple _) ?_
      refine ⟨_, rfl, _, _, _, rfl, okT_str, hd', _, rfl, ?_⟩
      refine ifF (isI_str_tuple _) ?_
      exact klast _ rfl
theorem ok_init_NameFault (T : Txt P K mg A') : FnOk P w K mg base CX0 2 A'.i_NameFault A'.fdi_NameFault ["self", "name"] (Sup.spSup K A'.c_NameFault "name" (fun v H => ∃ d, Dp K H v d ∧ shOk d)) := by
  refine Sup.fn_sup (te := fun σ H Q => tJs [tC (.str "name "), tFmt (tCall (sp_shown K) [] E0 (tCons (tVar 1) tNil))] Str.empty σ H fun out H1 => Q (.str out) H1) T.S_NameFault sci_NameFault (by decide +kernel) T.z_super rfl rfl (by decide +kernel) (by decide +kernel) (fun _ => rfl) (fun _ => rfl) (fun _ => rfl) (fun _ => rfl) (fun X e1 e2 e3 e4 e5 hN hsc hc hr => ?_) (fun a v H Q hp hq => ?_)
  case refine_1 =>
    subst e1 e2 e3 e4 e5
    have hv : Vis X.env.scope "name" := by rw [hsc]; exact Or.inl (by decide +kernel)
    have hg : Gl X "shown" := by
      show X.env.scope.names.lookup ("shown" : Str) = some .globalImplicit
      rw [hsc]; decide +kernel
    exact pe_joined (PJ.cons pe_str (PJ.cons (pe_fmt (pe_call (ok_shown T) hr hg T.g_shown T.F_shown.kp T.b_shown .nil pass0 (pa_cons (pe_var (i := 1) (by rw [hN] <;> rfl) hv (by decide +kernel) (by decide +kernel)) pa_nil))) PJ.nil))
  case refine_2 =>
    obtain ⟨d, hd, hs⟩ := hp
    refine ⟨_, rfl, by decide, _, rfl, v, d, rfl, hd, hs, fun y hy => ?_⟩
    have hz : (Str.empty ++ Str.ofString "name " ++ y).length ≤ sizeLine := by
      rw [strLen_append]
      have e : (Str.empty ++ Str.ofString "name ").length ≤ 100 := by decide +kernel
      have e2 : sizeLine = 16777216 := sizeLine_eq
      omega
    exact .inl ⟨y, rfl, Nat.le_trans hy (by decide), y, rfl, hz, hq _ hz⟩

theorem ok_init_PlaceFault (T : Txt P K mg A') : FnOk P w K mg base CX0 2 A'.i_PlaceFault A'.fdi_PlaceFault ["self", "place"] (Sup.spSup K A'.c_PlaceFault "place" (fun v H => ∃ d, Dp K H v d ∧ shOk d)) := by
  refine Sup.fn_sup (te := fun σ H Q => tJs [tC (.str "place "), tFmt (tCall (sp_shown K) [] E0 (tCons (tVar 1) tNil))] Str.empty σ H fun out H1 => Q (.str out) H1) T.S_PlaceFault sci_PlaceFault (by decide +kernel) T.z_super rfl rfl (by decide +kernel) (by decide +kernel) (fun _ => rfl) (fun _ => rfl) (fun _ => rfl) (fun _ => rfl) (fun X e1 e2 e3 e4 e5 hN hsc hc hr => ?_) (fun a v H Q hp hq => ?_)
  case refine_1 =>
    subst e1 e2 e3 e4 e5
    have hv : Vis X.env.scope "place" := by rw [hsc]; exact Or.inl (by decide +kernel)
    have hg : Gl X "shown" := by
      show X.env.scope.names.lookup ("shown" : Str) = some .globalImplicit
      rw [hsc]; decide +kernel
    exact pe_joined (PJ.cons pe_str (PJ.cons (pe_fmt (pe_call (ok_shown T) hr hg T.g_shown T.F_shown.kp T.b_shown .nil pass0 (pa_cons (pe_var (i := 1) (by rw [hN] <;> rfl) hv (by decide +kernel) (by decide +kernel)) pa_nil))) PJ.nil))
  case refine_2 =>
    obtain ⟨d, hd, hs⟩ := hp
    refine ⟨_, rfl, by decide, _, rfl, v, d, rfl, hd, hs, fun y hy => ?_⟩
    have hz : (Str.empty ++ Str.ofString "place " ++ y).length ≤ sizeLine := by
      rw [strLen_append]
      have e : (Str.empty ++ Str.ofString "place ").length ≤ 100 := by decide +kernel
      have e2 : sizeLine = 16777216 := sizeLine_eq
      omega
    exact .inl ⟨y, rfl, Nat.le_trans hy (by decide), y, rfl, hz, hq _ hz⟩

/-! ### different -/
def sp_different (K : PySem.W.Frag) : Sp := fun vs H Q _ => ∃ (p : Addr) (ns : List Int), vs = [.ref p] ∧ Sq K H p (ns.map V.int) ∧ ns.length ≤ 1000 ∧ ∀ l H', H l = none → Same H H' → H' l = some (.lst ((Km.fo [] ns).map V.int)) → Q (.ref l) H'
theorem ok_different (T : Txt P K mg A') : FnOk P w K mg base CX0 1 A'.f_different A'.fd_different ["letters"] (sp_different K) := by
  refine Hk.okN T.F_different sc_different (fun vs H Q E h => ?_) (fun cdv A outer s H vs Q E hr h => ?_)
  · obtain ⟨p, ns, rfl, _⟩ := h
    rfl
  · obtain ⟨p, ns, rfl, hq, hz, k⟩ := h
    refine ⟨_, (pss_cons (ps_set (i := 1) sc_different.nd rfl (Or.inl rfl) (pe_callTy0 cr_set0 (by rfl) T.z_set (by decide +kernel)))
    (pss_cons (ps_set (i := 2) sc_different.nd rfl (Or.inl rfl) (pe_lst pa_nil))
    (pss_cons (ps_for PassesOwn.never rfl (Kd.pi_or (pi_list (pv 0)) (pi_tup (pv 0))) (pg_name (i := 3) sc_different.nd rfl (Or.inl rfl)) (pss_one (ps_if (pt_cmpR or_snotin (pv 3) (pv 1) (by rfl)) (pss_cons (ps_expr (pe_sadd (pv 1) (pa_cons (pv 3) pa_nil)))
    (pss_one (ps_expr (pe_bm PySem.F.plainAttrs_list PySem.F.slot_list_append PySem.F.type_list_append mt_append (pv 2) (pa_cons (pv 3) pa_nil))))) pss_nil)))
    (pss_one (ps_ret (pv 2)))))), ?_⟩
    refine ⟨rfl, fun s hs => ⟨Nat.zero_le _, fun l hl => ?_⟩⟩
    have nsl : s ≠ l := ne_of_none upd_same hl
    have hl0 : H l = none := by rw [upd_ne nsl.symm] at hl; exact hl
    refine for_any (H0 := H) (xs := ns.map V.int) (fun Q q => ⟨_, rfl, q⟩) hq (fun i σ' H' => ∃ (v : Option V) (S : Int → Bool) (n : Nat), σ' = [some (.ref p), some (.ref s), some (.ref l), v] ∧ Same H H' ∧ H' s = some (SetO w s S n) ∧ (∀ j, S j = decide (j ∈ Km.fo [] (ns.take i))) ∧ n ≤ i ∧ H' l = some (.lst ((Km.fo [] (ns.take i)).map V.int)))
      ⟨none, _, 0, rfl, (same_new hs).trans (same_new hl), by rw [upd_ne nsl]; exact upd_same, fun j => by simp [Km.fo], Nat.le_refl _, upd_same⟩ (fun i σ' H' ⟨_, _, _, _, e, _⟩ => e) ?_ ?_
    · rintro i y σ' H' hi ⟨v, S, n, rfl, sm, hS, hj, hn, hL⟩
      obtain ⟨x, hx, rfl⟩ := map_some hi
      have hil : i < ns.length := (List.getElem?_eq_some_iff.mp hx).1
      have hf := Km.fo_take hx
      refine ⟨_, rfl, _, rfl, x, s, S, n, rfl, rfl, hS, _, rfl, ?_⟩
      refine if2 (fun hb => ?_) (fun hb => ?_)
      · have hm : ¬ x ∈ Km.fo [] (ns.take i) := by rw [hj x] at hb; simpa using hb
        have hlen := Km.fo_len (ns.take i) []
        rw [List.length_take] at hlen
        refine ⟨_, rfl, ⟨s, S, n, rfl, hS⟩, _, rfl, s, x, S, n, rfl, rfl, hS, (by unfold scanBound; omega), ?_⟩
        refine ⟨_, rfl, .inl ⟨rfl, _, SqL.of (by rw [upd_ne nsl.symm]; exact hL)⟩, _, rfl, l, _, _, rfl, rfl, (by rw [upd_ne nsl.symm]; exact hL), (by rw [List.length_map]; exact small1000 (by simp only [List.length_nil] at hlen; omega)), ?_⟩
        refine ⟨_, _, _, rfl, same_mut (same_mut sm hs) hl0, by rw [upd_ne nsl]; exact upd_same, fun j => ?_, ?_, ?_⟩
        · rw [hf, if_neg hm, hj j]
          simp
        · split <;> omega
        · rw [upd_same, hf, if_neg hm, List.map_append]
          rfl
      · have hm : x ∈ Km.fo [] (ns.take i) := by rw [hj x] at hb; simpa using hb
        exact ⟨_, S, n, rfl, sm, hS, fun j => by rw [hf, if_pos hm]; exact hj j, by omega, by rw [hf, if_pos hm]; exact hL⟩
    · rintro σ' H' ⟨v, S, n, rfl, sm, hS, hj, hn, hL⟩
      rw [List.length_map, List.take_length] at hL
      exact ⟨_, rfl, k l H' hl0 sm hL⟩
/-! ### Kind__rest_between -/
/-- what is left from one word to another, told by a function of words -/
def sp_rst (K : PySem.W.Frag) (c : List Int → Prop) (f : List Int → List Int → Option (List Int)) : Sp := fun vs H Q _ => ∃ (x : V) (p q : Addr) (a b : List Int), vs = [x, .ref p, .ref q] ∧ SqT K H p (a.map V.int) ∧ SqT K H q (b.map V.int) ∧ a.length ≤ 120 ∧ b.length ≤ 120 ∧ (c a ∧ c b) ∧
  ∀ v H', Same H H' → Kz.FoundD K H' v (f a b) → Q v H'
theorem cut_to (u : List Int) (n : Nat) : cutI u none (some ((n : Nat) : Int)) = u.take n := by
  unfold cutI
  rw [HT.sIx_nat, HT.sIx_none, List.drop_zero, Nat.sub_zero, List.take_eq_take_iff]
  omega
theorem ok_Kind__rest_between (T : Txt P K mg A') : FnOk P w K mg base CX0 1 A'.f_Kind__rest_between A'.fd_Kind__rest_between ["self", "one", "other"] (sp_rst K (fun _ => True) Km.rstA) := by
  refine Hk.okM T.F_Kind__rest_between sc_Kind__rest_between (fun vs H Q E h => ?_) (fun cdv A outer s H vs Q E hr h => ?_)
  · obtain ⟨x, p, q, a, b, rfl, _⟩ := h
    rfl
  · obtain ⟨x, p, q, a, b, rfl, hp, hq, la, lb, hc, k⟩ := h
    have k1 : Km.rstA a b = none → ∀ H', Same H H' → Q .non H' := fun e H' s => k .non H' s (by rw [e] <;> rfl)
    have k2 : ∀ w, Km.rstA a b = some w → ∀ v H', Same H H' → Dp K H' v (wD w) → Q v H' := fun w e v H' s hv => k v H' s (by rw [e]; exact hv)
    refine ⟨_, (pss_cons (ps_if (pt_cmpR (op_neD hr.units) (pe_slice sl_tupA (pv 2) po_none (po_some (pe_callB call_len_seq (by rfl) T.z_len (by decide +kernel) (pa_cons (pv 1) pa_nil)))) (pv 1) (nomark _)) (pss_one (ps_ret pe_non)) pss_nil)
    (pss_one (ps_ret (pe_slice sl_tupA (pv 2) (po_some (pe_callB call_len_seq (by rfl) T.z_len (by decide +kernel) (pa_cons (pv 1) pa_nil))) po_none)))), ?_⟩
    refine ⟨_, rfl, _, rfl, p, _, rfl, .inr hp, _, rfl, slA_fin hq fun r H1 s1 h1 => ?_⟩
    rw [List.length_map, cut_to] at h1
    refine ⟨_, rfl, _, _, w_mk h1, w_mk (seqT_same s1 hp), shaped_w _, shaped_w _, _, rfl, ?_⟩
    rw [eqv_w]
    refine if2 (fun c => ?_) (fun c => ?_)
    · have e : ¬ b.take a.length = a := by simpa using c
      exact k1 (if_neg e) _ s1
    have e : b.take a.length = a := by simpa using c
    have le : a.length ≤ b.length := by
      have := congrArg List.length e
      rw [List.length_take] at this
      omega
    refine ⟨_, rfl, _, rfl, p, _, rfl, .inr (seqT_same s1 hp), _, rfl, ?_⟩
    refine slA_fin (seqT_same s1 hq) fun r2 H2 s2 h2 => ?_
    rw [cut_drop (i := a.length) (by rw [List.length_map]) le] at h2
    exact k2 _ (if_pos e) _ _ (s1.trans s2) (w_mk h2)
/-! ### HeadsKind__rest_between -/

theorem ok_HeadsKind__rest_between (T : Txt P K mg A') : FnOk P w K mg base CX0 1 A'.f_HeadsKind__rest_between A'.fd_HeadsKind__rest_between ["self", "one", "other"] (sp_rst K (fun _ => True) Km.rstA) := by
  refine Hk.okM T.F_HeadsKind__rest_between sc_HeadsKind__rest_between (fun vs H Q E h => ?_) (fun cdv A outer s H vs Q E hr h => ?_)
  · obtain ⟨x, p, q, a, b, rfl, _⟩ := h
    rfl
  · obtain ⟨x, p, q, a, b, rfl, hp, hq, la, lb, hc, k⟩ := h
    have k1 : Km.rstA a b = none → ∀ H', Same H H' → Q .non H' := fun e H' s => k .non H' s (by rw [e] <;> rfl)
    have k2 : ∀ w, Km.rstA a b = some w → ∀ v H', Same H H' → Dp K H' v (wD w) → Q v H' := fun w e v H' s hv => k v H' s (by rw [e]; exact hv)
    refine ⟨_, (pss_cons (ps_if (pt_cmpR (op_neD hr.units) (pe_slice sl_tupA (pv 2) po_none (po_some (pe_callB call_len_seq (by rfl) T.z_len (by decide +kernel) (pa_cons (pv 1) pa_nil)))) (pv 1) (nomark _)) (pss_one (ps_ret pe_non)) pss_nil)
    (pss_one (ps_ret (pe_slice sl_tupA (pv 2) (po_some (pe_callB call_len_seq (by rfl) T.z_len (by decide +kernel) (pa_cons (pv 1) pa_nil))) po_none)))), ?_⟩
    refine ⟨_, rfl, _, rfl, p, _, rfl, .inr hp, _, rfl, slA_fin hq fun r H1 s1 h1 => ?_⟩
    rw [List.length_map, cut_to] at h1
    refine ⟨_, rfl, _, _, w_mk h1, w_mk (seqT_same s1 hp), shaped_w _, shaped_w _, _, rfl, ?_⟩
    rw [eqv_w]
    refine if2 (fun c => ?_) (fun c => ?_)
    · have e : ¬ b.take a.length = a := by simpa using c
      exact k1 (if_neg e) _ s1
    have e : b.take a.length = a := by simpa using c
    have le : a.length ≤ b.length := by
      have := congrArg List.length e
      rw [List.length_take] at this
      omega
    refine ⟨_, rfl, _, rfl, p, _, rfl, .inr (seqT_same s1 hp), _, rfl, ?_⟩
    refine slA_fin (seqT_same s1 hq) fun r2 H2 s2 h2 => ?_
    rw [cut_drop (i := a.length) (by rw [List.length_map]) le] at h2
    exact k2 _ (if_pos e) _ _ (s1.trans s2) (w_mk h2)
/-! ### FirstKind__rest_between -/

theorem ok_FirstKind__rest_between (T : Txt P K mg A') : FnOk P w K mg base CX0 1 A'.f_FirstKind__rest_between A'.fd_FirstKind__rest_between ["self", "one", "other"] (sp_rst K (fun _ => True) Km.rstA) := by
  refine Hk.okM T.F_FirstKind__rest_between sc_FirstKind__rest_between (fun vs H Q E h => ?_) (fun cdv A outer s H vs Q E hr h => ?_)
  · obtain ⟨x, p, q, a, b, rfl, _⟩ := h
    rfl
  · obtain ⟨x, p, q, a, b, rfl, hp, hq, la, lb, hc, k⟩ := h
    have k1 : Km.rstA a b = none → ∀ H', Same H H' → Q .non H' := fun e H' s => k .non H' s (by rw [e] <;> rfl)
    have k2 : ∀ w, Km.rstA a b = some w → ∀ v H', Same H H' → Dp K H' v (wD w) → Q v H' := fun w e v H' s hv => k v H' s (by rw [e]; exact hv)
    refine ⟨_, (pss_cons (ps_if (pt_cmpR (op_neD hr.units) (pe_slice sl_tupA (pv 2) po_none (po_some (pe_callB call_len_seq (by rfl) T.z_len (by decide +kernel) (pa_cons (pv 1) pa_nil)))) (pv 1) (nomark _)) (pss_one (ps_ret pe_non)) pss_nil)
    (pss_one (ps_ret (pe_slice sl_tupA (pv 2) (po_some (pe_callB call_len_seq (by rfl) T.z_len (by decide +kernel) (pa_cons (pv 1) pa_nil))) po_none)))), ?_⟩
    refine ⟨_, rfl, _, rfl, p, _, rfl, .inr hp, _, rfl, slA_fin hq fun r H1 s1 h1 => ?_⟩
    rw [List.length_map, cut_to] at h1
    refine ⟨_, rfl, _, _, w_mk h1, w_mk (seqT_same s1 hp), shaped_w _, shaped_w _, _, rfl, ?_⟩
    rw [eqv_w]
    refine if2 (fun c => ?_) (fun c => ?_)
    · have e : ¬ b.take a.length = a := by simpa using c
      exact k1 (if_neg e) _ s1
    have e : b.take a.length = a := by simpa using c
    have le : a.length ≤ b.length := by
      have := congrArg List.length e
      rw [List.length_take] at this
      omega
    refine ⟨_, rfl, _, rfl, p, _, rfl, .inr (seqT_same s1 hp), _, rfl, ?_⟩
    refine slA_fin (seqT_same s1 hq) fun r2 H2 s2 h2 => ?_
    rw [cut_drop (i := a.length) (by rw [List.length_map]) le] at h2
    exact k2 _ (if_pos e) _ _ (s1.trans s2) (w_mk h2)
/-! ### BagKind__rest_between -/

theorem ok_BagKind__rest_between (T : Txt P K mg A') : FnOk P w K mg base CX0 1 A'.f_BagKind__rest_between A'.fd_BagKind__rest_between ["self", "one", "other"] (sp_rst K (fun _ => True) Km.bagR) := by
  refine Hk.okM T.F_BagKind__rest_between sc_BagKind__rest_between (fun vs H Q E h => ?_) (fun cdv A outer s H vs Q E hr h => ?_)
  · obtain ⟨x, p, q, a, b, rfl, _⟩ := h
    rfl
  · obtain ⟨x, p, q, a, b, rfl, hp, hq, la, lb, hc, k⟩ := h
    have k1 : Km.bagR a b = none → ∀ H', Same H H' → Q .non H' := fun e H' s => k .non H' s (by rw [e] <;> rfl)
    have k2 : ∀ w, Km.bagR a b = some w → ∀ v H', Same H H' → Dp K H' v (wD w) → Q v H' := fun w e v H' s hv => k v H' s (by rw [e]; exact hv)
    refine ⟨_, (pss_cons (ps_set (i := 3) sc_BagKind__rest_between.nd rfl (Or.inr rfl) pe_dnewK)
    (pss_cons (ps_for PassesOwn.never rfl (pi_tup (pv 2)) (pg_name (i := 4) sc_BagKind__rest_between.nd rfl (Or.inl rfl)) (pss_one (ps_asg (pe_op op_add (pe_dget2 (hu_of hr) (pv 3) (pv 4) pe_int ⟨by rfl, by rfl, by rfl, by rfl⟩) pe_int) (pg_sub (pv 3) (pv 4) (set_dict (hu_of hr))))))
    (pss_cons (ps_for PassesOwn.never rfl (pi_tup (pv 1)) (pg_name (i := 4) sc_BagKind__rest_between.nd rfl (Or.inl rfl)) (pss_cons (ps_if (pt_cmpR op_eq (pe_dget2 (hu_of hr) (pv 3) (pv 4) pe_int ⟨by rfl, by rfl, by rfl, by rfl⟩) pe_int (nomark _)) (pss_one (ps_ret pe_non)) pss_nil)
    (pss_one (ps_daug (hu_of hr) (pv 3) (pv 4) pe_int in_sub (fun _ _ _ => rfl)))))
    (pss_one (ps_ret (pe_callTy call_tuple_of (by rfl) T.z_tuple (by decide +kernel) (pa_cons (pe_lock (pe_lc2 (own := [("letter", 4), ("_", 5)]) (vs1 := [5]) (g := gName 4) (g1 := gName 5) (tt := tYes) (tt1 := tYes) (by rfl) sc_BagKind__rest_between.nd (pi_keys (pv 3)) (blkOk_by (own := [("letter", 4), ("_", 5)]) (N := ["self", "one", "other", "spare", "letter", "_"]) (sc := defScope s_BagKind__rest_between) (by decide +kernel)) (by decide) (fun _ _ _ _ _ => (pg_name (i := 4) sc_BagKind__rest_between.nd rfl (Or.inl rfl))) (fun _ _ _ _ _ => pts_nil) (fun _ _ _ _ _ => (pi_range1 (by rfl) T.z_range (pa_cons (pe_dget (hu_of hr) (pv 3) (pv 4) (fun _ _ => rfl)) pa_nil))) (fun _ _ _ _ _ => (pg_name (i := 5) sc_BagKind__rest_between.nd rfl (Or.inl rfl))) (fun _ _ _ _ _ => pts_nil) (fun _ _ _ _ _ => (pv 4)))) pa_nil))))))), ?_⟩
    refine fun D nD => ?_
    refine ⟨_, rfl, q, rfl, ⟨_, seqT_same (same_new nD) hq⟩, for_tup (K := K) (a := q) (xs := b.map V.int) (fun i σ' H' => ∃ l, σ' = [some x, some (.ref p), some (.ref q), some (.ref D), l, none] ∧ Same H H' ∧ H' D = some (.dK (dnV (Km.tally (b.take i))))) ⟨none, rfl, same_new nD, upd_same⟩ (fun i σ' H' _ ⟨_, _, s, _⟩ => seqT_same s hq) ?_ ?_⟩
    · rintro i y σ' H' hi ⟨l, rfl, s, hD⟩
      obtain ⟨z, hz, rfl⟩ := map_some hi
      have ok := Km.tally_okN (b.take i)
      rw [List.length_take] at ok
      refine ⟨_, rfl, D, rfl, .inl ⟨_, .inl hD⟩, _, rfl, _, DGet.k (k := Sum.inl z) hD, ?_⟩
      rw [get_dn]
      refine ⟨_, _, rfl, rfl, _, rfl, _, rfl, D, _, rfl, DPut.k (k := Sum.inl z) hD (by rw [dn_len]; have := ok.len; exact small1000 (by omega)), ?_⟩
      refine ⟨_, rfl, same_mut s nD, ?_⟩
      rw [upd_same, Km.tally_take hz]
      exact congrArg (fun u => some (HO.dK u)) (put_dn _ z (Km.getN (Km.tally (b.take i)) z + 1) ok.nd)
    rintro σ' H' ⟨l, rfl, s, hD⟩
    rw [List.length_map, List.take_length] at hD
    refine ⟨_, rfl, p, rfl, ⟨_, seqT_same s hp⟩, for_tup (K := K) (a := p) (xs := a.map V.int) (fun i σ' H' => ∃ l d, σ' = [some x, some (.ref p), some (.ref q), some (.ref D), l, none] ∧ Same H H' ∧ Km.takeN (a.take i) (Km.tally b) = some d ∧ Km.DnOk d (120 + i) ∧ H' D = some (.dK (dnV d))) ⟨l, _, rfl, s, rfl, ?_, hD⟩ (fun i σ' H' _ ⟨_, _, _, s, _⟩ => seqT_same s hp) ?_ ?_⟩
    · have := Km.tally_okN b
      exact ⟨this.nd, Nat.le_trans this.len lb, Nat.le_trans this.sum lb⟩
    · rintro i y σ' H' hi ⟨l, d, rfl, s, e, ok, hD⟩
      obtain ⟨z, hz, rfl⟩ := map_some hi
      have hia : i < a.length := (List.getElem?_eq_some_iff.mp hz).1
      refine ⟨_, rfl, D, rfl, .inl ⟨_, .inl hD⟩, _, rfl, _, DGet.k (k := Sum.inl z) hD, ?_⟩
      rw [get_dn]
      refine ⟨rfl, _, rfl, if2 (fun c => ?_) (fun c => ?_)⟩
      · have g0 : Km.getN d z = 0 := by simpa using c
        refine k1 ?_ _ s
        show (Km.takeN a (Km.tally b)).map Km.flatN = none
        rw [Km.take_none hz e g0]
        rfl
      · have g0 : Km.getN d z ≠ 0 := by simpa using c
        have ez := Km.take_snoc hz e
        rw [if_neg g0] at ez
        have hk : z ∈ Km.keysN d := Decidable.byContradiction fun w => g0 (Km.getN_not w)
        refine ⟨_, rfl, _, rfl, D, .int (Km.getN d z : Int), rfl, ?_, _, _, rfl, rfl, _, DPut.k (k := Sum.inl z) hD (by rw [dn_len]; have := ok.len; exact small1000 (by omega)), ?_⟩
        · have := DGet.k (k := Sum.inl z) hD
          rw [valV_dn, if_pos hk] at this
          exact this
        · refine ⟨_, _, rfl, same_mut s nD, ez, by have := ok.dec z; exact this, ?_⟩
          rw [upd_same]
          have := put_dn d z (Km.getN d z - 1) ok.nd
          rw [show ((Km.getN d z - 1 : Nat) : Int) = (Km.getN d z : Int) - 1 by omega] at this
          exact congrArg (fun u => some (HO.dK u)) this
    rintro σ' H' ⟨l, d, rfl, s, e, ok, hD⟩
    rw [List.length_map, List.take_length] at e
    rw [List.length_map] at ok
    refine ⟨D, _, hD, trivial, fun od => ?_⟩
    have sL : ∀ H2, Same (upd H' D (.frz od (.dK (dnV d)))) H2 → Same H (upd H2 D (.dK (dnV d))) := fun H2 s2 c o hc => by
      have hcD : c ≠ D := ne_of_none hc nD
      rw [upd_ne hcD]
      exact s2 _ _ (by rw [upd_ne hcD]; exact s _ _ hc)
    refine ⟨_, rfl, D, od, rfl, .inl ⟨_, upd_same, fun L nL => ?_⟩⟩
    have hDf : ∀ H2, Same (upd H' D (.frz od (.dK (dnV d)))) H2 → H2 D = some (.frz od (.dK (dnV d))) := fun H2 s2 => s2 _ _ upd_same
    refine lc2_keys (kvs := dnV d) (fun i H2 => Same (upd H' D (.frz od (.dK (dnV d)))) H2 ∧ H2 L = some (.lst ((Km.flatN (d.take i)).map V.int))) ⟨same_new nL, upd_same⟩ (fun i H2 _ ⟨s2, _⟩ => hDf H2 s2) ?_ ?_
    · rintro H2 ⟨s2, hL⟩
      rw [dn_len, List.take_length] at hL
      have nLD : L ≠ D := fun z => by rw [z, upd_same] at nL; cases nL
      refine ⟨hDf H2 s2, L, _, rfl, .inl ⟨SqL.of (by rw [upd_ne nLD]; exact hL), fun t nt => ?_⟩⟩
      refine k2 (Km.flatN d) ?_ _ _ ((sL H2 s2).trans (same_new nt)) (w_new nt)
      show (Km.takeN a (Km.tally b)).map Km.flatN = _
      rw [e]
      rfl
    · rintro i k v H2 hi ⟨s2, hL⟩
      obtain ⟨z, n, hz, rfl, rfl⟩ := dn_get hi
      have ft := Km.flat_take hz
      have hle := Km.flat_le d (i + 1)
      rw [ft, List.length_append, List.length_replicate] at hle
      have hs := ok.sum
      refine ⟨rfl, ?_⟩
      refine ⟨_, rfl, _, rfl, D, _, rfl, .inl ⟨_, Sum.inl z, .inr ⟨od, hDf H2 s2⟩, rfl, valV_at ok.nd hz⟩, _, rfl, by omega, by omega, ?_⟩
      refine in2_range (fun j H3 => Same (upd H' D (.frz od (.dK (dnV d)))) H3 ∧ H3 L = some (.lst ((Km.flatN (d.take i) ++ List.replicate j z).map V.int))) ⟨s2, by simpa using hL⟩ ?_ ?_
      · rintro H3 ⟨s3, h3⟩
        rw [Int.toNat_natCast] at h3
        exact ⟨s3, by rw [ft]; exact h3⟩
      · rintro j H3 hj ⟨s3, h3⟩
        rw [Int.toNat_natCast] at hj
        refine ⟨rfl, _, rfl, _, h3, ?_, same_mut s3 nL, ?_⟩
        · rw [List.length_map, List.length_append, List.length_replicate]
          exact small1000 (by omega)
        · rw [upd_same, List.replicate_succ', ← List.append_assoc, List.map_append, List.map_append, List.map_append]
          rfl
/-! ### SetKind__rest_between -/

theorem ok_SetKind__rest_between (T : Txt P K mg A') : FnOk P w K mg base CX0 1 A'.f_SetKind__rest_between A'.fd_SetKind__rest_between ["self", "one", "other"] (sp_rst K (fun _ => True) Km.bagR) := by
  refine Hk.okM T.F_SetKind__rest_between sc_SetKind__rest_between (fun vs H Q E h => ?_) (fun cdv A outer s H vs Q E hr h => ?_)
  · obtain ⟨x, p, q, a, b, rfl, _⟩ := h
    rfl
  · obtain ⟨x, p, q, a, b, rfl, hp, hq, la, lb, hc, k⟩ := h
    have k1 : Km.bagR a b = none → ∀ H', Same H H' → Q .non H' := fun e H' s => k .non H' s (by rw [e] <;> rfl)
    have k2 : ∀ w, Km.bagR a b = some w → ∀ v H', Same H H' → Dp K H' v (wD w) → Q v H' := fun w e v H' s hv => k v H' s (by rw [e]; exact hv)
    refine ⟨_, (pss_cons (ps_set (i := 3) sc_SetKind__rest_between.nd rfl (Or.inr rfl) pe_dnewK)
    (pss_cons (ps_for PassesOwn.never rfl (pi_tup (pv 2)) (pg_name (i := 4) sc_SetKind__rest_between.nd rfl (Or.inl rfl)) (pss_one (ps_asg (pe_op op_add (pe_dget2 (hu_of hr) (pv 3) (pv 4) pe_int ⟨by rfl, by rfl, by rfl, by rfl⟩) pe_int) (pg_sub (pv 3) (pv 4) (set_dict (hu_of hr))))))
    (pss_cons (ps_for PassesOwn.never rfl (pi_tup (pv 1)) (pg_name (i := 4) sc_SetKind__rest_between.nd rfl (Or.inl rfl)) (pss_cons (ps_if (pt_cmpR op_eq (pe_dget2 (hu_of hr) (pv 3) (pv 4) pe_int ⟨by rfl, by rfl, by rfl, by rfl⟩) pe_int (nomark _)) (pss_one (ps_ret pe_non)) pss_nil)
    (pss_one (ps_daug (hu_of hr) (pv 3) (pv 4) pe_int in_sub (fun _ _ _ => rfl)))))
    (pss_one (ps_ret (pe_callTy call_tuple_of (by rfl) T.z_tuple (by decide +kernel) (pa_cons (pe_lock (pe_lc2 (own := [("letter", 4), ("_", 5)]) (vs1 := [5]) (g := gName 4) (g1 := gName 5) (tt := tYes) (tt1 := tYes) (by rfl) sc_SetKind__rest_between.nd (pi_keys (pv 3)) (blkOk_by (own := [("letter", 4), ("_", 5)]) (N := ["self", "one", "other", "spare", "letter", "_"]) (sc := defScope s_SetKind__rest_between) (by decide +kernel)) (by decide) (fun _ _ _ _ _ => (pg_name (i := 4) sc_SetKind__rest_between.nd rfl (Or.inl rfl))) (fun _ _ _ _ _ => pts_nil) (fun _ _ _ _ _ => (pi_range1 (by rfl) T.z_range (pa_cons (pe_dget (hu_of hr) (pv 3) (pv 4) (fun _ _ => rfl)) pa_nil))) (fun _ _ _ _ _ => (pg_name (i := 5) sc_SetKind__rest_between.nd rfl (Or.inl rfl))) (fun _ _ _ _ _ => pts_nil) (fun _ _ _ _ _ => (pv 4)))) pa_nil))))))), ?_⟩
    refine fun D nD => ?_
    refine ⟨_, rfl, q, rfl, ⟨_, seqT_same (same_new nD) hq⟩, for_tup (K := K) (a := q) (xs := b.map V.int) (fun i σ' H' => ∃ l, σ' = [some x, some (.ref p), some (.ref q), some (.ref D), l, none] ∧ Same H H' ∧ H' D = some (.dK (dnV (Km.tally (b.take i))))) ⟨none, rfl, same_new nD, upd_same⟩ (fun i σ' H' _ ⟨_, _, s, _⟩ => seqT_same s hq) ?_ ?_⟩
    · rintro i y σ' H' hi ⟨l, rfl, s, hD⟩
      obtain ⟨z, hz, rfl⟩ := map_some hi
      have ok := Km.tally_okN (b.take i)
      rw [List.length_take] at ok
      refine ⟨_, rfl, D, rfl, .inl ⟨_, .inl hD⟩, _, rfl, _, DGet.k (k := Sum.inl z) hD, ?_⟩
      rw [get_dn]
      refine ⟨_, _, rfl, rfl, _, rfl, _, rfl, D, _, rfl, DPut.k (k := Sum.inl z) hD (by rw [dn_len]; have := ok.len; exact small1000 (by omega)), ?_⟩
      refine ⟨_, rfl, same_mut s nD, ?_⟩
      rw [upd_same, Km.tally_take hz]
      exact congrArg (fun u => some (HO.dK u)) (put_dn _ z (Km.getN (Km.tally (b.take i)) z + 1) ok.nd)
    rintro σ' H' ⟨l, rfl, s, hD⟩
    rw [List.length_map, List.take_length] at hD
    refine ⟨_, rfl, p, rfl, ⟨_, seqT_same s hp⟩, for_tup (K := K) (a := p) (xs := a.map V.int) (fun i σ' H' => ∃ l d, σ' = [some x, some (.ref p), some (.ref q), some (.ref D), l, none] ∧ Same H H' ∧ Km.takeN (a.take i) (Km.tally b) = some d ∧ Km.DnOk d (120 + i) ∧ H' D = some (.dK (dnV d))) ⟨l, _, rfl, s, rfl, ?_, hD⟩ (fun i σ' H' _ ⟨_, _, _, s, _⟩ => seqT_same s hp) ?_ ?_⟩
    · have := Km.tally_okN b
      exact ⟨this.nd, Nat.le_trans this.len lb, Nat.le_trans this.sum lb⟩
    · rintro i y σ' H' hi ⟨l, d, rfl, s, e, ok, hD⟩
      obtain ⟨z, hz, rfl⟩ := map_some hi
      have hia : i < a.length := (List.getElem?_eq_some_iff.mp hz).1
      refine ⟨_, rfl, D, rfl, .inl ⟨_, .inl hD⟩, _, rfl, _, DGet.k (k := Sum.inl z) hD, ?_⟩
      rw [get_dn]
      refine ⟨rfl, _, rfl, if2 (fun c => ?_) (fun c => ?_)⟩
      · have g0 : Km.getN d z = 0 := by simpa using c
        refine k1 ?_ _ s
        show (Km.takeN a (Km.tally b)).map Km.flatN = none
        rw [Km.take_none hz e g0]
        rfl
      · have g0 : Km.getN d z ≠ 0 := by simpa using c
        have ez := Km.take_snoc hz e
        rw [if_neg g0] at ez
        have hk : z ∈ Km.keysN d := Decidable.byContradiction fun w => g0 (Km.getN_not w)
        refine ⟨_, rfl, _, rfl, D, .int (Km.getN d z : Int), rfl, ?_, _, _, rfl, rfl, _, DPut.k (k := Sum.inl z) hD (by rw [dn_len]; have := ok.len; exact small1000 (by omega)), ?_⟩
        · have := DGet.k (k := Sum.inl z) hD
          rw [valV_dn, if_pos hk] at this
          exact this
        · refine ⟨_, _, rfl, same_mut s nD, ez, by have := ok.dec z; exact this, ?_⟩
          rw [upd_same]
          have := put_dn d z (Km.getN d z - 1) ok.nd
          rw [show ((Km.getN d z - 1 : Nat) : Int) = (Km.getN d z : Int) - 1 by omega] at this
          exact congrArg (fun u => some (HO.dK u)) this
    rintro σ' H' ⟨l, d, rfl, s, e, ok, hD⟩
    rw [List.length_map, List.take_length] at e
    rw [List.length_map] at ok
    refine ⟨D, _, hD, trivial, fun od => ?_⟩
    have sL : ∀ H2, Same (upd H' D (.frz od (.dK (dnV d)))) H2 → Same H (upd H2 D (.dK (dnV d))) := fun H2 s2 c o hc => by
      have hcD : c ≠ D := ne_of_none hc nD
      rw [upd_ne hcD]
      exact s2 _ _ (by rw [upd_ne hcD]; exact s _ _ hc)
    refine ⟨_, rfl, D, od, rfl, .inl ⟨_, upd_same, fun L nL => ?_⟩⟩
    have hDf : ∀ H2, Same (upd H' D (.frz od (.dK (dnV d)))) H2 → H2 D = some (.frz od (.dK (dnV d))) := fun H2 s2 => s2 _ _ upd_same
    refine lc2_keys (kvs := dnV d) (fun i H2 => Same (upd H' D (.frz od (.dK (dnV d)))) H2 ∧ H2 L = some (.lst ((Km.flatN (d.take i)).map V.int))) ⟨same_new nL, upd_same⟩ (fun i H2 _ ⟨s2, _⟩ => hDf H2 s2) ?_ ?_
    · rintro H2 ⟨s2, hL⟩
      rw [dn_len, List.take_length] at hL
      have nLD : L ≠ D := fun z => by rw [z, upd_same] at nL; cases nL
      refine ⟨hDf H2 s2, L, _, rfl, .inl ⟨SqL.of (by rw [upd_ne nLD]; exact hL), fun t nt => ?_⟩⟩
      refine k2 (Km.flatN d) ?_ _ _ ((sL H2 s2).trans (same_new nt)) (w_new nt)
      show (Km.takeN a (Km.tally b)).map Km.flatN = _
      rw [e]
      rfl
    · rintro i k v H2 hi ⟨s2, hL⟩
      obtain ⟨z, n, hz, rfl, rfl⟩ := dn_get hi
      have ft := Km.flat_take hz
      have hle := Km.flat_le d (i + 1)
      rw [ft, List.length_append, List.length_replicate] at hle
      have hs := ok.sum
      refine ⟨rfl, ?_⟩
      refine ⟨_, rfl, _, rfl, D, _, rfl, .inl ⟨_, Sum.inl z, .inr ⟨od, hDf H2 s2⟩, rfl, valV_at ok.nd hz⟩, _, rfl, by omega, by omega, ?_⟩
      refine in2_range (fun j H3 => Same (upd H' D (.frz od (.dK (dnV d)))) H3 ∧ H3 L = some (.lst ((Km.flatN (d.take i) ++ List.replicate j z).map V.int))) ⟨s2, by simpa using hL⟩ ?_ ?_
      · rintro H3 ⟨s3, h3⟩
        rw [Int.toNat_natCast] at h3
        exact ⟨s3, by rw [ft]; exact h3⟩
      · rintro j H3 hj ⟨s3, h3⟩
        rw [Int.toNat_natCast] at hj
        refine ⟨rfl, _, rfl, _, h3, ?_, same_mut s3 nL, ?_⟩
        · rw [List.length_map, List.length_append, List.length_replicate]
          exact small1000 (by omega)
        · rw [upd_same, List.replicate_succ', ← List.append_assoc, List.map_append, List.map_append, List.map_append]
          rfl
/-! ### TailsKind__rest_between -/

theorem ok_TailsKind__rest_between (T : Txt P K mg A') : FnOk P w K mg base CX0 1 A'.f_TailsKind__rest_between A'.fd_TailsKind__rest_between ["self", "one", "other"] (sp_rst K (fun l => List.Nodup l ∧ l.length ≤ 31) Km.tails0) := by
  refine Hk.okM T.F_TailsKind__rest_between sc_TailsKind__rest_between (fun vs H Q E h => ?_) (fun cdv A outer s H vs Q E hr h => ?_)
  · obtain ⟨x, p, q, a, b, rfl, _⟩ := h
    rfl
  · obtain ⟨x, p, q, a, b, rfl, hp, hq, _, _, ⟨⟨hc, la⟩, _, lb⟩, k⟩ := h
    have k1 : Km.tails0 a b = none → ∀ H', Same H H' → Q .non H' := fun e H' s => k .non H' s (by rw [e] <;> rfl)
    have k2 : ∀ w, Km.tails0 a b = some w → ∀ v H', Same H H' → Dp K H' v (wD w) → Q v H' := fun w e v H' s hv => k v H' s (by rw [e]; exact hv)
    refine ⟨_, (pss_cons (ps_if (pt_cmpR op_gt (pe_callB Kg.call_lenS (by rfl) T.z_len (by decide +kernel) (pa_cons (pe_op Kg.op_sub_set (pe_callTy (Kd.cr_setOf rfl) (by rfl) T.z_set (by decide +kernel) (pa_cons (pv 1) pa_nil)) (pe_callTy (Kd.cr_setOf rfl) (by rfl) T.z_set (by decide +kernel) (pa_cons (pv 2) pa_nil))) pa_nil)) pe_int (nomark _)) (pss_one (ps_ret pe_non)) pss_nil)
    (pss_cons (Kz.ps_setDc (i := 3) (own := [("place", 4), ("letter", 5)]) (g := gTup K 2 (gCons (gName 4) (gCons (gName 5) (gNil)))) (tt := tYes) (by rfl) sc_TailsKind__rest_between.nd rfl rfl (Kz.sw_dict rfl rfl rfl (by decide +kernel)) (Kc.pi_enT (by rfl) T.z_enumerate (pa_cons (pv 1) pa_nil)) (blkOk_by (own := [("place", 4), ("letter", 5)]) (N := ["self", "one", "other", "places", "place", "letter", "kept", "before"]) (sc := defScope s_TailsKind__rest_between) (by decide +kernel)) (fun _ _ _ _ _ => (pg_tup (by rfl) (pgs_cons (pg_name (i := 4) sc_TailsKind__rest_between.nd rfl (Or.inl rfl)) (pgs_cons (pg_name (i := 5) sc_TailsKind__rest_between.nd rfl (Or.inl rfl)) pgs_nil)))) (fun _ _ _ _ _ => pts_nil) (fun _ _ _ _ _ => (pv 5)) (fun _ _ _ _ _ => (pv 4)))
    (pss_cons (ps_set (i := 6) sc_TailsKind__rest_between.nd rfl (Or.inl rfl) pe_int)
    (pss_cons (ps_set (i := 7) sc_TailsKind__rest_between.nd rfl (Or.inl rfl) (pe_un un_neg pe_int))
    (pss_cons (ps_for PassesOwn.never rfl (pi_tup (pv 2)) (pg_name (i := 5) sc_TailsKind__rest_between.nd rfl (Or.inl rfl)) (pss_cons (ps_set (i := 4) sc_TailsKind__rest_between.nd rfl (Or.inl rfl) (pe_dget2 (hu_of hr) (pv 3) (pv 5) (pe_un un_neg pe_int) ⟨by rfl, by rfl, by rfl, by rfl⟩))
    (pss_cons (ps_if (pt_cmpR op_le (pv 4) (pv 7) (nomark _)) (pss_one ps_break) pss_nil)
    (pss_cons (ps_set (i := 7) sc_TailsKind__rest_between.nd rfl (Or.inl rfl) (pv 4))
    (pss_one (ps_aug (i := 6) sc_TailsKind__rest_between.nd rfl (.inl rfl) pe_int ip_add))))))
    (pss_one (ps_ret (pe_slice sl_tupA (pv 2) (po_some (pv 6)) po_none)))))))), ?_⟩
    refine ⟨_, rfl, p, a, rfl, .inr hp, by omega, fun u c nu hcu => ?_⟩
    have su := same_new (o := SetO w u (fun j => decide (j ∈ a)) c) nu
    refine ⟨_, rfl, q, b, rfl, .inr (seqT_same su hq), by omega, fun y d ny hd => ?_⟩
    have sy := su.trans (same_new (o := SetO w y (fun j => decide (j ∈ b)) d) ny)
    refine ⟨u, y, _, _, c, d, rfl, rfl, (same_new ny) _ _ upd_same, upd_same, by omega, fun r e nr => ?_⟩
    have sr := sy.trans (same_new (o := SetO w r (fun k => decide (k ∈ a) && !decide (k ∈ b)) e) nr)
    refine ⟨r, _, e, rfl, upd_same, fun ez => ?_⟩
    have ez' : e = 0 ↔ (a.all fun x => decide (x ∈ b)) = true := by
      rw [ez, List.all_eq_true]
      constructor
      · intro h z hz
        have := h z
        simp only [hz, decide_true, Bool.true_and, Bool.not_eq_false', decide_eq_true_eq] at this
        exact decide_eq_true this
      · intro h z
        by_cases hz : z ∈ a
        · have := of_decide_eq_true (h z hz)
          simp [this]
        · simp [hz]
    refine ⟨_, _, rfl, rfl, _, rfl, if2 (fun g => ?_) (fun g => ?_)⟩
    · have g0 : e ≠ 0 := fun z => by rw [z] at g; exact absurd g (by decide)
      refine k1 ?_ _ sr
      unfold Km.tails0
      rw [if_neg (fun z => g0 (ez'.mpr z))]
    have g0 : e = 0 := by
      have := of_decide_eq_false g
      omega
    have hall := ez'.mp g0
    have k2' := k2 (b.drop (Km.kq a b)) (if_pos hall)
    refine ⟨_, rfl, p, _, rfl, seqT_same sr hp, fun D nD => ?_⟩
    refine Kz.dc_enT (K := K) (a := p) (xs := a.map V.int) (fun i H2 => Same H H2 ∧ H2 D = some (.dK (Kz.plV (a.take i)))) ⟨sr.trans (same_new nD), upd_same⟩ (fun i H2 _ ⟨s2, _⟩ => seqT_same s2 hp) ?_ ?_
    · rintro i y2 H2 T2 hi ⟨s2, h2⟩ nT
      obtain ⟨z, hz, rfl⟩ := map_some hi
      have hia : i < a.length := (List.getElem?_eq_some_iff.mp hz).1
      have nDH : H D = none := by
        cases h0 : H D with
        | none => rfl
        | some o => exact absurd ((sr _ _ h0).symm.trans nD) (fun z => by cases z)
      have nDT : D ≠ T2 := ne_of_none h2 nT
      refine ⟨T2, _, rfl, .inl (.inl upd_same), rfl, _, _, rfl, _, _, rfl, rfl, rfl, _, rfl, _, rfl, _, Sum.inl z, rfl, by rw [upd_ne nDT]; exact h2, ?_, same_mut (s2.trans (same_new nT)) nDH, ?_⟩
      · unfold Kz.plV
        rw [List.length_map, List.length_zipIdx, List.length_take]
        exact small1000 (by omega)
      · rw [upd_same, Kz.pl_snoc hc hz]
    rintro H2 ⟨s2, h2⟩
    rw [List.length_map, List.take_length] at h2
    refine ⟨_, rfl, _, rfl, q, rfl, ⟨_, seqT_same s2 hq⟩, for_tup (K := K) (a := q) (xs := b.map V.int) (fun i σ' H' => ∃ (pl l : Option V) (n : Nat), σ' = [some x, some (.ref p), some (.ref q), some (.ref D), pl, l, some (.int (i : Int)), some (.int ((n : Int) - 1))] ∧ Same H H' ∧ H' D = some (.dK (Kz.plV a)) ∧ Km.kq a b = i + Km.kq (a.drop n) (b.drop i)) ⟨_, _, 0, rfl, s2, h2, by rw [List.drop_zero, List.drop_zero]; omega⟩ (fun i σ' H' _ ⟨_, _, _, _, s, _⟩ => seqT_same s hq) ?_ ?_⟩
    · rintro i y3 σ' H' hi ⟨pl, l, n, rfl, s, hD, ek⟩
      obtain ⟨z, hz, rfl⟩ := map_some hi
      have hib : i < b.length := (List.getElem?_eq_some_iff.mp hz).1
      have stop : ¬ z ∈ a.drop n → Km.kq a b = i := fun no => by rw [ek, Km.kq_stop hz no]; rfl
      refine ⟨_, rfl, D, rfl, .inl ⟨_, .inl hD⟩, _, rfl, _, rfl, _, DGet.k (k := Sum.inl z) hD, ?_⟩
      rcases Kz.pl_get hc z with ⟨e1, e2⟩ | ⟨j, e1, e2⟩
      · rw [e1]
        refine ⟨_, rfl, _, rfl, _, _, rfl, rfl, _, rfl, ?_⟩
        refine ifT (by rw [decide_eq_true_eq]; omega) ?_
        have ki := stop fun m => e2 (List.mem_of_mem_drop m)
        refine ⟨_, rfl, _, rfl, _, rfl, slA_fin (seqT_same s hq) fun r2 H3 s3 h3 => ?_⟩
        rw [cut_drop rfl (by omega), ← ki] at h3
        exact k2' _ _ (s.trans s3) (w_mk h3)
      · rw [e2]
        refine ⟨_, rfl, _, rfl, _, _, rfl, rfl, _, rfl, ?_⟩
        refine if2 (fun g => ?_) (fun g => ?_)
        · have g1 := of_decide_eq_true g
          have ki := stop fun m => by have := (Km.mem_drop hc e1).mp m; omega
          refine ⟨_, rfl, _, rfl, _, rfl, slA_fin (seqT_same s hq) fun r2 H3 s3 h3 => ?_⟩
          rw [cut_drop rfl (by omega), ← ki] at h3
          exact k2' _ _ (s.trans s3) (w_mk h3)
        · have g1 := of_decide_eq_false g
          refine ⟨_, rfl, _, rfl, _, _, rfl, rfl, some (V.int (j : Int)), some (V.int z), j + 1, ?_, s, hD, ?_⟩
          · show [some x, some (V.ref p), some (V.ref q), some (V.ref D), some (V.int (j : Int)), some (V.int z), some (V.int ((i : Int) + 1)), some (V.int (j : Int))] = _
            rw [show (((j + 1 : Nat) : Int) - 1) = (j : Int) by omega]
            rfl
          · rw [ek, Km.kq_go hc hz e1 (by omega)]
            omega
    · rintro σ' H' ⟨pl, l, n, rfl, s, hD, ek⟩
      rw [List.length_map] at ek ⊢
      rw [Km.kq_end, Nat.add_zero] at ek
      refine ⟨_, rfl, _, rfl, _, rfl, slA_fin (seqT_same s hq) fun r2 H3 s3 h3 => ?_⟩
      rw [cut_drop rfl (Nat.le_refl _), ← ek] at h3
      exact k2' _ _ (s.trans s3) (w_mk h3)
/-! ### LastKind__rest_between -/

theorem ok_LastKind__rest_between (T : Txt P K mg A') : FnOk P w K mg base CX0 1 A'.f_LastKind__rest_between A'.fd_LastKind__rest_between ["self", "one", "other"] (sp_rst K (fun _ => True) Km.lst0) := by
  refine Hk.okM T.F_LastKind__rest_between sc_LastKind__rest_between (fun vs H Q E h => ?_) (fun cdv A outer s H vs Q E hr h => ?_)
  · obtain ⟨x, p, q, a, b, rfl, _⟩ := h
    rfl
  · obtain ⟨x, p, q, a, b, rfl, hp, hq, la, lb, hc, k⟩ := h
    have k1 : Km.lst0 a b = none → ∀ H', Same H H' → Q .non H' := fun e H' s => k .non H' s (by rw [e] <;> rfl)
    have k2 : ∀ w, Km.lst0 a b = some w → ∀ v H', Same H H' → Dp K H' v (wD w) → Q v H' := fun w e v H' s hv => k v H' s (by rw [e]; exact hv)
    refine ⟨_, (pss_cons (ps_if (pt_cmpR (op_eqD hr.units) (pv 1) (pv 2) (nomark _)) (pss_one (ps_ret (pe_tup pa_nil))) pss_nil)
    (pss_cons (ps_if (pt_cmpR (op_eqD hr.units) (pv 2) (pe_tup pa_nil) (nomark _)) (pss_one (ps_ret pe_non)) pss_nil)
    (pss_one (ps_ret (pv 2))))), ?_⟩
    refine ⟨_, rfl, _, rfl, _, _, w_mk hp, w_mk hq, shaped_w _, shaped_w _, _, rfl, ?_⟩
    rw [eqv_w]
    refine if2 (fun c => ?_) (fun c => ?_)
    · have e := of_decide_eq_true c
      exact ⟨Nat.zero_le _, fun z nz => k2 [] (if_pos e) _ _ (same_new nz) (w_mk (ns := []) (.inl (.inl upd_same)))⟩
    have e := of_decide_eq_false c
    refine ⟨_, rfl, Nat.zero_le _, fun z nz => ?_⟩
    have sz := same_new (o := .tup []) nz
    refine ⟨_, _, w_mk (seqT_same sz hq), w_mk (ns := []) (.inl (.inl upd_same)), shaped_w _, shaped_w _, _, rfl, ?_⟩
    rw [eqv_w]
    refine if2 (fun c2 => ?_) (fun c2 => ?_)
    · exact k1 (by unfold Km.lst0; rw [if_neg e, if_pos (of_decide_eq_true c2)]) _ sz
    · exact ⟨_, rfl, k2 b (by unfold Km.lst0; rw [if_neg e, if_neg (of_decide_eq_false c2)]) _ _ sz (w_mk (seqT_same sz hq))⟩
/-! ### EndsKind__rest_between -/

theorem ok_EndsKind__rest_between (T : Txt P K mg A') : FnOk P w K mg base CX0 1 A'.f_EndsKind__rest_between A'.fd_EndsKind__rest_between ["self", "one", "other"] (sp_rst K (fun _ => True) Km.end0) := by
  refine Hk.okM T.F_EndsKind__rest_between sc_EndsKind__rest_between (fun vs H Q E h => ?_) (fun cdv A outer s H vs Q E hr h => ?_)
  · obtain ⟨x, p, q, a, b, rfl, _⟩ := h
    rfl
  · obtain ⟨x, p, q, a, b, rfl, hp, hq, la, lb, hc, k⟩ := h
    have k1 : Km.end0 a b = none → ∀ H', Same H H' → Q .non H' := fun e H' s => k .non H' s (by rw [e] <;> rfl)
    have k2 : ∀ w, Km.end0 a b = some w → ∀ v H', Same H H' → Dp K H' v (wD w) → Q v H' := fun w e v H' s hv => k v H' s (by rw [e]; exact hv)
    refine ⟨_, (pss_cons (ps_if (pt_cmpR (op_eqD hr.units) (pv 1) (pv 2) (nomark _)) (pss_one (ps_ret (pe_tup pa_nil))) pss_nil)
    (pss_cons (ps_if (PW.pt (pw_and (pt_cmpR (op_neD hr.units) (pv 1) (pe_tup pa_nil) (nomark _)) (pw_and1 (pt_cmpR (op_neD hr.units) (pe_slice sl_tupA (pv 1) po_none (po_some pe_int)) (pe_slice sl_tupA (pv 2) po_none (po_some pe_int)) (nomark _))))) (pss_one (ps_ret pe_non)) pss_nil)
    (pss_one (ps_ret (pv 2))))), ?_⟩
    refine ⟨_, rfl, _, rfl, _, _, w_mk hp, w_mk hq, shaped_w _, shaped_w _, _, rfl, ?_⟩
    rw [eqv_w]
    refine if2 (fun c => ?_) (fun c => ?_)
    · have e := of_decide_eq_true c
      exact ⟨Nat.zero_le _, fun z nz => k2 [] (if_pos e) _ _ (same_new nz) (w_mk (ns := []) (.inl (.inl upd_same)))⟩
    have e := of_decide_eq_false c
    refine ⟨_, rfl, Nat.zero_le _, fun z nz => ?_⟩
    have sz := same_new (o := .tup []) nz
    have hp1 := seqT_same sz hp
    have hq1 := seqT_same sz hq
    refine ⟨_, _, w_mk hp1, w_mk (ns := []) (.inl (.inl upd_same)), shaped_w _, shaped_w _, _, rfl, ?_⟩
    rw [eqv_w]
    refine if2 (fun c2 => ?_) (fun c2 => ?_)
    · have na : a ≠ [] := by simpa using c2
      refine ⟨_, rfl, 1, rfl, slA_fin hp1 fun r H1 s1 h1 => ?_⟩
      refine ⟨_, rfl, 1, rfl, slA_fin (seqT_same s1 hq1) fun r2 H2 s2 h2 => ?_⟩
      rw [cut_first] at h1 h2
      refine ⟨_, _, w_mk (seqT_same s2 h1), w_mk h2, shaped_w _, shaped_w _, _, rfl, ?_⟩
      rw [eqv_w]
      have sf := (sz.trans s1).trans s2
      refine if2 (fun c3 => ?_) (fun c3 => ?_)
      · have e3 : ¬ a.take 1 = b.take 1 := by simpa using c3
        exact k1 (by unfold Km.end0; rw [if_neg e, if_pos ⟨na, e3⟩]) _ sf
      · have e3 : a.take 1 = b.take 1 := by simpa using c3
        exact ⟨_, rfl, k2 b (by unfold Km.end0; rw [if_neg e, if_neg (fun z => z.2 e3)]) _ _ sf (w_mk (seqT_same sf hq))⟩
    · have na : a = [] := by simpa using c2
      exact ⟨_, rfl, k2 b (by unfold Km.end0; rw [if_neg e, if_neg (fun z => z.1 na)]) _ _ sz (w_mk (seqT_same sz hq))⟩
/-! ### is_letter -/
def sp_is_letter (K : PySem.W.Frag) : Sp := fun vs H Q _ => ∃ (v : V) (d : PyData), vs = [v] ∧ Dp K H v d ∧ Q (.bl (isL d)) H
theorem ok_is_letter (T : Txt P K mg A') : FnOk P w K mg base CX0 1 A'.f_is_letter A'.fd_is_letter ["thing"] (sp_is_letter K) := by
  refine Hk.okN T.F_is_letter sc_is_letter (fun vs H Q E h => ?_) (fun cdv A outer s H vs Q E hr h => ?_)
  · obtain ⟨v, d, rfl, _⟩ := h
    rfl
  · obtain ⟨tk_GREATEST_LETTER, c_GREATEST_LETTER⟩ := T.c_GREATEST_LETTER
    obtain ⟨v, d, rfl, hd, k⟩ := h
    refine ⟨_, (pss_one (ps_ret (pe_and (pe_callB call_isD (by rfl) T.z_isinstance (by decide +kernel) (pa_cons (pv 0) (pa_cons (pe_bltn (v := .ty "int") (by rfl) T.z_int (by decide +kernel) rfl) pa_nil))) (pe_and (pe_not (pe_callB call_isD (by rfl) T.z_isinstance (by decide +kernel) (pa_cons (pv 0) (pa_cons (pe_bltn (v := .ty "bool") (by rfl) T.z_bool (by decide +kernel) rfl) pa_nil)))) (pe_one (pe_chain op_le op_le pe_int (pv 0) (pe_glob (v := .int 999999999) rfl c_GREATEST_LETTER ⟨_, rfl⟩))))))), ?_⟩
    refine ⟨_, rfl, _, _, _, rfl, okT_int, hd, _, rfl, ?_⟩
    refine if2 (fun c => ?_) (fun c => ?_)
    · refine ⟨_, rfl, _, _, _, rfl, okT_bool, hd, _, rfl, _, rfl, ?_⟩
      refine if2 (fun c2 => ?_) (fun c2 => ?_)
      · obtain ⟨i, rfl⟩ := isW_isI d c (by simpa using c2)
        cases hd
        exact vl_chain (f := fun i j => decide (i ≤ j)) (g := fun i j => decide (i ≤ j)) vl_c (vl_var rfl) vl_c _ k
      · rw [isL_not d (by unfold isW; rw [c2, Bool.and_false])] at k
        exact k
    · rw [isL_not d (by unfold isW; rw [c, Bool.false_and])] at k
      exact k
/-! ### check_kind -/
def sp_check_kind (K : PySem.W.Frag) : Sp := fun vs H Q _ => ∃ k8 : Km.Kd8, vs = [.str (nm k8)] ∧ Q (.str (nm k8)) H
theorem ok_check_kind (T : Txt P K mg A') : FnOk P w K mg base CX0 1 A'.f_check_kind A'.fd_check_kind ["name"] (sp_check_kind K) := by
  refine Hk.okN T.F_check_kind sc_check_kind (fun vs H Q E h => ?_) (fun cdv A outer s H vs Q E hr h => ?_)
  · obtain ⟨k8, rfl, _⟩ := h
    rfl
  · obtain ⟨k8, rfl, k⟩ := h
    refine ⟨_, (pss_cons (ps_if (PW.pt (pw_or (pt_not (pt_val (pe_callB call_isD (by rfl) T.z_isinstance (by decide +kernel) (pa_cons (pv 0) (pa_cons (pe_bltn (v := .ty "str") (by rfl) T.z_str (by decide +kernel) rfl) pa_nil))))) (pw_or1 (pt_cmpR op_notIn_seq (pv 0) (pe_glob (v := .ref A'.k_KIND_NAMES) rfl T.mk_KIND_NAMES rfl) (by rfl))))) (pss_one Kd.ps_dead) pss_nil)
    (pss_one (ps_ret (pv 0)))), ?_⟩
    refine ⟨_, rfl, _, _, .str (nm k8), rfl, okT_str, .str _, _, rfl, ?_⟩
    refine ifF (by rw [isI_str_str] <;> rfl) ?_
    refine ⟨_, rfl, A'.k_KIND_NAMES, _, rfl, .inr (T.kt_KIND_NAMES H), rfl, rfl, _, rfl, ?_⟩
    refine ifF (by cases k8 <;> decide +kernel) ?_
    exact ⟨_, rfl, k⟩
/-! ### row_letters -/
def sp_row_letters (K : PySem.W.Frag) : Sp := fun vs H Q _ => ∃ (p : Addr) (xs : List V) (l : List (Option Mt.Ev)), vs = [.ref p] ∧ Sq K H p xs ∧ DpAll K H xs (l.map Mt.opD) ∧ l.length ≤ 100 ∧ ∀ H', Same H H' → Q (.int (Mt.lets l).sum) H'
theorem ok_row_letters (T : Txt P K mg A') : FnOk P w K mg base CX0 1 A'.f_row_letters A'.fd_row_letters ["row"] (sp_row_letters K) := by
  refine Hk.okN T.F_row_letters sc_row_letters (fun vs H Q E h => ?_) (fun cdv A outer s H vs Q E hr h => ?_)
  · obtain ⟨p, xs, l, rfl, _⟩ := h
    rfl
  · obtain ⟨p, xs, l, rfl, hq, hx, hl, k⟩ := h
    refine ⟨_, (pss_one (ps_ret (pe_callB (cr_sum rfl) (by rfl) T.z_sum (by decide +kernel) (pa_cons (pe_lc (own := [("effect", 1)]) (g := gName 1) (by rfl) sc_row_letters.nd (Kd.pi_or (pi_list (pv 0)) (pi_tup (pv 0))) (blkOk_by (own := [("effect", 1)]) (N := ["row", "effect"]) (sc := defScope s_row_letters) (by decide +kernel)) (fun _ _ _ _ _ => (pg_name (i := 1) sc_row_letters.nd rfl (Or.inl rfl))) (fun _ _ _ _ _ => (pts_one (pt_cmpR op_notN (pv 1) pe_non (nomark _)))) (fun _ _ _ _ _ => (pe_callB (lenK (K := K) rfl) (by rfl) T.z_len (by decide +kernel) (pa_cons (pe_ix (ixTK (K := K) rfl) (pv 1) pe_int (fun _ _ => rfl)) pa_nil)))) pa_nil)))), ?_⟩
    unfold tRet tCB tCons tNil
    dsimp only
    refine Mt.lcB (xs := xs) (by rfl) hq (fun D i H' => Same H H' ∧ H' D = some (.lst ((Mt.lets (l.take i)).map V.int))) (fun D nD => ⟨same_new nD, upd_same⟩) (fun D i H' h => h.1) (fun D nD i x H1 hi ⟨s, hD⟩ => ?_) (fun D H1 nD ⟨s, hD⟩ => ?_)
    · obtain ⟨o, ho, hv⟩ := Mt.rowO_get (dpa_same s hx) hi
      refine ⟨rfl, ?_⟩
      refine ⟨_, rfl, rfl, _, rfl, ?_⟩
      rcases Mt.op_inv hv with ⟨rfl, rfl⟩ | ⟨e, rfl, ne, he⟩
      · refine ifF (by simp) ⟨s, ?_⟩
        rw [Mt.take1 ho, Mt.lets_snoc, List.append_nil]
        exact hD
      · obtain ⟨a, t, rfl, h1, h2⟩ := e_inv he
        refine ifT (by simp) ?_
        refine ⟨_, rfl, a, _, _, _, rfl, rfl, h1, rfl, t, _, rfl, .inr h2, _, hD, ?_, same_mut s nD, ?_⟩
        · rw [List.length_map]
          have := Mt.lets_len (l.take i)
          rw [List.length_take] at this
          exact small1000 (by omega)
        · rw [upd_same, Mt.take1 ho, Mt.lets_snoc, List.map_append, List.length_map]
          rfl
    · rw [Mt.rowO_len hx, List.take_length] at hD
      exact ⟨D, _, rfl, SqL.of hD, k _ s⟩
/-! ### row_count -/
def sp_row_count (K : PySem.W.Frag) : Sp := fun vs H Q _ => ∃ (p : Addr) (xs : List V) (l : List (Option Mt.Ev)), vs = [.ref p] ∧ Sq K H p xs ∧ DpAll K H xs (l.map Mt.opD) ∧ l.length ≤ 100 ∧ ∀ H', Same H H' → Q (.int ((Mt.busy l).length : Nat)) H'
theorem ok_row_count (T : Txt P K mg A') : FnOk P w K mg base CX0 1 A'.f_row_count A'.fd_row_count ["row"] (sp_row_count K) := by
  refine Hk.okN T.F_row_count sc_row_count (fun vs H Q E h => ?_) (fun cdv A outer s H vs Q E hr h => ?_)
  · obtain ⟨p, xs, l, rfl, _⟩ := h
    rfl
  · obtain ⟨p, xs, l, rfl, hq, hx, hl, k⟩ := h
    refine ⟨_, (pss_one (ps_ret (pe_callB call_len_seq (by rfl) T.z_len (by decide +kernel) (pa_cons (pe_lc (own := [("effect", 1)]) (g := gName 1) (by rfl) sc_row_count.nd (Kd.pi_or (pi_list (pv 0)) (pi_tup (pv 0))) (blkOk_by (own := [("effect", 1)]) (N := ["row", "effect"]) (sc := defScope s_row_count) (by decide +kernel)) (fun _ _ _ _ _ => (pg_name (i := 1) sc_row_count.nd rfl (Or.inl rfl))) (fun _ _ _ _ _ => (pts_one (PW.pt (pw_and (pt_cmpR op_notN (pv 1) pe_non (nomark _)) (pw_and1 (pt_cmpR (Mt.neDK (K := K) rfl hr.units) (pv 1) (pe_glob (v := .ref A'.k_IDLE) rfl T.mk_IDLE rfl) (nomark _))))))) (fun _ _ _ _ _ => (pv 1))) pa_nil)))), ?_⟩
    unfold tRet tCB tCons tNil
    dsimp only
    refine Mt.lcB (xs := xs) (by rfl) hq (fun D i H' => Same H H' ∧ ∃ ys, H' D = some (.lst ys) ∧ ys.length = (Mt.busy (l.take i)).length) (fun D nD => ⟨same_new nD, _, upd_same, rfl⟩) (fun D i H' h => h.1) (fun D nD i x H1 hi ⟨s, ys, hD, hy⟩ => ?_) (fun D H1 nD ⟨s, ys, hD, hy⟩ => ?_)
    · obtain ⟨o, ho, hv⟩ := Mt.rowO_get (dpa_same s hx) hi
      refine ⟨rfl, ?_⟩
      refine ⟨_, rfl, rfl, _, rfl, ?_⟩
      rcases Mt.op_inv hv with ⟨rfl, rfl⟩ | ⟨e, rfl, ne, he⟩
      · refine ifF (by simp) ?_
        refine ifF rfl ⟨s, ys, hD, ?_⟩
        rw [Mt.take1 ho, Mt.busy_non, hy]
      · refine ifT (by simpa using ne) ?_
        obtain ⟨pI, hI⟩ := T.ke_IDLE
        refine ⟨_, rfl, _, _, he, e_mk (hI H1).1 (w_mk (ns := []) (hI H1).2), shaped_e _ _, shaped_e _ _, _, rfl, ?_⟩
        rw [eqv_e, Mt.idle_dec]
        refine if2 (fun c => ?_) (fun c => ?_)
        · refine ⟨_, rfl, _, hD, ?_, same_mut s nD, _, upd_same, ?_⟩
          · rw [hy]
            have := Mt.busy_le (l.take i)
            rw [List.length_take] at this
            exact small1000 (Nat.le_trans this (by omega))
          · have c2 : e ≠ (false, []) := by simpa using c
            rw [Mt.take1 ho, Mt.busy_some _ c2, List.length_append, List.length_append, hy] <;> rfl
        · refine ⟨s, ys, hD, ?_⟩
          have c2 : e = (false, []) := by simpa using c
          subst c2
          rw [Mt.take1 ho, Mt.busy_idle, hy]
    · rw [Mt.rowO_len hx, List.take_length] at hy
      refine ⟨D, _, rfl, .inl (SqL.of hD), ?_⟩
      rw [hy]
      exact k _ s
/-! ### _law_stream -/
def sp__law_stream (K : PySem.W.Frag) : Sp := fun vs H Q _ => ∃ (a : Addr) (ns : List Int), vs = [.ref a] ∧ SqL K H a (ns.map V.int) ∧ ns.length ≤ 63 ∧ ∀ S c H', H S = none → Same H H' → Stm S c H' → Q (.ref S) H'
theorem ok__law_stream (T : Txt P K mg A') : FnOk P w K mg base CX0 1 A'.f__law_stream A'.fd__law_stream ["_law_script"] (sp__law_stream K) := by
  refine Hk.okN T.F__law_stream sc__law_stream (fun vs H Q E h => ?_) (fun cdv A outer s H vs Q E hr h => ?_)
  · obtain ⟨a, ns, rfl, _⟩ := h
    rfl
  · obtain ⟨a, ns, rfl, ha, hl, k⟩ := h
    refine ⟨_, (pss_one (ps_ret (pe_lst (pa_cons (pe_lc (own := [("_law_cell", 1)]) (g := gName 1) (tt := tYes) (by rfl) sc__law_stream.nd (pi_list (pe_slice sl_list (pv 0) po_none (po_some pe_int))) (blkOk_by (own := [("_law_cell", 1)]) (N := ["_law_script", "_law_cell"]) (sc := defScope s__law_stream) (by decide +kernel)) (fun _ _ _ _ _ => (pg_name (i := 1) sc__law_stream.nd rfl (Or.inl rfl))) (fun _ _ _ _ _ => pts_nil) (fun _ _ _ _ _ => (pe_callTy call_int1 (by rfl) T.z_int (by decide +kernel) (pa_cons (pv 1) pa_nil)))) (pa_cons pe_int (pa_cons pe_int pa_nil)))))), ?_⟩
    have hcut : cutV (ns.map V.int) none (some 63) = ns.map V.int := by
      unfold cutV
      have e : HT.sIx (ns.map V.int).length (ns.map V.int).length (some 63) = (ns.map V.int).length := by
        show (if (63 : Int) < 0 then ((63 : Int) + ((ns.map V.int).length : Int)).toNat else min (63 : Int).toNat (ns.map V.int).length) = _
        rw [if_neg (by decide), List.length_map]
        have e2 : (63 : Int).toNat = 63 := rfl
        rw [e2]
        omega
      rw [e, HT.sIx_none, List.drop_zero, Nat.sub_zero, List.take_length]
    refine ⟨_, rfl, _, rfl, a, _, rfl, ha, fun p np => ?_⟩
    rw [hcut]
    refine ⟨p, rfl, ⟨_, SqL.of upd_same⟩, fun D nD => ?_⟩
    have npD : p ≠ D := ne_of_none upd_same nD
    have nD0 : H D = none := by rw [upd_ne npD.symm] at nD; exact nD
    refine lc_list (K := K) (a := p) (xs := ns.map V.int) (fun i H' => Same H H' ∧ H' p = some (.lst (ns.map V.int)) ∧ H' D = some (.lst ((ns.take i).map V.int))) ⟨same_mut (same_new np) nD0, by rw [upd_ne npD]; exact upd_same, upd_same⟩ (fun i H' _ h => SqL.of h.2.1) ?_ ?_
    · rintro i x H' hi ⟨s1, h1, h2⟩
      obtain ⟨n, hn, rfl⟩ := map_some hi
      refine ⟨rfl, _, rfl, .inl ⟨_, rfl, _, h2, ?_, ?_⟩⟩
      · rw [List.length_map]
        exact small1000 (by rw [List.length_take]; omega)
      · refine ⟨same_mut s1 nD0, by rw [upd_ne npD]; exact h1, ?_⟩
        rw [upd_same, take_map hn, List.map_append]
        rfl
    · rintro H' ⟨s1, h1, h2⟩
      rw [List.length_map, List.take_length] at h2
      refine ⟨(by show 3 ≤ sizeLine; decide), fun S nS => ?_⟩
      have nDS : D ≠ S := ne_of_none h2 nS
      exact k S D _ (s1.free nS) (same_mut s1 (s1.free nS)) ⟨ns, 0, 0, upd_same, by rw [upd_ne nDS]; exact h2, hl, Nat.zero_le _, Int.le_refl _⟩
/-! ### _law_mixed -/
def sp__law_mixed (K : PySem.W.Frag) : Sp := fun vs H Q _ => ∃ (c : Int) (p : Nat), vs = [.int c, .int (p : Int)] ∧ c.natAbs < 10 ^ 18 ∧ p ≤ 100 ∧ ∀ r : Int, 0 ≤ r → Q (.int r) H
theorem ok__law_mixed (T : Txt P K mg A') : FnOk P w K mg base CX0 1 A'.f__law_mixed A'.fd__law_mixed ["_law_cell", "_law_place"] (sp__law_mixed K) := by
  refine Hk.okN T.F__law_mixed sc__law_mixed (fun vs H Q E h => ?_) (fun cdv A outer s H vs Q E hr h => ?_)
  · obtain ⟨c, p, rfl, _⟩ := h
    rfl
  · obtain ⟨c, p, rfl, hc, hp, k⟩ := h
    have hc2 : -(2 ^ 64) < c ∧ c < 2 ^ 64 := by omega
    refine ⟨_, (pss_cons (ps_set (i := 2) sc__law_mixed.nd rfl (Or.inl rfl) (pe_op op_mod (pe_callTy call_int1 (by rfl) T.z_int (by decide +kernel) (pa_cons (pe_op op_mul (pv 0) (pe_op op_add pe_int (pe_op op_mul pe_int (pv 1)))) pa_nil)) pe_int))
    (pss_one (ps_ret (pe_op op_mod (pe_callTy call_int1 (by rfl) T.z_int (by decide +kernel) (pa_cons (pe_op op_mul (pv 2) (pe_op op_add (pv 2) (pe_op op_mul pe_int (pv 1)))) pa_nil)) pe_int)))), ?_⟩
    refine ⟨_, rfl, _, rfl, _, _, rfl, rfl, .inl (by omega), _, _, rfl, rfl, _, _, rfl, rfl, .inl hc2, .inl ⟨_, rfl, _, _, rfl, rfl, (show (0 : Int) < 1000000000000000003 by decide), ?_⟩⟩
    generalize h1 : (c * (314159265358979323 + 271828182845 * (p : Int))) % 1000000000000000003 = x
    have x0 : 0 ≤ x ∧ x < 1000000000000000003 := by
      rw [← h1]
      exact ⟨Int.emod_nonneg _ (by decide), Int.emod_lt_of_pos _ (by decide)⟩
    refine ⟨_, rfl, _, rfl, _, rfl, _, _, rfl, rfl, .inl (by omega), _, _, rfl, rfl, _, _, rfl, rfl, .inl (by omega), .inl ⟨_, rfl, _, _, rfl, rfl, (show (0 : Int) < 1000000000000000009 by decide), ?_⟩⟩
    exact k _ (Int.emod_nonneg _ (by decide))
/-! ### _law_plain -/
def sp__law_plain (K : PySem.W.Frag) : Sp := fun vs H Q _ => ∃ (k8 : Km.Kd8) (p : Addr) (ns : List Int), vs = [.str (nm k8), .ref p] ∧ SqT K H p (ns.map V.int) ∧ ns.length ≤ 900 ∧ ∀ v H', Same H H' → Dp K H' v (wD (Km.pl k8 ns)) → Q v H'
theorem ok__law_plain (T : Txt P K mg A') : FnOk P w K mg base CX0 1 A'.f__law_plain A'.fd__law_plain ["_law_kind_here", "_law_word"] (sp__law_plain K) := by
  refine Hk.okN T.F__law_plain sc__law_plain (fun vs H Q E h => ?_) (fun cdv A outer s H vs Q E hr h => ?_)
  · obtain ⟨k8, p, ns, rfl, _⟩ := h
    rfl
  · obtain ⟨k8, p, ns, rfl, hp, hz, k⟩ := h
    refine ⟨_, (pss_cons (ps_set (i := 2) sc__law_plain.nd rfl (Or.inr rfl) (pe_callTy call_list_of (by rfl) T.z_list (by decide +kernel) (pa_cons (pv 1) pa_nil)))
    (pss_cons (ps_if (pt_cmpR op_eq (pv 0) pe_str (nomark _)) (pss_one (ps_set (i := 2) sc__law_plain.nd rfl (Or.inr rfl) (pe_callB cr_sortedI (by rfl) T.z_sorted (by decide +kernel) (pa_cons (pv 2) pa_nil)))) pss_nil)
    (pss_cons (ps_if (pt_cmpR op_eq (pv 0) pe_str (nomark _)) (pss_one (ps_set (i := 2) sc__law_plain.nd rfl (Or.inr rfl) (pe_callB (Kd.cr_sortedS rfl) (by rfl) T.z_sorted (by decide +kernel) (pa_cons (pe_callTy (Kd.cr_setOf rfl) (by rfl) T.z_set (by decide +kernel) (pa_cons (pv 2) pa_nil)) pa_nil)))) pss_nil)
    (pss_cons (ps_if (pt_cmpR op_eq (pv 0) pe_str (nomark _)) (pss_one (ps_set (i := 2) sc__law_plain.nd rfl (Or.inr rfl) (pe_slice sl_list (pv 2) po_none (po_some pe_int)))) pss_nil)
    (pss_cons (ps_if (PW.pt (pw_and (pt_cmpR op_eq (pv 0) pe_str (nomark _)) (pw_and1 (pt_cmpR op_gt (pe_callB call_len_seq (by rfl) T.z_len (by decide +kernel) (pa_cons (pv 2) pa_nil)) pe_int (nomark _))))) (pss_one (ps_set (i := 2) sc__law_plain.nd rfl (Or.inr rfl) (pe_lst (pa_cons (pe_ix ix_list (pv 2) (pe_op op_sub (pe_callB call_len_seq (by rfl) T.z_len (by decide +kernel) (pa_cons (pv 2) pa_nil)) pe_int) (fun _ _ => rfl)) pa_nil)))) pss_nil)
    (pss_cons (ps_if (PW.pt (pw_and (pt_cmpR op_eq (pv 0) pe_str (nomark _)) (pw_and1 (pt_cmpR op_gt (pe_callB call_len_seq (by rfl) T.z_len (by decide +kernel) (pa_cons (pv 2) pa_nil)) pe_int (nomark _))))) (pss_one (ps_set (i := 2) sc__law_plain.nd rfl (Or.inr rfl) (pe_lst (pa_cons (pe_ix ix_list (pv 2) pe_int (fun _ _ => rfl)) (pa_cons (pe_ix ix_list (pv 2) (pe_op op_sub (pe_callB call_len_seq (by rfl) T.z_len (by decide +kernel) (pa_cons (pv 2) pa_nil)) pe_int) (fun _ _ => rfl)) pa_nil))))) pss_nil)
    (pss_cons (ps_if (pt_cmpR op_eq (pv 0) pe_str (nomark _)) (pss_one (ps_set (i := 2) sc__law_plain.nd rfl (Or.inr rfl) (pe_lc (own := [("_law_k", 3)]) (g := gName 3) (by rfl) sc__law_plain.nd (pi_range1 (by rfl) T.z_range (pa_cons (pe_callB call_len_seq (by rfl) T.z_len (by decide +kernel) (pa_cons (pv 2) pa_nil)) pa_nil)) (blkOk_by (own := [("_law_k", 3)]) (N := ["_law_kind_here", "_law_word", "_law_row_here", "_law_k"]) (sc := defScope s__law_plain) (by decide +kernel)) (fun _ _ _ _ _ => (pg_name (i := 3) sc__law_plain.nd rfl (Or.inl rfl))) (fun _ _ _ _ _ => (pts_one (pt_cmpR (notInK (K := K) rfl) (pe_ix (ixLK (K := K) rfl) (pv 2) (pv 3) (fun _ _ => rfl)) (pe_slice (slLK (K := K) rfl) (pv 2) po_none (po_some (pv 3))) (by rfl)))) (fun _ _ _ _ _ => (pe_ix (ixLK (K := K) rfl) (pv 2) (pv 3) (fun _ _ => rfl)))))) pss_nil)
    (pss_cons (ps_if (pt_cmpR op_eq (pv 0) pe_str (nomark _)) (pss_one (ps_set (i := 2) sc__law_plain.nd rfl (Or.inr rfl) (pe_lc (own := [("_law_k", 3)]) (g := gName 3) (by rfl) sc__law_plain.nd (pi_range1 (by rfl) T.z_range (pa_cons (pe_callB call_len_seq (by rfl) T.z_len (by decide +kernel) (pa_cons (pv 2) pa_nil)) pa_nil)) (blkOk_by (own := [("_law_k", 3)]) (N := ["_law_kind_here", "_law_word", "_law_row_here", "_law_k"]) (sc := defScope s__law_plain) (by decide +kernel)) (fun _ _ _ _ _ => (pg_name (i := 3) sc__law_plain.nd rfl (Or.inl rfl))) (fun _ _ _ _ _ => (pts_one (pt_cmpR (notInK (K := K) rfl) (pe_ix (ixLK (K := K) rfl) (pv 2) (pv 3) (fun _ _ => rfl)) (pe_slice (slLK (K := K) rfl) (pv 2) (po_some (pe_op op_add (pv 3) pe_int)) po_none) (by rfl)))) (fun _ _ _ _ _ => (pe_ix (ixLK (K := K) rfl) (pv 2) (pv 3) (fun _ _ => rfl)))))) pss_nil)
    (pss_one (ps_ret (pe_callTy call_tuple_of (by rfl) T.z_tuple (by decide +kernel) (pa_cons (pv 2) pa_nil)))))))))))), ?_⟩
    refine ⟨_, rfl, p, _, rfl, .inr hp, fun q nq => ?_⟩
    have sq1 := same_new (o := .lst (ns.map V.int)) nq
    have hq1 : upd H q (.lst (ns.map V.int)) q = some (.lst (ns.map V.int)) := upd_same
    generalize upd H q (.lst (ns.map V.int)) = H1 at *
    have fin : ∀ (r : Addr) (H2 : Hp), Same H H2 → H2 r = some (.lst ((Km.pl k8 ns).map V.int)) → ∃ q ys, [V.ref r] = [V.ref q] ∧ ((SqL K H2 q ys ∧ ∀ l, H2 l = none → Q (.ref l) (upd H2 l (.tup ys))) ∨ (SqT K H2 q ys ∧ Q (.ref q) H2)) := fun r H2 s2 h2 => tupof (.inl (SqL.of h2)) fun v H3 s3 hv => k v H3 (s2.trans s3) hv
    cases k8 with
    | list =>
      refine ⟨_, rfl, rfl, _, rfl, ?_⟩
      refine ifF (by decide +kernel) ?_
      refine ⟨_, rfl, rfl, _, rfl, ?_⟩
      refine ifF (by decide +kernel) ?_
      refine ⟨_, rfl, rfl, _, rfl, ?_⟩
      refine ifF (by decide +kernel) ?_
      refine ⟨_, rfl, rfl, _, rfl, ?_⟩
      refine ifF (by decide +kernel) ?_
      refine ⟨_, rfl, rfl, _, rfl, ?_⟩
      refine ifF (by decide +kernel) ?_
      refine ⟨_, rfl, rfl, _, rfl, ?_⟩
      refine ifF (by decide +kernel) ?_
      refine ⟨_, rfl, rfl, _, rfl, ?_⟩
      refine ifF (by decide +kernel) ?_
      exact ⟨_, rfl, fin q H1 sq1 hq1⟩
    | bag =>
      refine ⟨_, rfl, rfl, _, rfl, ?_⟩
      refine ifT (by decide +kernel) ?_
      refine ⟨_, rfl, q, ns, rfl, SqL.of hq1, fun ns' r h1 h2 nr => ?_⟩
      obtain rfl := Km.srt_of h1 h2
      refine ⟨_, rfl, rfl, _, rfl, ?_⟩
      refine ifF (by decide +kernel) ?_
      refine ⟨_, rfl, rfl, _, rfl, ?_⟩
      refine ifF (by decide +kernel) ?_
      refine ⟨_, rfl, rfl, _, rfl, ?_⟩
      refine ifF (by decide +kernel) ?_
      refine ⟨_, rfl, rfl, _, rfl, ?_⟩
      refine ifF (by decide +kernel) ?_
      refine ⟨_, rfl, rfl, _, rfl, ?_⟩
      refine ifF (by decide +kernel) ?_
      refine ⟨_, rfl, rfl, _, rfl, ?_⟩
      refine ifF (by decide +kernel) ?_
      exact ⟨_, rfl, fin r _ (sq1.trans (same_new nr)) upd_same⟩
    | set =>
      refine ⟨_, rfl, rfl, _, rfl, ?_⟩
      refine ifF (by decide +kernel) ?_
      refine ⟨_, rfl, rfl, _, rfl, ?_⟩
      refine ifT (by decide +kernel) ?_
      refine ⟨_, rfl, q, ns, rfl, .inl (SqL.of hq1), by omega, fun a c na hc => ⟨a, _, c, rfl, upd_same, by omega, fun ns' r h1 h2 nr => ?_⟩⟩
      obtain rfl := Km.sst_of (l := ns) (fun k => (h2 k).trans (by simp)) h1
      refine ⟨_, rfl, rfl, _, rfl, ?_⟩
      refine ifF (by decide +kernel) ?_
      refine ⟨_, rfl, rfl, _, rfl, ?_⟩
      refine ifF (by decide +kernel) ?_
      refine ⟨_, rfl, rfl, _, rfl, ?_⟩
      refine ifF (by decide +kernel) ?_
      refine ⟨_, rfl, rfl, _, rfl, ?_⟩
      refine ifF (by decide +kernel) ?_
      refine ⟨_, rfl, rfl, _, rfl, ?_⟩
      refine ifF (by decide +kernel) ?_
      exact ⟨_, rfl, fin r _ ((sq1.trans (same_new na)).trans (same_new nr)) upd_same⟩
    | first =>
      refine ⟨_, rfl, rfl, _, rfl, ?_⟩
      refine ifF (by decide +kernel) ?_
      refine ⟨_, rfl, rfl, _, rfl, ?_⟩
      refine ifF (by decide +kernel) ?_
      refine ⟨_, rfl, rfl, _, rfl, ?_⟩
      refine ifT (by decide +kernel) ?_
      refine ⟨_, rfl, 1, rfl, q, _, rfl, SqL.of hq1, fun r nr => ?_⟩
      rw [cut_map, cut_first]
      refine ⟨_, rfl, rfl, _, rfl, ?_⟩
      refine ifF (by decide +kernel) ?_
      refine ⟨_, rfl, rfl, _, rfl, ?_⟩
      refine ifF (by decide +kernel) ?_
      refine ⟨_, rfl, rfl, _, rfl, ?_⟩
      refine ifF (by decide +kernel) ?_
      refine ⟨_, rfl, rfl, _, rfl, ?_⟩
      refine ifF (by decide +kernel) ?_
      exact ⟨_, rfl, fin r _ (sq1.trans (same_new nr)) upd_same⟩
    | last =>
      refine ⟨_, rfl, rfl, _, rfl, ?_⟩
      refine ifF (by decide +kernel) ?_
      refine ⟨_, rfl, rfl, _, rfl, ?_⟩
      refine ifF (by decide +kernel) ?_
      refine ⟨_, rfl, rfl, _, rfl, ?_⟩
      refine ifF (by decide +kernel) ?_
      refine ⟨_, rfl, rfl, _, rfl, ?_⟩
      refine ifT (by decide +kernel) ?_
      refine ⟨_, rfl, q, _, rfl, .inl (SqL.of hq1), _, _, rfl, rfl, _, rfl, ?_⟩
      refine if2 (fun c => ?_) (fun c => ?_)
      · have hl : 0 < ns.length := by
          have z := of_decide_eq_true c
          rw [List.length_map] at z
          omega
        refine ⟨_, rfl, _, rfl, q, _, rfl, .inl (SqL.of hq1), _, _, rfl, rfl, q, _, _, .int (ns[ns.length - 1]'(by omega)), rfl, rfl, SqL.of hq1, at_of (j := ns.length - 1) (by rw [List.length_map]; omega) (map_get (by omega)), (by show 1 ≤ sizeLine; decide), fun r nr => ?_⟩
        refine ⟨_, rfl, rfl, _, rfl, ?_⟩
        refine ifF (by decide +kernel) ?_
        refine ⟨_, rfl, rfl, _, rfl, ?_⟩
        refine ifF (by decide +kernel) ?_
        refine ⟨_, rfl, rfl, _, rfl, ?_⟩
        refine ifF (by decide +kernel) ?_
        exact ⟨_, rfl, fin r _ (sq1.trans (same_new nr)) (by rw [upd_same]; show _ = some (HO.lst ((Km.lst1 ns).map V.int)); rw [lst1_get hl]; rfl)⟩
      · have hl : ns = [] := by
          have z := of_decide_eq_false c
          rw [List.length_map] at z
          cases ns with
          | nil => rfl
          | cons a r => simp at z
        subst hl
        refine ⟨_, rfl, rfl, _, rfl, ?_⟩
        refine ifF (by decide +kernel) ?_
        refine ⟨_, rfl, rfl, _, rfl, ?_⟩
        refine ifF (by decide +kernel) ?_
        refine ⟨_, rfl, rfl, _, rfl, ?_⟩
        refine ifF (by decide +kernel) ?_
        exact ⟨_, rfl, fin q _ sq1 hq1⟩
    | ends =>
      refine ⟨_, rfl, rfl, _, rfl, ?_⟩
      refine ifF (by decide +kernel) ?_
      refine ⟨_, rfl, rfl, _, rfl, ?_⟩
      refine ifF (by decide +kernel) ?_
      refine ⟨_, rfl, rfl, _, rfl, ?_⟩
      refine ifF (by decide +kernel) ?_
      refine ⟨_, rfl, rfl, _, rfl, ?_⟩
      refine ifF (by decide +kernel) ?_
      refine ⟨_, rfl, rfl, _, rfl, ?_⟩
      refine ifT (by decide +kernel) ?_
      refine ⟨_, rfl, q, _, rfl, .inl (SqL.of hq1), _, _, rfl, rfl, _, rfl, ?_⟩
      refine if2 (fun c => ?_) (fun c => ?_)
      · have hl : 0 < ns.length := by
          have z := of_decide_eq_true c
          rw [List.length_map] at z
          omega
        refine ⟨_, rfl, q, _, _, .int ns[0], rfl, rfl, SqL.of hq1, at_of (j := 0) rfl (map_get hl), _, rfl, _, rfl, q, _, rfl, .inl (SqL.of hq1), _, _, rfl, rfl, q, _, _, .int (ns[ns.length - 1]'(by omega)), rfl, rfl, SqL.of hq1, at_of (j := ns.length - 1) (by rw [List.length_map]; omega) (map_get (by omega)), (by show 2 ≤ sizeLine; decide), fun r nr => ?_⟩
        refine ⟨_, rfl, rfl, _, rfl, ?_⟩
        refine ifF (by decide +kernel) ?_
        refine ⟨_, rfl, rfl, _, rfl, ?_⟩
        refine ifF (by decide +kernel) ?_
        exact ⟨_, rfl, fin r _ (sq1.trans (same_new nr)) (by rw [upd_same]; show _ = some (HO.lst ((ns.take 1 ++ Km.lst1 ns).map V.int)); rw [lst1_get hl]; cases ns with
          | nil => simp at hl
          | cons a r => rfl)⟩
      · have hl : ns = [] := by
          have z := of_decide_eq_false c
          rw [List.length_map] at z
          cases ns with
          | nil => rfl
          | cons a r => simp at z
        subst hl
        refine ⟨_, rfl, rfl, _, rfl, ?_⟩
        refine ifF (by decide +kernel) ?_
        refine ⟨_, rfl, rfl, _, rfl, ?_⟩
        refine ifF (by decide +kernel) ?_
        exact ⟨_, rfl, fin q _ sq1 hq1⟩
    | heads =>
      refine ⟨_, rfl, rfl, _, rfl, ?_⟩
      refine ifF (by decide +kernel) ?_
      refine ⟨_, rfl, rfl, _, rfl, ?_⟩
      refine ifF (by decide +kernel) ?_
      refine ⟨_, rfl, rfl, _, rfl, ?_⟩
      refine ifF (by decide +kernel) ?_
      refine ⟨_, rfl, rfl, _, rfl, ?_⟩
      refine ifF (by decide +kernel) ?_
      refine ⟨_, rfl, rfl, _, rfl, ?_⟩
      refine ifF (by decide +kernel) ?_
      refine ⟨_, rfl, rfl, _, rfl, ?_⟩
      refine ifT (by decide +kernel) ?_
      refine ⟨_, rfl, q, _, rfl, .inl (SqL.of hq1), _, rfl, (by rw [List.length_map]; omega), (by rw [List.length_map]; omega), fun D nD => ?_⟩
      have nqD : q ≠ D := ne_of_none hq1 nD
      have nD0 : H D = none := sq1.free nD
      refine lc_range (lo := 0) (fun i H' => Same H H' ∧ H' q = some (.lst (ns.map V.int)) ∧ H' D = some (.lst ((Km.fo [] (ns.take i)).map V.int))) ⟨same_mut sq1 nD0, by rw [upd_ne nqD]; exact hq1, upd_same⟩ ?_ ?_
      · rintro i H' hi ⟨s1, h1, h2⟩
        have hi' : i < ns.length := by simpa using hi
        have hx : ns[i]? = some ns[i] := List.getElem?_eq_getElem hi'
        have hf := Km.fo_take hx
        have hat : atI (ns.map V.int) (0 + (i : Int)) = some (.int ns[i]) := at_of (j := i) (by omega) (map_get hi')
        have hfl := Km.fo_len (ns.take i) []
        rw [List.length_take] at hfl
        simp only [List.length_nil] at hfl
        generalize ns[i] = x at *
        refine ⟨rfl, ?_⟩
        refine ⟨_, rfl, _, rfl, q, _, _, _, rfl, rfl, SqL.of h1, hat, _, rfl, _, rfl, _, rfl, q, _, rfl, SqL.of h1, fun r nr => ?_⟩
        rw [cut_map, cut_take (by omega)]
        have nqr : q ≠ r := ne_of_none h1 nr
        have nDr : D ≠ r := ne_of_none h2 nr
        refine ⟨r, _, rfl, .inl (SqL.of upd_same), rfl, flat_ints _, ?_⟩
        rw [not_in]
        refine ⟨_, rfl, ?_⟩
        have hm := Km.mem_fo (ns.take i) [] x
        refine if2 (fun c => ?_) (fun c => ?_)
        · have hno : ¬ x ∈ Km.fo [] (ns.take i) := fun z => by
            rcases hm.mp z with z | z
            · cases z
            · simp [z] at c
          refine ⟨_, rfl, _, rfl, q, _, _, _, rfl, rfl, SqL.of (by rw [upd_ne nqr]; exact h1), hat, _, by rw [upd_ne nDr]; exact h2, ?_, same_mut (s1.trans (same_new nr)) nD0, by rw [upd_ne nqD, upd_ne nqr]; exact h1, ?_⟩
          · rw [List.length_map]
            exact small1000 (by omega)
          · rw [upd_same, hf, if_neg hno, List.map_append]
            rfl
        · have hyes : x ∈ Km.fo [] (ns.take i) := hm.mpr (.inr (by simpa using c))
          exact ⟨s1.trans (same_new nr), by rw [upd_ne nqr]; exact h1, by rw [upd_ne nDr, hf, if_pos hyes]; exact h2⟩
      · rintro H' ⟨s1, h1, h2⟩
        have en : ns.take (((ns.map V.int).length : Int)).toNat = ns := List.take_of_length_le (by simp)
        rw [en] at h2
        refine ⟨_, rfl, rfl, _, rfl, ?_⟩
        refine ifF (by decide +kernel) ?_
        exact ⟨_, rfl, fin D _ s1 h2⟩
    | tails =>
      refine ⟨_, rfl, rfl, _, rfl, ?_⟩
      refine ifF (by decide +kernel) ?_
      refine ⟨_, rfl, rfl, _, rfl, ?_⟩
      refine ifF (by decide +kernel) ?_
      refine ⟨_, rfl, rfl, _, rfl, ?_⟩
      refine ifF (by decide +kernel) ?_
      refine ⟨_, rfl, rfl, _, rfl, ?_⟩
      refine ifF (by decide +kernel) ?_
      refine ⟨_, rfl, rfl, _, rfl, ?_⟩
      refine ifF (by decide +kernel) ?_
      refine ⟨_, rfl, rfl, _, rfl, ?_⟩
      refine ifF (by decide +kernel) ?_
      refine ⟨_, rfl, rfl, _, rfl, ?_⟩
      refine ifT (by decide +kernel) ?_
      refine ⟨_, rfl, q, _, rfl, .inl (SqL.of hq1), _, rfl, (by rw [List.length_map]; omega), (by rw [List.length_map]; omega), fun D nD => ?_⟩
      have nqD : q ≠ D := ne_of_none hq1 nD
      have nD0 : H D = none := sq1.free nD
      refine lc_range (lo := 0) (fun i H' => Same H H' ∧ H' q = some (.lst (ns.map V.int)) ∧ ∃ acc : List Int, H' D = some (.lst (acc.map V.int)) ∧ acc.length ≤ i ∧ acc ++ Km.lasts (ns.drop i) = Km.lasts ns) ⟨same_mut sq1 nD0, by rw [upd_ne nqD]; exact hq1, [], upd_same, Nat.le_refl _, rfl⟩ ?_ ?_
      · rintro i H' hi ⟨s1, h1, acc, h2, hal, hac⟩
        have hi' : i < ns.length := by simpa using hi
        have hx : ns[i]? = some ns[i] := List.getElem?_eq_getElem hi'
        have hf := Km.lasts_drop hx
        have hat : atI (ns.map V.int) (0 + (i : Int)) = some (.int ns[i]) := at_of (j := i) (by omega) (map_get hi')
        generalize ns[i] = x at *
        refine ⟨rfl, ?_⟩
        refine ⟨_, rfl, _, rfl, q, _, _, _, rfl, rfl, SqL.of h1, hat, _, rfl, _, rfl, _, _, rfl, rfl, _, rfl, q, _, rfl, SqL.of h1, fun r nr => ?_⟩
        rw [cut_map, cut_drop (i := i + 1) (by omega) (by omega)]
        have nqr : q ≠ r := ne_of_none h1 nr
        have nDr : D ≠ r := ne_of_none h2 nr
        refine ⟨r, _, rfl, .inl (SqL.of upd_same), rfl, flat_ints _, ?_⟩
        rw [not_in]
        refine ⟨_, rfl, ?_⟩
        refine if2 (fun c => ?_) (fun c => ?_)
        · have hno : ¬ x ∈ ns.drop (i + 1) := fun z => by simp [z] at c
          rw [if_neg hno] at hf
          refine ⟨_, rfl, _, rfl, q, _, _, _, rfl, rfl, SqL.of (by rw [upd_ne nqr]; exact h1), hat, _, by rw [upd_ne nDr]; exact h2, ?_, same_mut (s1.trans (same_new nr)) nD0, by rw [upd_ne nqD, upd_ne nqr]; exact h1, acc ++ [x], ?_, ?_, ?_⟩
          · rw [List.length_map]
            exact small1000 (by omega)
          · rw [upd_same, List.map_append]
            rfl
          · rw [List.length_append, List.length_singleton]
            omega
          · rw [← hac, hf, List.append_assoc]
            rfl
        · have hyes : x ∈ ns.drop (i + 1) := by simpa using c
          rw [if_pos hyes] at hf
          exact ⟨s1.trans (same_new nr), by rw [upd_ne nqr]; exact h1, acc, by rw [upd_ne nDr]; exact h2, by omega, by rw [← hf]; exact hac⟩
      · rintro H' ⟨s1, h1, acc, h2, hal, hac⟩
        have en : ns.drop (((ns.map V.int).length : Int)).toNat = [] := List.drop_eq_nil_of_le (by simp)
        rw [en] at hac
        have ea : acc = Km.pl .tails ns := by
          show acc = (Km.fo [] ns.reverse).reverse
          rw [← Km.lasts_eq, ← hac]
          exact (List.append_nil acc).symm
        rw [ea] at h2
        exact ⟨_, rfl, fin D _ s1 h2⟩
/-! ### _law_normal -/
def sp__law_normal (K : PySem.W.Frag) : Sp := fun vs H Q _ => ∃ (k8 : Km.Kd8) (e : V) (f : Bool) (ns : List Int), vs = [.str (nm k8), e] ∧ Dp K H e (eD f ns) ∧ ∀ v H', Same H H' → Dp K H' v (nE k8 f ns) → Q v H'
theorem ok__law_normal (T : Txt P K mg A') : FnOk P w K mg base CX0 1 A'.f__law_normal A'.fd__law_normal ["_law_kind_here", "_law_effect"] (sp__law_normal K) := by
  refine Hk.okN T.F__law_normal sc__law_normal (fun vs H Q E h => ?_) (fun cdv A outer s H vs Q E hr h => ?_)
  · obtain ⟨k8, e, f, ns, rfl, _⟩ := h
    rfl
  · obtain ⟨k8, e, f, ns, rfl, he, k⟩ := h
    obtain ⟨a, t, rfl, h1, h2⟩ := e_inv he
    refine ⟨_, (pss_cons (ps_if (PW.pt (pw_and (pt_cmpR op_eq (pv 0) pe_str (nomark _)) (pw_and1 (pt_cmpR (op_neD hr.units) (pe_ix ix_tup (pv 1) pe_int (fun _ _ => rfl)) (pe_tup pa_nil) (nomark _))))) (pss_one (ps_ret (pe_tup (pa_cons pe_bl (pa_cons (pe_ix ix_tup (pv 1) pe_int (fun _ _ => rfl)) pa_nil))))) pss_nil)
    (pss_one (ps_ret (pe_tup (pa_cons (pe_ix ix_tup (pv 1) pe_int (fun _ _ => rfl)) (pa_cons (pe_ix ix_tup (pv 1) pe_int (fun _ _ => rfl)) pa_nil)))))), ?_⟩
    have hw := w_mk h2
    have mk : ∀ (b : Bool) (H' : Hp), Same H H' → b = nF k8 f ns → ∀ q, H' q = none → Q (.ref q) (upd H' q (.tup [.bl b, .ref t])) := fun b H' s eb q nq => k _ _ (s.trans (same_new nq)) (by
      subst eb
      exact e_mk (.inl (.inl upd_same)) (dp_same (s.trans (same_new nq)) hw))
    refine ⟨_, rfl, rfl, _, rfl, ?_⟩
    have ek := eq_nm k8 .last
    refine if2 (fun c => ?_) (fun c => ?_)
    · refine ⟨_, rfl, a, _, _, _, rfl, rfl, h1, rfl, Nat.zero_le _, fun q nq => ⟨_, _, dp_same (same_new nq) hw, w_mk (ns := []) (.inl (.inl upd_same)), shaped_w _, shaped_w _, _, rfl, ?_⟩⟩
      rw [eqv_w]
      have h1' := seqT_same (same_new (o := .tup []) nq) h1
      refine if2 (fun c2 => ?_) (fun c2 => ?_)
      · refine ⟨_, rfl, a, _, _, _, rfl, rfl, h1', rfl, (by show 2 ≤ sizeLine; decide), fun r nr => mk true _ (same_new nq) ?_ r nr⟩
        unfold nF
        rw [ek.symm.trans c]
        cases ns with
        | nil => simp at c2
        | cons _ _ => rfl
      · refine ⟨_, rfl, a, _, _, _, rfl, rfl, h1', rfl, _, rfl, a, _, _, _, rfl, rfl, h1', rfl, (by show 2 ≤ sizeLine; decide), fun r nr => mk f _ (same_new nq) ?_ r nr⟩
        unfold nF
        cases ns with
        | nil => simp
        | cons _ _ => simp at c2
    · refine ⟨_, rfl, a, _, _, _, rfl, rfl, h1, rfl, _, rfl, a, _, _, _, rfl, rfl, h1, rfl, (by show 2 ≤ sizeLine; decide), fun r nr => mk f _ (.refl _) ?_ r nr⟩
      unfold nF
      rw [ek.symm.trans c, Bool.false_and] <;> rfl
/-! ### _law_is_number -/
def sp__law_is_number (K : PySem.W.Frag) : Sp := fun vs H Q _ => ∃ (v : V) (d : PyData), vs = [v] ∧ Dp K H v d ∧ Q (.bl (isW d)) H
theorem ok__law_is_number (T : Txt P K mg A') : FnOk P w K mg base CX0 1 A'.f__law_is_number A'.fd__law_is_number ["_law_thing"] (sp__law_is_number K) := by
  refine Hk.okN T.F__law_is_number sc__law_is_number (fun vs H Q E h => ?_) (fun cdv A outer s H vs Q E hr h => ?_)
  · obtain ⟨v, d, rfl, _⟩ := h
    rfl
  · obtain ⟨v, d, rfl, hd, k⟩ := h
    refine ⟨_, (pss_one (ps_ret (pe_and (pe_callB call_isD (by rfl) T.z_isinstance (by decide +kernel) (pa_cons (pv 0) (pa_cons (pe_bltn (v := .ty "int") (by rfl) T.z_int (by decide +kernel) rfl) pa_nil))) (pe_one (pe_not (pe_callB call_isD (by rfl) T.z_isinstance (by decide +kernel) (pa_cons (pv 0) (pa_cons (pe_bltn (v := .ty "bool") (by rfl) T.z_bool (by decide +kernel) rfl) pa_nil)))))))), ?_⟩
    refine ⟨_, rfl, _, _, _, rfl, okT_int, hd, _, rfl, ?_⟩
    refine if2 (fun c => ?_) (fun c => ?_)
    · refine ⟨_, rfl, _, _, _, rfl, okT_bool, hd, _, rfl, ?_⟩
      unfold isW at k
      rw [c, Bool.true_and] at k
      exact k
    · unfold isW at k
      rw [c, Bool.false_and] at k
      exact k
/-! ### _law_sums -/
def sp__law_sums (K : PySem.W.Frag) : Sp := fun vs H Q _ => ∃ (p : Addr) (xs : List V) (l : List Mt.Ev), vs = [.ref p] ∧ SqL K H p xs ∧ DpAll K H xs (effs l) ∧ l.length ≤ 100 ∧ ∀ r H', Same H H' → SqL K H' r [.int (Mt.lets (l.map some)).sum, .int ((Mt.busy (l.map some)).length : Nat)] → Q (.ref r) H'
theorem ok__law_sums (T : Txt P K mg A') : FnOk P w K mg base CX0 1 A'.f__law_sums A'.fd__law_sums ["_law_row_here"] (sp__law_sums K) := by
  refine Hk.okN T.F__law_sums sc__law_sums (fun vs H Q E h => ?_) (fun cdv A outer s H vs Q E hr h => ?_)
  · obtain ⟨p, xs, l, rfl, _⟩ := h
    rfl
  · obtain ⟨p, xs, l, rfl, hq, hx, hl, k⟩ := h
    rw [Mt.effs_op] at hx
    have two : 2 ≤ sizeLine := by decide
    refine ⟨_, (pss_one (ps_ret (pe_lst (pa_cons (pe_callB (cr_sum rfl) (by rfl) T.z_sum (by decide +kernel) (pa_cons (pe_lc (own := [("_law_effect", 1)]) (g := gName 1) (tt := tYes) (by rfl) sc__law_sums.nd (pi_list (pv 0)) (blkOk_by (own := [("_law_effect", 1)]) (N := ["_law_row_here", "_law_effect"]) (sc := defScope s__law_sums) (by decide +kernel)) (fun _ _ _ _ _ => (pg_name (i := 1) sc__law_sums.nd rfl (Or.inl rfl))) (fun _ _ _ _ _ => pts_nil) (fun _ _ _ _ _ => (pe_callB (lenK (K := K) rfl) (by rfl) T.z_len (by decide +kernel) (pa_cons (pe_ix (ixTK (K := K) rfl) (pv 1) pe_int (fun _ _ => rfl)) pa_nil)))) pa_nil)) (pa_cons (pe_callB call_len_seq (by rfl) T.z_len (by decide +kernel) (pa_cons (pe_lc (own := [("_law_effect", 1)]) (g := gName 1) (by rfl) sc__law_sums.nd (pi_list (pv 0)) (blkOk_by (own := [("_law_effect", 1)]) (N := ["_law_row_here", "_law_effect"]) (sc := defScope s__law_sums) (by decide +kernel)) (fun _ _ _ _ _ => (pg_name (i := 1) sc__law_sums.nd rfl (Or.inl rfl))) (fun _ _ _ _ _ => (pts_one (pt_cmpR (Mt.neDK (K := K) rfl hr.units) (pv 1) (pe_tup (pa_cons pe_bl (pa_cons (pe_tup pa_nil) pa_nil))) (nomark _)))) (fun _ _ _ _ _ => (pv 1))) pa_nil)) pa_nil))))), ?_⟩
    unfold tRet tLst tCB tCons tNil
    dsimp only
    refine Mt.lcL (K := K) (xs := xs) (by rfl) hq (fun D i H' => Same H H' ∧ H' D = some (.lst ((Mt.lets ((l.map some).take i)).map V.int))) (fun D nD => ⟨same_new nD, upd_same⟩) (fun D i H' h => h.1) (fun D nD i x H1 hi ⟨s, hD⟩ => ?_) (fun D H1 nD ⟨s, hD⟩ => ?_)
    · obtain ⟨o, ho, hv⟩ := Mt.rowO_get (dpa_same s hx) hi
      obtain ⟨e, _, rfl⟩ := Mt.some_get ho
      refine ⟨rfl, ?_⟩
      obtain ⟨a, t, rfl, h1, h2⟩ := e_inv hv
      refine ⟨_, rfl, a, _, _, _, rfl, rfl, h1, rfl, t, _, rfl, .inr h2, _, hD, ?_, same_mut s nD, ?_⟩
      · rw [List.length_map]
        have := Mt.lets_len ((l.map some).take i)
        rw [List.length_take, List.length_map] at this
        exact small1000 (by omega)
      · rw [upd_same, Mt.take1 ho, Mt.lets_snoc, List.map_append, List.length_map]
        rfl
    have lx := Mt.rowO_len hx
    rw [lx, List.take_length] at hD
    refine ⟨D, _, rfl, SqL.of hD, ?_⟩
    refine Mt.lcL (K := K) (xs := xs) (by rfl) (s.seq hq) (fun G i H' => Same H1 H' ∧ ∃ ys, H' G = some (.lst ys) ∧ ys.length = (Mt.busy ((l.map some).take i)).length) (fun G nG => ⟨same_new nG, _, upd_same, rfl⟩) (fun G i H' h => h.1) (fun G nG i x H2 hi ⟨s2, ys, hG, hy⟩ => ?_) (fun G H2 nG ⟨s2, ys, hG, hy⟩ => ?_)
    · obtain ⟨o, ho, hv⟩ := Mt.rowO_get (dpa_same (s.trans s2) hx) hi
      obtain ⟨e, _, rfl⟩ := Mt.some_get ho
      refine ⟨rfl, ?_⟩
      have he : Ef K H2 x e := hv
      refine ⟨_, rfl, Nat.zero_le _, fun z nz => ⟨(by show 2 ≤ sizeLine; decide), fun q nq => ?_⟩⟩
      have szq := (same_new (o := .tup []) nz).trans (same_new (o := .tup [.bl false, .ref z]) nq)
      refine ⟨_, _, dp_same szq he, e_mk (.inl (.inl upd_same)) (dp_same (same_new nq) (w_mk (ns := []) (.inl (.inl upd_same)))), shaped_e _ _, shaped_e _ _, _, rfl, ?_⟩
      rw [eqv_e, Mt.idle_dec]
      have hG2 := szq _ _ hG
      have s3 := s2.trans szq
      refine if2 (fun c => ?_) (fun c => ?_)
      · refine ⟨_, rfl, _, hG2, ?_, same_mut s3 nG, _, upd_same, ?_⟩
        · rw [hy]
          have := Mt.busy_le ((l.map some).take i)
          rw [List.length_take, List.length_map] at this
          exact small1000 (Nat.le_trans this (by omega))
        · have c2 : e ≠ (false, []) := by simpa using c
          rw [Mt.take1 ho, Mt.busy_some _ c2, List.length_append, List.length_append, hy] <;> rfl
      · refine ⟨s3, ys, hG2, ?_⟩
        have c2 : e = (false, []) := by simpa using c
        subst c2
        rw [Mt.take1 ho, Mt.busy_idle, hy]
    rw [lx, List.take_length] at hy
    refine ⟨G, _, rfl, .inl (SqL.of hG), two, fun r nr => ?_⟩
    rw [hy]
    exact k r _ ((s.trans s2).trans (same_new nr)) (SqL.of upd_same)
/-! ### Kind__plain -/
def sp_plain (K : PySem.W.Frag) (k8 : Km.Kd8) : Sp := fun vs H Q _ => ∃ (x : V) (p : Addr) (ns : List Int), vs = [x, .ref p] ∧ Sq K H p (ns.map V.int) ∧ ns.length ≤ 1000 ∧ ∀ v H', Same H H' → Dp K H' v (wD (Km.pl k8 ns)) → Q v H'
theorem ok_Kind__plain (T : Txt P K mg A') : FnOk P w K mg base CX0 2 A'.f_Kind__plain A'.fd_Kind__plain ["self", "word"] (sp_plain K .list) := by
  refine Hk.okM T.F_Kind__plain sc_Kind__plain (fun vs H Q E h => ?_) (fun cdv A outer s H vs Q E hr h => ?_)
  · obtain ⟨x, p, ns, rfl, _⟩ := h
    rfl
  · obtain ⟨x, p, ns, rfl, hq, hz, k⟩ := h
    refine ⟨_, (pss_one (ps_ret (pe_callTy call_tuple_of (by rfl) T.z_tuple (by decide +kernel) (pa_cons (pv 1) pa_nil)))), ?_⟩
    rcases hq with hq | hq
    · exact ⟨_, rfl, p, _, rfl, .inl ⟨hq, fun t nt => k _ _ (same_new nt) (w_new nt)⟩⟩
    · exact ⟨_, rfl, p, _, rfl, .inr ⟨hq, k _ _ (.refl _) (w_mk hq)⟩⟩
/-! ### BagKind__plain -/

theorem ok_BagKind__plain (T : Txt P K mg A') : FnOk P w K mg base CX0 2 A'.f_BagKind__plain A'.fd_BagKind__plain ["self", "word"] (sp_plain K .bag) := by
  refine Hk.okM T.F_BagKind__plain sc_BagKind__plain (fun vs H Q E h => ?_) (fun cdv A outer s H vs Q E hr h => ?_)
  · obtain ⟨x, p, ns, rfl, _⟩ := h
    rfl
  · obtain ⟨x, p, ns, rfl, hq, hz, k⟩ := h
    refine ⟨_, (pss_one (ps_ret (pe_callTy call_tuple_of (by rfl) T.z_tuple (by decide +kernel) (pa_cons (pe_callB (Kd.cr_or cr_sortedI Kd.cr_sortedTu) (by rfl) T.z_sorted (by decide +kernel) (pa_cons (pv 1) pa_nil)) pa_nil)))), ?_⟩
    have fin : ∀ (ns' : List Int) (q : Addr), ns'.Perm ns → ns'.Pairwise (· ≤ ·) → H q = none → ∀ t, upd H q (.lst (ns'.map V.int)) t = none → Q (.ref t) (upd (upd H q (.lst (ns'.map V.int))) t (.tup (ns'.map V.int))) := fun ns' q h1 h2 nq t nt => by
      obtain rfl := Km.srt_of h1 h2
      exact k _ _ ((same_new nq).trans (same_new nt)) (w_new nt)
    rcases hq with hq | hq
    · exact ⟨_, rfl, .inl ⟨p, ns, rfl, hq, fun ns' q h1 h2 nq => ⟨q, _, rfl, .inl ⟨SqL.of upd_same, fun t nt => fin ns' q h1 h2 nq t nt⟩⟩⟩⟩
    · exact ⟨_, rfl, .inr ⟨p, ns, rfl, hq, fun ns' q h1 h2 nq => ⟨q, _, rfl, .inl ⟨SqL.of upd_same, fun t nt => fin ns' q h1 h2 nq t nt⟩⟩⟩⟩
/-! ### SetKind__plain -/

theorem ok_SetKind__plain (T : Txt P K mg A') : FnOk P w K mg base CX0 2 A'.f_SetKind__plain A'.fd_SetKind__plain ["self", "word"] (sp_plain K .set) := by
  refine Hk.okM T.F_SetKind__plain sc_SetKind__plain (fun vs H Q E h => ?_) (fun cdv A outer s H vs Q E hr h => ?_)
  · obtain ⟨x, p, ns, rfl, _⟩ := h
    rfl
  · obtain ⟨x, p, ns, rfl, hq, hz, k⟩ := h
    refine ⟨_, (pss_one (ps_ret (pe_callTy call_tuple_of (by rfl) T.z_tuple (by decide +kernel) (pa_cons (pe_callB (Kd.cr_sortedS rfl) (by rfl) T.z_sorted (by decide +kernel) (pa_cons (pe_callTy (Kd.cr_setOf rfl) (by rfl) T.z_set (by decide +kernel) (pa_cons (pv 1) pa_nil)) pa_nil)) pa_nil)))), ?_⟩
    refine ⟨_, rfl, p, ns, rfl, hq, hz, fun a c na hc => ⟨a, _, c, rfl, upd_same, by omega, fun ns' q h1 h2 nq => ?_⟩⟩
    obtain rfl := Km.sst_of (l := ns) (fun k => (h2 k).trans (by simp)) h1
    exact ⟨q, _, rfl, .inl ⟨SqL.of upd_same, fun t nt => k _ _ (((same_new na).trans (same_new nq)).trans (same_new nt)) (w_new nt)⟩⟩
/-! ### HeadsKind__plain -/

theorem ok_HeadsKind__plain (T : Txt P K mg A') : FnOk P w K mg base CX0 2 A'.f_HeadsKind__plain A'.fd_HeadsKind__plain ["self", "word"] (sp_plain K .heads) := by
  refine Hk.okM T.F_HeadsKind__plain sc_HeadsKind__plain (fun vs H Q E h => ?_) (fun cdv A outer s H vs Q E hr h => ?_)
  · obtain ⟨x, p, ns, rfl, _⟩ := h
    rfl
  · obtain ⟨x, p, ns, rfl, hq, hz, k⟩ := h
    refine ⟨_, (pss_one (ps_ret (pe_callTy call_tuple_of (by rfl) T.z_tuple (by decide +kernel) (pa_cons (pe_call (ok_different T) (hr.mono (by decide)) rfl T.g_different T.F_different.kp T.b_different .nil pass0 (pa_cons (pv 1) pa_nil)) pa_nil)))), ?_⟩
    exact ⟨_, rfl, p, ns, rfl, hq, hz, fun l H' nl sm hL => ⟨l, _, rfl, .inl ⟨SqL.of hL, fun t nt => k _ _ (sm.trans (same_new nt)) (w_new nt)⟩⟩⟩
/-! ### FirstKind__plain -/

theorem ok_FirstKind__plain (T : Txt P K mg A') : FnOk P w K mg base CX0 2 A'.f_FirstKind__plain A'.fd_FirstKind__plain ["self", "word"] (sp_plain K .first) := by
  refine Hk.okM T.F_FirstKind__plain sc_FirstKind__plain (fun vs H Q E h => ?_) (fun cdv A outer s H vs Q E hr h => ?_)
  · obtain ⟨x, p, ns, rfl, _⟩ := h
    rfl
  · obtain ⟨x, p, ns, rfl, hq, hz, k⟩ := h
    refine ⟨_, (pss_one (ps_ret (pe_callTy call_tuple_of (by rfl) T.z_tuple (by decide +kernel) (pa_cons (pe_slice (Kd.sl_or sl_list sl_tupA) (pv 1) po_none (po_some pe_int)) pa_nil)))), ?_⟩
    exact ⟨_, rfl, 1, rfl, sl_fin hq fun q H1 e1 h1 => tupof h1 fun v H2 e2 hd => k v H2 (e1.trans e2) (by rw [cut_first] at hd; exact hd)⟩
/-! ### TailsKind__plain -/

theorem ok_TailsKind__plain (T : Txt P K mg A') : FnOk P w K mg base CX0 2 A'.f_TailsKind__plain A'.fd_TailsKind__plain ["self", "word"] (sp_plain K .tails) := by
  refine Hk.okM T.F_TailsKind__plain sc_TailsKind__plain (fun vs H Q E h => ?_) (fun cdv A outer s H vs Q E hr h => ?_)
  · obtain ⟨x, p, ns, rfl, _⟩ := h
    rfl
  · obtain ⟨x, p, ns, rfl, hq, hz, k⟩ := h
    refine ⟨_, (pss_one (ps_ret (pe_callTy call_tuple_of (by rfl) T.z_tuple (by decide +kernel) (pa_cons (pe_revL (pe_call (ok_different T) (hr.mono (by decide)) rfl T.g_different T.F_different.kp T.b_different .nil pass0 (pa_cons (Kd.pe_revA (pv 1)) pa_nil))) pa_nil)))), ?_⟩
    refine rev_fin (fun Q q => ⟨_, rfl, q⟩) hq fun q H1 e1 h1 => ⟨q, ns.reverse, rfl, h1, by rw [List.length_reverse]; exact hz, fun l H2 nl e2 hL => ⟨l, _, rfl, SqL.of hL, fun r nr => ?_⟩⟩
    refine tupof (ns := (Km.fo [] ns.reverse).reverse) (.inl (by rw [List.map_reverse]; exact SqL.of upd_same)) fun v H3 e3 hd => k v H3 ((e1.trans e2).trans ((same_new nr).trans e3)) hd
/-! ### LastKind__plain -/

theorem ok_LastKind__plain (T : Txt P K mg A') : FnOk P w K mg base CX0 2 A'.f_LastKind__plain A'.fd_LastKind__plain ["self", "word"] (sp_plain K .last) := by
  refine Hk.okM T.F_LastKind__plain sc_LastKind__plain (fun vs H Q E h => ?_) (fun cdv A outer s H vs Q E hr h => ?_)
  · obtain ⟨x, p, ns, rfl, _⟩ := h
    rfl
  · obtain ⟨x, p, ns, rfl, hq, hz, k⟩ := h
    refine ⟨_, (pss_one (ps_ret (pe_callTy call_tuple_of (by rfl) T.z_tuple (by decide +kernel) (pa_cons (pe_slice (Kd.sl_or sl_list sl_tupA) (pv 1) (po_some (pe_un un_neg pe_int)) po_none) pa_nil)))), ?_⟩
    exact ⟨_, rfl, 1, rfl, -1, rfl, sl_fin hq fun q H1 e1 h1 => tupof h1 fun v H2 e2 hd => k v H2 (e1.trans e2) (by rw [cut_last] at hd; exact hd)⟩
/-! ### EndsKind__plain -/

theorem ok_EndsKind__plain (T : Txt P K mg A') : FnOk P w K mg base CX0 2 A'.f_EndsKind__plain A'.fd_EndsKind__plain ["self", "word"] (sp_plain K .ends) := by
  refine Hk.okM T.F_EndsKind__plain sc_EndsKind__plain (fun vs H Q E h => ?_) (fun cdv A outer s H vs Q E hr h => ?_)
  · obtain ⟨x, p, ns, rfl, _⟩ := h
    rfl
  · obtain ⟨x, p, ns, rfl, hq, hz, k⟩ := h
    refine ⟨_, (pss_one (ps_ret (pe_tup (StX.pa_star (pe_slice (Kd.sl_or sl_list sl_tupA) (pv 1) po_none (po_some pe_int)) (StX.pa_star (pe_slice (Kd.sl_or sl_list sl_tupA) (pv 1) (po_some (pe_un un_neg pe_int)) po_none) pa_nil))))), ?_⟩
    refine ⟨_, rfl, 1, rfl, sl_fin hq fun q H1 e1 h1 => ⟨q, _, rfl, h1.symm, _, rfl, 1, rfl, -1, rfl, sl_fin (sq_same e1 hq) fun r H2 e2 h2 => ⟨r, _, rfl, h2.symm, ?_, fun t nt => ?_⟩⟩⟩
    · have := Km.ends_len ns
      rw [cut_first, cut_last, List.append_nil, ← List.map_append, List.length_map]
      exact Nat.le_trans this (by decide)
    · refine k _ _ ((e1.trans e2).trans (same_new nt)) ?_
      rw [cut_first, cut_last, List.append_nil, ← List.map_append]
      exact w_new nt
def kC (A' : Ad) : Km.Kd8 → Addr
  | .list => A'.c_Kind | .bag => A'.c_BagKind | .set => A'.c_SetKind | .first => A'.c_FirstKind | .last => A'.c_LastKind | .ends => A'.c_EndsKind | .heads => A'.c_HeadsKind | .tails => A'.c_TailsKind
def kF (A' : Ad) : Km.Kd8 → Addr
  | .list => A'.f_Kind__plain | .bag => A'.f_BagKind__plain | .set => A'.f_SetKind__plain | .first => A'.f_FirstKind__plain | .last => A'.f_LastKind__plain | .ends => A'.f_EndsKind__plain | .heads => A'.f_HeadsKind__plain | .tails => A'.f_TailsKind__plain
def kFd (A' : Ad) : Km.Kd8 → FuncData
  | .list => A'.fd_Kind__plain | .bag => A'.fd_BagKind__plain | .set => A'.fd_SetKind__plain | .first => A'.fd_FirstKind__plain | .last => A'.fd_LastKind__plain | .ends => A'.fd_EndsKind__plain | .heads => A'.fd_HeadsKind__plain | .tails => A'.fd_TailsKind__plain
theorem cl8 (T : Txt P K mg A') (k8 : Km.Kd8) : Cls K (kC A' k8) := by
  cases k8
  · exact T.cl_Kind
  · exact T.cl_BagKind
  · exact T.cl_SetKind
  · exact T.cl_FirstKind
  · exact T.cl_LastKind
  · exact T.cl_EndsKind
  · exact T.cl_HeadsKind
  · exact T.cl_TailsKind
theorem me8_plain (T : Txt P K mg A') (k8 : Km.Kd8) : Meth K (kC A' k8) "plain" (kF A' k8) := by
  cases k8
  · exact T.me_Kind__plain
  · exact T.me_BagKind__plain
  · exact T.me_SetKind__plain
  · exact T.me_FirstKind__plain
  · exact T.me_LastKind__plain
  · exact T.me_EndsKind__plain
  · exact T.me_HeadsKind__plain
  · exact T.me_TailsKind__plain
theorem b8_plain (T : Txt P K mg A') (k8 : Km.Kd8) : Binds K (kFd A' k8) ["self", "word"] [] := by
  cases k8
  · exact T.b_Kind__plain
  · exact T.b_BagKind__plain
  · exact T.b_SetKind__plain
  · exact T.b_FirstKind__plain
  · exact T.b_LastKind__plain
  · exact T.b_EndsKind__plain
  · exact T.b_HeadsKind__plain
  · exact T.b_TailsKind__plain
theorem ok8_plain (T : Txt P K mg A') (k8 : Km.Kd8) : FnOk P w K mg base CX0 2 (kF A' k8) (kFd A' k8) ["self", "word"] (sp_plain K k8) := by
  cases k8
  · exact ok_Kind__plain T
  · exact ok_BagKind__plain T
  · exact ok_SetKind__plain T
  · exact ok_FirstKind__plain T
  · exact ok_LastKind__plain T
  · exact ok_EndsKind__plain T
  · exact ok_HeadsKind__plain T
  · exact ok_TailsKind__plain T
/-! ### kind_named -/
def sp_kind_named (A' : Ad) : Sp := fun vs H Q _ => ∃ k8 : Km.Kd8, vs = [.str (nm k8)] ∧ ∀ x dx H', H x = none → Same H H' → H' x = some (.ins (kC A' k8) dx []) → Q (.ref x) H'
theorem ok_kind_named (T : Txt P K mg A') : FnOk P w K mg base CX0 2 A'.f_kind_named A'.fd_kind_named ["name"] (sp_kind_named A') := by
  refine Hk.okN T.F_kind_named sc_kind_named (fun vs H Q E h => ?_) (fun cdv A outer s H vs Q E hr h => ?_)
  · obtain ⟨k8, rfl, _⟩ := h
    rfl
  · obtain ⟨k8, rfl, k⟩ := h
    refine ⟨_, (pss_cons (ps_expr (pe_call (ok_check_kind T) (hr.mono (by decide)) rfl T.g_check_kind T.F_check_kind.kp T.b_check_kind .nil pass0 (pa_cons (pv 0) pa_nil)))
    (pss_cons (ps_if (pt_cmpR op_eq (pv 0) pe_str (nomark _)) (pss_one (ps_ret (Kd.pe_bare T.bc_BagKind rfl T.m_BagKind))) pss_nil)
    (pss_cons (ps_if (pt_cmpR op_eq (pv 0) pe_str (nomark _)) (pss_one (ps_ret (Kd.pe_bare T.bc_SetKind rfl T.m_SetKind))) pss_nil)
    (pss_cons (ps_if (pt_cmpR op_eq (pv 0) pe_str (nomark _)) (pss_one (ps_ret (Kd.pe_bare T.bc_FirstKind rfl T.m_FirstKind))) pss_nil)
    (pss_cons (ps_if (pt_cmpR op_eq (pv 0) pe_str (nomark _)) (pss_one (ps_ret (Kd.pe_bare T.bc_LastKind rfl T.m_LastKind))) pss_nil)
    (pss_cons (ps_if (pt_cmpR op_eq (pv 0) pe_str (nomark _)) (pss_one (ps_ret (Kd.pe_bare T.bc_EndsKind rfl T.m_EndsKind))) pss_nil)
    (pss_cons (ps_if (pt_cmpR op_eq (pv 0) pe_str (nomark _)) (pss_one (ps_ret (Kd.pe_bare T.bc_HeadsKind rfl T.m_HeadsKind))) pss_nil)
    (pss_cons (ps_if (pt_cmpR op_eq (pv 0) pe_str (nomark _)) (pss_one (ps_ret (Kd.pe_bare T.bc_TailsKind rfl T.m_TailsKind))) pss_nil)
    (pss_one (ps_ret (Kd.pe_bare T.bc_Kind rfl T.m_Kind))))))))))), ?_⟩
    have fin : ∀ x dx : Addr, H x = none → H dx = none → dx ≠ x → Q (.ref x) (upd (upd H dx (.own x)) x (.ins (kC A' k8) dx [])) := fun x dx n1 n2 n3 => k x dx _ n1 ((same_new n2).trans (same_new (by rw [upd_ne n3.symm]; exact n1))) upd_same
    refine ⟨_, rfl, k8, rfl, ?_⟩
    cases k8 with
    | list =>
      refine ⟨_, rfl, rfl, _, rfl, ?_⟩
      refine ifF (by decide +kernel) ?_
      refine ⟨_, rfl, rfl, _, rfl, ?_⟩
      refine ifF (by decide +kernel) ?_
      refine ⟨_, rfl, rfl, _, rfl, ?_⟩
      refine ifF (by decide +kernel) ?_
      refine ⟨_, rfl, rfl, _, rfl, ?_⟩
      refine ifF (by decide +kernel) ?_
      refine ⟨_, rfl, rfl, _, rfl, ?_⟩
      refine ifF (by decide +kernel) ?_
      refine ⟨_, rfl, rfl, _, rfl, ?_⟩
      refine ifF (by decide +kernel) ?_
      refine ⟨_, rfl, rfl, _, rfl, ?_⟩
      refine ifF (by decide +kernel) ?_
      exact fin
    | bag =>
      refine ⟨_, rfl, rfl, _, rfl, ?_⟩
      refine ifT (by decide +kernel) ?_
      exact fin
    | set =>
      refine ⟨_, rfl, rfl, _, rfl, ?_⟩
      refine ifF (by decide +kernel) ?_
      refine ⟨_, rfl, rfl, _, rfl, ?_⟩
      refine ifT (by decide +kernel) ?_
      exact fin
    | first =>
      refine ⟨_, rfl, rfl, _, rfl, ?_⟩
      refine ifF (by decide +kernel) ?_
      refine ⟨_, rfl, rfl, _, rfl, ?_⟩
      refine ifF (by decide +kernel) ?_
      refine ⟨_, rfl, rfl, _, rfl, ?_⟩
      refine ifT (by decide +kernel) ?_
      exact fin
    | last =>
      refine ⟨_, rfl, rfl, _, rfl, ?_⟩
      refine ifF (by decide +kernel) ?_
      refine ⟨_, rfl, rfl, _, rfl, ?_⟩
      refine ifF (by decide +kernel) ?_
      refine ⟨_, rfl, rfl, _, rfl, ?_⟩
      refine ifF (by decide +kernel) ?_
      refine ⟨_, rfl, rfl, _, rfl, ?_⟩
      refine ifT (by decide +kernel) ?_
      exact fin
    | ends =>
      refine ⟨_, rfl, rfl, _, rfl, ?_⟩
      refine ifF (by decide +kernel) ?_
      refine ⟨_, rfl, rfl, _, rfl, ?_⟩
      refine ifF (by decide +kernel) ?_
      refine ⟨_, rfl, rfl, _, rfl, ?_⟩
      refine ifF (by decide +kernel) ?_
      refine ⟨_, rfl, rfl, _, rfl, ?_⟩
      refine ifF (by decide +kernel) ?_
      refine ⟨_, rfl, rfl, _, rfl, ?_⟩
      refine ifT (by decide +kernel) ?_
      exact fin
    | heads =>
      refine ⟨_, rfl, rfl, _, rfl, ?_⟩
      refine ifF (by decide +kernel) ?_
      refine ⟨_, rfl, rfl, _, rfl, ?_⟩
      refine ifF (by decide +kernel) ?_
      refine ⟨_, rfl, rfl, _, rfl, ?_⟩
      refine ifF (by decide +kernel) ?_
      refine ⟨_, rfl, rfl, _, rfl, ?_⟩
      refine ifF (by decide +kernel) ?_
      refine ⟨_, rfl, rfl, _, rfl, ?_⟩
      refine ifF (by decide +kernel) ?_
      refine ⟨_, rfl, rfl, _, rfl, ?_⟩
      refine ifT (by decide +kernel) ?_
      exact fin
    | tails =>
      refine ⟨_, rfl, rfl, _, rfl, ?_⟩
      refine ifF (by decide +kernel) ?_
      refine ⟨_, rfl, rfl, _, rfl, ?_⟩
      refine ifF (by decide +kernel) ?_
      refine ⟨_, rfl, rfl, _, rfl, ?_⟩
      refine ifF (by decide +kernel) ?_
      refine ⟨_, rfl, rfl, _, rfl, ?_⟩
      refine ifF (by decide +kernel) ?_
      refine ⟨_, rfl, rfl, _, rfl, ?_⟩
      refine ifF (by decide +kernel) ?_
      refine ⟨_, rfl, rfl, _, rfl, ?_⟩
      refine ifF (by decide +kernel) ?_
      refine ⟨_, rfl, rfl, _, rfl, ?_⟩
      refine ifT (by decide +kernel) ?_
      exact fin
/-! ### is_word -/
def sp_is_word (K : PySem.W.Frag) : Sp := fun vs H Q _ => ∃ (v : V) (d : PyData), vs = [v] ∧ Dp K H v d ∧ few d ∧ ∀ H', Same H H' → Q (.bl (isWd isL d)) H'
theorem ok_is_word (T : Txt P K mg A') : FnOk P w K mg base CX0 2 A'.f_is_word A'.fd_is_word ["thing"] (sp_is_word K) := by
  refine Hk.okN T.F_is_word sc_is_word (fun vs H Q E h => ?_) (fun cdv A outer s H vs Q E hr h => ?_)
  · obtain ⟨v, d, rfl, _⟩ := h
    rfl
  · obtain ⟨v, d, rfl, hd, hz, k⟩ := h
    refine ⟨_, (pss_one (ps_ret (pe_and (pe_callB call_isD (by rfl) T.z_isinstance (by decide +kernel) (pa_cons (pv 0) (pa_cons (pe_bltn (v := .ty "tuple") (by rfl) T.z_tuple (by decide +kernel) rfl) pa_nil))) (pe_one (pe_callB (cr_all rfl) (by rfl) T.z_all (by decide +kernel) (pa_cons (pe_lc (own := [("letter", 1)]) (g := gName 1) (tt := tYes) (by rfl) sc_is_word.nd (pi_tup (pv 0)) (blkOk_by (own := [("letter", 1)]) (N := ["thing", "letter"]) (sc := defScope s_is_word) (by decide +kernel)) (fun _ _ _ _ _ => (pg_name (i := 1) sc_is_word.nd rfl (Or.inl rfl))) (fun _ _ _ _ _ => pts_nil) (fun _ _ _ _ _ => (pe_call (ok_is_letter T) (hr.mono (by decide)) rfl T.g_is_letter T.F_is_letter.kp T.b_is_letter .nil pass0 (pa_cons (pv 1) pa_nil)))) pa_nil)))))), ?_⟩
    refine ⟨_, rfl, _, _, _, rfl, okT_tuple, hd, _, rfl, ?_⟩
    refine if2 (fun c => ?_) (fun c => ?_)
    · obtain ⟨ds, rfl⟩ := tup_of c
      cases hd with
      | @tup a xs ds h1 h2 =>
        refine cb1 (all_dat (f := isL) (fun Q q => ⟨_, rfl, q⟩) h1 h2 (hz _ rfl) (fun x d H' Q' s1 _ hx q => ⟨rfl, _, rfl, x, d, rfl, hx, q⟩) fun D H' s1 hD => ?_)
        refine ⟨D, _, rfl, hD, ?_⟩
        rw [all_map]
        exact k H' s1
    · have e := isWd_not (f := isL) d c
      rw [e] at k
      exact k H (.refl _)
/-! ### normal -/
def sp_normal (K : PySem.W.Frag) : Sp := fun vs H Q _ => ∃ (k8 : Km.Kd8) (e : V) (f : Bool) (ns : List Int), vs = [.str (nm k8), e] ∧ Dp K H e (eD f ns) ∧ ∀ v H', Same H H' → Dp K H' v (nE k8 f ns) → Q v H'
theorem ok_normal (T : Txt P K mg A') : FnOk P w K mg base CX0 2 A'.f_normal A'.fd_normal ["kind", "effect"] (sp_normal K) := by
  refine Hk.okN T.F_normal sc_normal (fun vs H Q E h => ?_) (fun cdv A outer s H vs Q E hr h => ?_)
  · obtain ⟨k8, e, f, ns, rfl, _⟩ := h
    rfl
  · obtain ⟨k8, e, f, ns, rfl, he, k⟩ := h
    obtain ⟨a, t, rfl, h1, h2⟩ := e_inv he
    refine ⟨_, (pss_cons (ps_expr (pe_call (ok_check_kind T) (hr.mono (by decide)) rfl T.g_check_kind T.F_check_kind.kp T.b_check_kind .nil pass0 (pa_cons (pv 0) pa_nil)))
    (pss_cons (ps_asg (pv 1) (pg_tup (by rfl) (pgs_cons (pg_name (i := 2) sc_normal.nd rfl (Or.inl rfl)) (pgs_cons (pg_name (i := 3) sc_normal.nd rfl (Or.inl rfl)) pgs_nil))))
    (pss_cons (ps_if (PW.pt (pw_and (pt_cmpR op_eq (pv 0) pe_str (nomark _)) (pw_and1 (pt_cmpR (op_neD hr.units) (pv 3) (pe_tup pa_nil) (nomark _))))) (pss_one (ps_ret (pe_tup (pa_cons pe_bl (pa_cons (pv 3) pa_nil))))) pss_nil)
    (pss_one (ps_ret (pe_tup (pa_cons (pv 2) (pa_cons (pv 3) pa_nil)))))))), ?_⟩
    refine ⟨_, rfl, k8, rfl, ?_⟩
    refine ⟨_, rfl, a, _, rfl, h1, rfl, .bl f, [.ref t], rfl, .ref t, [], rfl, rfl, ?_⟩
    have hw := w_mk h2
    have mk : ∀ (b : Bool) (H' : Hp), Same H H' → b = nF k8 f ns → ∀ q, H' q = none → Q (.ref q) (upd H' q (.tup [.bl b, .ref t])) := fun b H' s eb q nq => k _ _ (s.trans (same_new nq)) (by
      subst eb
      exact e_mk (.inl (.inl upd_same)) (dp_same (s.trans (same_new nq)) hw))
    refine ⟨_, rfl, rfl, _, rfl, ?_⟩
    have ek := eq_nm k8 .last
    refine if2 (fun c => ?_) (fun c => ?_)
    · refine ⟨_, rfl, Nat.zero_le _, fun q nq => ⟨_, _, dp_same (same_new nq) hw, w_mk (ns := []) (.inl (.inl upd_same)), shaped_w _, shaped_w _, _, rfl, ?_⟩⟩
      rw [eqv_w]
      refine if2 (fun c2 => ?_) (fun c2 => ?_)
      · refine ⟨_, rfl, (by show 2 ≤ sizeLine; decide), fun r nr => mk true _ (same_new nq) ?_ r nr⟩
        unfold nF
        rw [ek.symm.trans c]
        cases ns with
        | nil => simp at c2
        | cons _ _ => rfl
      · refine ⟨_, rfl, _, rfl, (by show 2 ≤ sizeLine; decide), fun r nr => mk f _ (same_new nq) ?_ r nr⟩
        unfold nF
        cases ns with
        | nil => simp
        | cons _ _ => simp at c2
    · refine ⟨_, rfl, _, rfl, (by show 2 ≤ sizeLine; decide), fun r nr => mk f _ (.refl _) ?_ r nr⟩
      unfold nF
      rw [ek.symm.trans c, Bool.false_and] <;> rfl
/-! ### _law_draw -/
def sp__law_draw (K : PySem.W.Frag) : Sp := fun vs H Q _ => ∃ (S c : Addr) (m : Int), vs = [.ref S, .int m] ∧ Stm S c H ∧ 1 ≤ m ∧ m < 1073741824 ∧ ∀ (r : Int) H', 0 ≤ r → r < m → Stm S c H' → Ext S H H' → Q (.int r) H'
theorem ok__law_draw (T : Txt P K mg A') : FnOk P w K mg base CX0 2 A'.f__law_draw A'.fd__law_draw ["_law_stream_here", "_law_many"] (sp__law_draw K) := by
  refine Hk.okN T.F__law_draw sc__law_draw (fun vs H Q E h => ?_) (fun cdv A outer s H vs Q E hr h => ?_)
  · obtain ⟨S, c, m, rfl, _⟩ := h
    rfl
  · obtain ⟨S, c, m, rfl, hSt, hm1, hm2, k⟩ := h
    have ncS := hSt.ne
    obtain ⟨ns, p, v, hS, hC, h63, hp, hv⟩ := hSt
    refine ⟨_, (Evl.pss_cut (ps_if (PW.pt (pw_and (pt_cmpR op_eq (pe_ix ix_list (pv 0) pe_int (fun _ _ => rfl)) pe_int (nomark _)) (pw_and1 (pt_cmpR op_lt (pe_ix ix_list (pv 0) pe_int (fun _ _ => rfl)) (pe_callB call_len_seq (by rfl) T.z_len (by decide +kernel) (pa_cons (pe_ix ix_list (pv 0) pe_int (fun _ _ => rfl)) pa_nil)) (nomark _))))) (pss_cons (ps_set (i := 2) sc__law_draw.nd rfl (Or.inl rfl) (pe_ix ix_list (pe_ix ix_list (pv 0) pe_int (fun _ _ => rfl)) (pe_ix ix_list (pv 0) pe_int (fun _ _ => rfl)) (fun _ _ => rfl)))
    (pss_cons (ps_asg (pe_op op_add (pe_ix ix_list (pv 0) pe_int (fun _ _ => rfl)) pe_int) (pg_sub (pv 0) pe_int set_list))
    (pss_cons (ps_asg (pe_callB call_abs (by rfl) T.z_abs (by decide +kernel) (pa_cons (pv 2) pa_nil)) (pg_sub (pv 0) pe_int set_list))
    (pss_one (ps_if (pt_cmpR op_lt (pe_ix ix_list (pv 0) pe_int (fun _ _ => rfl)) (pe_op op_pow pe_int pe_int) (nomark _)) (pss_one (ps_asg (pe_call (ok__law_mixed T) (hr.mono (by decide)) rfl T.g__law_mixed T.F__law_mixed.kp T.b__law_mixed .nil pass0 (pa_cons (pv 2) (pa_cons (pe_ix ix_list (pv 0) pe_int (fun _ _ => rfl)) pa_nil))) (pg_sub (pv 0) pe_int set_list))) pss_nil))))) pss_nil)
    (pss_cons (ps_set (i := 3) sc__law_draw.nd rfl (Or.inl rfl) (pe_op op_mod (pe_callTy call_int1 (by rfl) T.z_int (by decide +kernel) (pa_cons (pe_ix ix_list (pv 0) pe_int (fun _ _ => rfl)) pa_nil)) (pv 1)))
    (pss_cons (ps_asg (pe_op op_fdiv (pe_callTy call_int1 (by rfl) T.z_int (by decide +kernel) (pa_cons (pe_ix ix_list (pv 0) pe_int (fun _ _ => rfl)) pa_nil)) (pv 1)) (pg_sub (pv 0) pe_int set_list))
    (pss_one (ps_ret (pv 3)))))), ?_⟩
    refine ⟨fun σ' H1 => ∃ (p' : Nat) (v' : Int) (z : Option V), σ' = [some (.ref S), some (.int m), z, none] ∧ H1 S = some (.lst [.ref c, .int (p' : Int), .int v']) ∧ H1 c = some (.lst (ns.map V.int)) ∧ p' ≤ ns.length ∧ 0 ≤ v' ∧ Ext S H H1, ?_, ?_⟩
    · refine ⟨_, rfl, S, _, _, _, rfl, rfl, SqL.of hS, rfl, rfl, _, rfl, ?_⟩
      refine if2 (fun c1 => ?_) (fun c1 => ⟨p, v, none, rfl, hS, hC, hp, hv, .refl _ _⟩)
      refine ⟨_, rfl, S, _, _, _, rfl, rfl, SqL.of hS, rfl, _, rfl, S, _, _, _, rfl, rfl, SqL.of hS, rfl, c, _, rfl, .inl (SqL.of hC), _, _, rfl, rfl, _, rfl, ?_⟩
      refine if2 (fun c2 => ?_) (fun c2 => ⟨p, v, none, rfl, hS, hC, hp, hv, .refl _ _⟩)
      have c2' := of_decide_eq_true c2
      rw [List.length_map] at c2'
      have hlt : p < ns.length := by omega
      have hget : (ns.map V.int)[p]? = some (V.int ns[p]) := by rw [List.getElem?_map, List.getElem?_eq_getElem hlt] <;> rfl
      generalize ns[p] = n at hget
      refine ⟨_, rfl, S, _, _, _, rfl, rfl, SqL.of hS, rfl, _, rfl, S, _, _, _, rfl, rfl, SqL.of hS, rfl, c, _, _, _, rfl, rfl, SqL.of hC, atI_nat hget, ?_⟩
      refine ⟨_, rfl, S, _, _, _, rfl, rfl, SqL.of hS, rfl, _, _, rfl, rfl, _, rfl, S, _, _, _, rfl, rfl, hS, rfl, ?_⟩
      refine ⟨_, rfl, _, rfl, _, rfl, S, _, _, _, rfl, rfl, upd_same, rfl, ?_⟩
      have e3 : ∀ {A B : HO}, Ext S H (upd (upd H S A) S B) := fun {A B} => (Ext.at (o := A)).trans .at
      refine ⟨_, rfl, S, _, _, _, rfl, rfl, SqL.of upd_same, rfl, _, _, rfl, rfl, ⟨by decide, by decide, by decide⟩, _, _, rfl, rfl, _, rfl, ?_⟩
      refine if2 (fun c3 => ?_) (fun c3 => ?_)
      · have c3' : (if n < 0 then -n else n) < 1000000000000000000 := of_decide_eq_true c3
        refine ⟨_, rfl, _, rfl, S, _, _, _, rfl, rfl, SqL.of upd_same, rfl, n, p + 1, rfl, by omega, by omega, fun r hr0 => ?_⟩
        refine ⟨_, rfl, S, _, _, _, rfl, rfl, upd_same, rfl, ?_⟩
        exact ⟨p + 1, r, _, rfl, upd_same, by rw [upd_ne ncS, upd_ne ncS, upd_ne ncS]; exact hC, by omega, hr0, e3.trans .at⟩
      · exact ⟨p + 1, _, _, rfl, upd_same, by rw [upd_ne ncS, upd_ne ncS]; exact hC, by omega, by omega, e3⟩
    · rintro σ' H1 ⟨p', v', z, rfl, h1, h2, hp', hv', e1⟩
      refine ⟨_, rfl, S, _, _, _, rfl, rfl, SqL.of h1, rfl, .inl ⟨_, rfl, _, rfl, _, _, rfl, rfl, (show (0 : Int) < m by omega), ?_⟩⟩
      refine ⟨_, rfl, S, _, _, _, rfl, rfl, SqL.of h1, rfl, .inl ⟨_, rfl, _, rfl, _, _, rfl, rfl, ⟨by omega, by omega⟩, _, rfl, S, _, _, _, rfl, rfl, h1, rfl, ?_⟩⟩
      exact ⟨_, rfl, k _ _ (Int.emod_nonneg _ (by omega)) (Int.emod_lt_of_pos _ (by omega)) ⟨ns, p', v' / m, upd_same, by rw [upd_ne ncS]; exact h2, h63, hp', Int.ediv_nonneg hv' (by omega)⟩ (e1.trans .at)⟩
/-! ### _law_joined -/
def sp__law_joined (K : PySem.W.Frag) : Sp := fun vs H Q _ => ∃ (k8 : Km.Kd8) (p q : Addr) (a b : List Int), vs = [.str (nm k8), .ref p, .ref q] ∧ SqT K H p (a.map V.int) ∧ SqT K H q (b.map V.int) ∧ a.length + b.length ≤ 900 ∧ ∀ v H', Same H H' → Dp K H' v (wD (Km.pl k8 (a ++ b))) → Q v H'
theorem ok__law_joined (T : Txt P K mg A') : FnOk P w K mg base CX0 2 A'.f__law_joined A'.fd__law_joined ["_law_kind_here", "_law_left", "_law_right"] (sp__law_joined K) := by
  refine Hk.okN T.F__law_joined sc__law_joined (fun vs H Q E h => ?_) (fun cdv A outer s H vs Q E hr h => ?_)
  · obtain ⟨k8, p, q, a, b, rfl, _⟩ := h
    rfl
  · obtain ⟨k8, p, q, a, b, rfl, hp, hq, hz, k⟩ := h
    refine ⟨_, (pss_one (ps_ret (pe_call (ok__law_plain T) (hr.mono (by decide)) rfl T.g__law_plain T.F__law_plain.kp T.b__law_plain .nil pass0 (pa_cons (pv 0) (pa_cons (pe_op op_catA (pv 1) (pv 2)) pa_nil))))), ?_⟩
    refine ⟨_, rfl, _, rfl, _, rfl, cat_fin hp hq hz fun r H1 s1 hr1 => ?_⟩
    exact ⟨k8, r, a ++ b, rfl, hr1, by rw [List.length_append]; exact hz, fun v H2 s2 hv => k v H2 (s1.trans s2) hv⟩
/-! ### _law_is_word -/
def sp__law_is_word (K : PySem.W.Frag) : Sp := fun vs H Q _ => ∃ (v : V) (d : PyData), vs = [v] ∧ Dp K H v d ∧ few d ∧ ∀ H', Same H H' → Q (.bl (isWd isW d)) H'
theorem ok__law_is_word (T : Txt P K mg A') : FnOk P w K mg base CX0 2 A'.f__law_is_word A'.fd__law_is_word ["_law_thing"] (sp__law_is_word K) := by
  refine Hk.okN T.F__law_is_word sc__law_is_word (fun vs H Q E h => ?_) (fun cdv A outer s H vs Q E hr h => ?_)
  · obtain ⟨v, d, rfl, _⟩ := h
    rfl
  · obtain ⟨v, d, rfl, hd, hz, k⟩ := h
    refine ⟨_, (pss_one (ps_ret (pe_and (pe_callB call_isD (by rfl) T.z_isinstance (by decide +kernel) (pa_cons (pv 0) (pa_cons (pe_bltn (v := .ty "tuple") (by rfl) T.z_tuple (by decide +kernel) rfl) pa_nil))) (pe_one (pe_callB (cr_all rfl) (by rfl) T.z_all (by decide +kernel) (pa_cons (pe_lc (own := [("_law_letter", 1)]) (g := gName 1) (tt := tYes) (by rfl) sc__law_is_word.nd (pi_tup (pv 0)) (blkOk_by (own := [("_law_letter", 1)]) (N := ["_law_thing", "_law_letter"]) (sc := defScope s__law_is_word) (by decide +kernel)) (fun _ _ _ _ _ => (pg_name (i := 1) sc__law_is_word.nd rfl (Or.inl rfl))) (fun _ _ _ _ _ => pts_nil) (fun _ _ _ _ _ => (pe_call (ok__law_is_number T) (hr.mono (by decide)) rfl T.g__law_is_number T.F__law_is_number.kp T.b__law_is_number .nil pass0 (pa_cons (pv 1) pa_nil)))) pa_nil)))))), ?_⟩
    refine ⟨_, rfl, _, _, _, rfl, okT_tuple, hd, _, rfl, ?_⟩
    refine if2 (fun c => ?_) (fun c => ?_)
    · obtain ⟨ds, rfl⟩ := tup_of c
      cases hd with
      | @tup a xs ds h1 h2 =>
        refine cb1 (all_dat (f := isW) (fun Q q => ⟨_, rfl, q⟩) h1 h2 (hz _ rfl) (fun x d H' Q' s1 _ hx q => ⟨rfl, _, rfl, x, d, rfl, hx, q⟩) fun D H' s1 hD => ?_)
        refine ⟨D, _, rfl, hD, ?_⟩
        rw [all_map]
        exact k H' s1
    · have e := isWd_not (f := isW) d c
      rw [e] at k
      exact k H (.refl _)
/-! ### _law_narrowed_row -/
def sp__law_narrowed_row (K : PySem.W.Frag) : Sp := fun vs H Q _ => ∃ (k1 k2 : Km.Kd8) (p : Addr) (xs : List V) (l : List Mt.Ev), vs = [.str (nm k1), .str (nm k2), .ref p] ∧ SqL K H p xs ∧ DpAll K H xs (effs l) ∧ (∀ e ∈ l, e.2.length ≤ 120) ∧ Km.undB k1 k2 = true ∧ l.length ≤ 100 ∧ ∀ r ys H', Same H H' → H r = none → H' r = some (.lst ys) → DpAll K H' ys (effs (l.map (nrm k1))) → Q (.ref r) H'
theorem ok__law_narrowed_row (T : Txt P K mg A') : FnOk P w K mg base CX0 2 A'.f__law_narrowed_row A'.fd__law_narrowed_row ["_law_narrow", "_law_wide", "_law_row_here"] (sp__law_narrowed_row K) := by
  refine Hk.okN T.F__law_narrowed_row sc__law_narrowed_row (fun vs H Q E h => ?_) (fun cdv A outer s H vs Q E hr h => ?_)
  · obtain ⟨k1, k2, p, xs, l, rfl, _⟩ := h
    rfl
  · obtain ⟨k1, k2, p, xs, l, rfl, hq, hx, le, hu, ll, k⟩ := h
    refine ⟨_, (pss_cons (ps_set (i := 3) sc__law_narrowed_row.nd rfl (Or.inl rfl) (pe_lst pa_nil))
    (pss_cons (ps_for PassesOwn.never rfl (pi_list (pv 2)) (pg_name (i := 4) sc__law_narrowed_row.nd rfl (Or.inl rfl)) (pss_cons (ps_set (i := 5) sc__law_narrowed_row.nd rfl (Or.inl rfl) (pe_call (ok__law_normal T) (hr.mono (by decide)) rfl T.g__law_normal T.F__law_normal.kp T.b__law_normal .nil pass0 (pa_cons (pv 1) (pa_cons (pv 4) pa_nil))))
    (pss_one (ps_expr (pe_bm PySem.F.plainAttrs_list PySem.F.slot_list_append PySem.F.type_list_append mt_append (pv 3) (pa_cons (pe_call (ok__law_normal T) (hr.mono (by decide)) rfl T.g__law_normal T.F__law_normal.kp T.b__law_normal .nil pass0 (pa_cons (pv 0) (pa_cons (pe_tup (pa_cons (pe_ix ix_tup (pv 5) pe_int (fun _ _ => rfl)) (pa_cons (pe_call (ok__law_plain T) (hr.mono (by decide)) rfl T.g__law_plain T.F__law_plain.kp T.b__law_plain .nil pass0 (pa_cons (pv 0) (pa_cons (pe_ix ix_tup (pv 5) pe_int (fun _ _ => rfl)) pa_nil))) pa_nil))) pa_nil))) pa_nil))))))
    (pss_one (ps_ret (pv 3))))), ?_⟩
    have two : 2 ≤ sizeLine := by decide
    have lx : xs.length = l.length := by have := dpa_len hx; rwa [Mt.effs_len] at this
    refine ⟨Nat.zero_le _, fun D nD => ?_⟩
    have sD := same_new (o := .lst []) nD
    refine ⟨_, rfl, p, rfl, ⟨_, sD.seq hq⟩, for_list (K := K) (a := p) (xs := xs) (fun i σ' H' => ∃ o1 o2 ys, σ' = [some (.str (nm k1)), some (.str (nm k2)), some (.ref p), some (.ref D), o1, o2] ∧ Same H H' ∧ H' D = some (.lst ys) ∧ DpAll K H' ys (effs ((l.take i).map (nrm k1)))) ⟨none, none, [], rfl, sD, upd_same, .nil⟩ (fun i σ' H' _ ⟨_, _, _, _, s, _⟩ => s.seq hq) ?_ ?_⟩
    · rintro i x σ' H' hi ⟨o1, o2, ys, rfl, s, hD, hy⟩
      obtain ⟨e, he, hE⟩ := Mt.get_eff (dpa_same s hx) hi
      have le := le e (List.mem_of_getElem? he)
      have ly : ys.length ≤ l.length := by
        have := dpa_len hy
        rw [Mt.effs_len, List.length_map, List.length_take] at this
        omega
      refine ⟨_, rfl, _, rfl, k2, x, e.1, e.2, rfl, hE, fun v1 H1 s1 hv1 => ?_⟩
      have hv1 : Dp K H1 v1 (eD (nF k2 e.1 e.2) e.2) := hv1
      obtain ⟨a, t, rfl, ha, ht⟩ := e_inv hv1
      refine ⟨_, rfl, .inl ⟨rfl, _, SqL.of (s1 _ _ hD)⟩, ?_⟩
      refine ⟨_, rfl, _, rfl, a, _, _, _, rfl, rfl, ha, atI_nat (j := 0) rfl, _, rfl, _, rfl, a, _, _, _, rfl, rfl, ha, atI_nat (j := 1) rfl, k1, t, e.2, rfl, ht, by omega, fun u H2 s2 hu2 => ⟨two, fun z nz => ?_⟩⟩
      have sz := same_new (o := .tup [.bl (nF k2 e.1 e.2), u]) nz
      refine ⟨k1, .ref z, nF k2 e.1 e.2, Km.pl k1 e.2, rfl, e_mk (.inl (.inl upd_same)) (dp_same sz hu2), fun v H3 s3 hv => ?_⟩
      have e2 : nE k1 (nF k2 e.1 e.2) (Km.pl k1 e.2) = eD (nrm k1 e).1 (nrm k1 e).2 := by
        show eD (nF k1 (nF k2 e.1 e.2) (Km.pl k1 e.2)) (Km.pl k1 e.2) = eD (nF k1 e.1 (Km.pl k1 e.2)) (Km.pl k1 e.2)
        rw [under_nF hu]
      rw [e2] at hv
      have s13 := ((s1.trans s2).trans sz).trans s3
      obtain ⟨f1, f2, f3⟩ := Mt.fillE nD s hD hy s13 hv
      refine ⟨D, _, _, rfl, rfl, s13 _ _ hD, small1000 (by omega), ?_⟩
      refine ⟨_, _, _, rfl, f1, f2, ?_⟩
      rw [Mt.take1 he, List.map_append]
      exact f3
    · rintro σ' H' ⟨o1, o2, ys, rfl, s, hD, hy⟩
      rw [lx, List.take_length] at hy
      exact ⟨_, rfl, k D ys H' s nD hD hy⟩
/-! ### is_plain -/
def sp_is_plain (K : PySem.W.Frag) : Sp := fun vs H Q _ => ∃ (k8 : Km.Kd8) (v : V) (d : PyData), vs = [.str (nm k8), v] ∧ Dp K H v d ∧ few d ∧ ∀ H', Same H H' → Q (.bl (isPl k8 d)) H'
theorem ok_is_plain (T : Txt P K mg A') : FnOk P w K mg base CX0 3 A'.f_is_plain A'.fd_is_plain ["kind", "thing"] (sp_is_plain K) := by
  refine Hk.okN T.F_is_plain sc_is_plain (fun vs H Q E h => ?_) (fun cdv A outer s H vs Q E hr h => ?_)
  · obtain ⟨k8, v, d, rfl, _⟩ := h
    rfl
  · obtain ⟨k8, v, d, rfl, hd, hz, k⟩ := h
    refine ⟨_, (pss_cons (ps_set (i := 2) sc_is_plain.nd rfl (Or.inl rfl) (pe_call (ok_kind_named T) (hr.mono (by decide)) rfl T.g_kind_named T.F_kind_named.kp T.b_kind_named .nil pass0 (pa_cons (pv 0) pa_nil)))
    (pss_one (ps_ret (pe_and (pe_call (ok_is_word T) (hr.mono (by decide)) rfl T.g_is_word T.F_is_word.kp T.b_is_word .nil pass0 (pa_cons (pv 1) pa_nil)) (pe_one (pe_cmpR (op_eqD hr.units) (Kd.pe_any fun k8 : Km.Kd8 => pe_meth (pv 2) (cl8 T k8) (me8_plain T k8) (ok8_plain T k8) (hr.mono (by decide)) (b8_plain T k8) .nil pass0 (pa_cons (pv 1) pa_nil)) (pv 1) (nomark _))))))), ?_⟩
    refine ⟨_, rfl, k8, rfl, fun x dx H1 nx s1 hx => ?_⟩
    refine ⟨_, rfl, v, d, rfl, dp_same s1 hd, hz, fun H2 s2 => ?_⟩
    refine ⟨_, rfl, ?_⟩
    refine if2 (fun c => ?_) (fun c => ?_)
    · obtain ⟨ns, rfl⟩ := isWd_word d c
      obtain ⟨t, rfl, ht⟩ := w_inv hd
      have s12 := s1.trans s2
      have hl : ns.length ≤ 900 := by
        have z := hz _ rfl
        rwa [List.length_map] at z
      refine ⟨k8, _, rfl, x, dx, [], rfl, s2 _ _ hx, rfl, _, rfl, .ref x, t, ns, rfl, .inr (seqT_same s12 ht), by omega, fun u H3 s3 hu => ?_⟩
      refine ⟨_, rfl, _, _, hu, w_mk (seqT_same (s12.trans s3) ht), shaped_w _, shaped_w _, ?_⟩
      have z := k H3 (s12.trans s3)
      unfold isPl at z
      rw [c, Bool.true_and, wInts_w] at z
      rw [eqv_w]
      exact z
    · have e : isPl k8 d = false := by unfold isPl; rw [c, Bool.false_and]
      rw [e] at k
      exact k _ (s1.trans s2)
/-! ### rest -/
def rstC : Km.Kd8 → List Int → Prop
  | .tails => fun l => List.Nodup l ∧ l.length ≤ 31 | _ => fun _ => True
def rF (A' : Ad) : Km.Kd8 → Addr
  | .list => A'.f_Kind__rest_between | .bag => A'.f_BagKind__rest_between | .set => A'.f_SetKind__rest_between | .first => A'.f_FirstKind__rest_between | .last => A'.f_LastKind__rest_between | .ends => A'.f_EndsKind__rest_between | .heads => A'.f_HeadsKind__rest_between | .tails => A'.f_TailsKind__rest_between
def rFd (A' : Ad) : Km.Kd8 → FuncData
  | .list => A'.fd_Kind__rest_between | .bag => A'.fd_BagKind__rest_between | .set => A'.fd_SetKind__rest_between | .first => A'.fd_FirstKind__rest_between | .last => A'.fd_LastKind__rest_between | .ends => A'.fd_EndsKind__rest_between | .heads => A'.fd_HeadsKind__rest_between | .tails => A'.fd_TailsKind__rest_between
theorem me8_rest_between (T : Txt P K mg A') (k8 : Km.Kd8) : Meth K (kC A' k8) "rest_between" (rF A' k8) := by
  cases k8
  · exact T.me_Kind__rest_between
  · exact T.me_BagKind__rest_between
  · exact T.me_SetKind__rest_between
  · exact T.me_FirstKind__rest_between
  · exact T.me_LastKind__rest_between
  · exact T.me_EndsKind__rest_between
  · exact T.me_HeadsKind__rest_between
  · exact T.me_TailsKind__rest_between
theorem b8_rest_between (T : Txt P K mg A') (k8 : Km.Kd8) : Binds K (rFd A' k8) ["self", "one", "other"] [] := by
  cases k8
  · exact T.b_Kind__rest_between
  · exact T.b_BagKind__rest_between
  · exact T.b_SetKind__rest_between
  · exact T.b_FirstKind__rest_between
  · exact T.b_LastKind__rest_between
  · exact T.b_EndsKind__rest_between
  · exact T.b_HeadsKind__rest_between
  · exact T.b_TailsKind__rest_between
theorem ok8_rest_between (T : Txt P K mg A') (k8 : Km.Kd8) : FnOk P w K mg base CX0 1 (rF A' k8) (rFd A' k8) ["self", "one", "other"] (sp_rst K (rstC k8) (Km.rst8 k8)) := by
  cases k8
  · exact ok_Kind__rest_between T
  · exact ok_BagKind__rest_between T
  · exact ok_SetKind__rest_between T
  · exact ok_FirstKind__rest_between T
  · exact ok_LastKind__rest_between T
  · exact ok_EndsKind__rest_between T
  · exact ok_HeadsKind__rest_between T
  · exact ok_TailsKind__rest_between T
def sp_rest (K : PySem.W.Frag) : Sp := fun vs H Q _ => ∃ (k8 : Km.Kd8) (p q : Addr) (a b : List Int), vs = [.str (nm k8), .ref p, .ref q] ∧ SqT K H p (a.map V.int) ∧ SqT K H q (b.map V.int) ∧ a.length ≤ 120 ∧ b.length ≤ 120 ∧ (rstC k8 a ∧ rstC k8 b) ∧
  ∀ v H', Same H H' → Kz.FoundD K H' v (Km.rst8 k8 a b) → Q v H'
theorem ok_rest (T : Txt P K mg A') : FnOk P w K mg base CX0 3 A'.f_rest A'.fd_rest ["kind", "one", "other"] (sp_rest K) := by
  refine Hk.okN T.F_rest sc_rest (fun vs H Q E h => ?_) (fun cdv A outer s H vs Q E hr h => ?_)
  · obtain ⟨k8, p, q, a, b, rfl, _⟩ := h
    rfl
  · obtain ⟨k8, p, q, a, b, rfl, hp, hq, la, lb, hc, k⟩ := h
    refine ⟨_, (pss_one (ps_ret (Kd.pe_any fun k8 : Km.Kd8 => pe_meth (pe_call (ok_kind_named T) (hr.mono (by decide)) rfl T.g_kind_named T.F_kind_named.kp T.b_kind_named .nil pass0 (pa_cons (pv 0) pa_nil)) (cl8 T k8) (me8_rest_between T k8) (ok8_rest_between T k8) (hr.mono (by decide)) (b8_rest_between T k8) .nil pass0 (pa_cons (pv 1) (pa_cons (pv 2) pa_nil))))), ?_⟩
    refine ⟨k8, _, rfl, k8, rfl, fun x dx H1 nx s1 hx => ⟨x, dx, [], rfl, hx, rfl, _, rfl, _, rfl, .ref x, p, q, a, b, rfl, seqT_same s1 hp, seqT_same s1 hq, la, lb, hc, fun v H2 s2 hv => k v H2 (s1.trans s2) hv⟩⟩
/-! ### then -/
def sp_then (K : PySem.W.Frag) : Sp := fun vs H Q _ => ∃ (k8 : Km.Kd8) (p : Addr) (es : List V) (l : List (Bool × List Int)), vs = [.str (nm k8), .ref p] ∧ SqT K H p es ∧ DpAll K H es (effs l) ∧ (∀ i, ((prodE (l.take i)).2.length ≤ 900)) ∧ ∀ v H', Same H H' → Dp K H' v (let e := nrm k8 (prodE l); eD e.1 e.2) → Q v H'
theorem ok_then (T : Txt P K mg A') : L2.FnR P w K mg base CX0 3 A'.f_then (Kd.spStar 1 (sp_then K)) := by
  refine Kd.okS (ps := ["kind"]) T.F_then sc_then (fun kV doc pm an cdv ct => StX.bind_star1 (B := fun us => bindArgs (PySem.W.fnOf "then" "then" (defArgs s_then) (defBody s_then) (defScope s_then) .none kV doc pm an cdv ct) ⟨us, []⟩) (fun _ => rfl) (fun _ _ _ => rfl)) (fun cdv A outer s H vs Q E hr h => ?_)
  · obtain ⟨k8, p, es, l, rfl, hp, hes, hz, k⟩ := h
    refine ⟨_, (pss_cons (ps_set (i := 2) sc_then.nd rfl (Or.inl rfl) (pe_call (ok_kind_named T) (hr.mono (by decide)) rfl T.g_kind_named T.F_kind_named.kp T.b_kind_named .nil pass0 (pa_cons (pv 0) pa_nil)))
    (pss_cons (ps_set (i := 3) sc_then.nd rfl (Or.inl rfl) pe_bl)
    (pss_cons (ps_set (i := 4) sc_then.nd rfl (Or.inl rfl) (pe_lst pa_nil))
    (pss_cons (ps_for PassesOwn.never rfl (pi_tup (pv 1)) (pg_tup (by rfl) (pgs_cons (pg_name (i := 5) sc_then.nd rfl (Or.inl rfl)) (pgs_cons (pg_name (i := 6) sc_then.nd rfl (Or.inl rfl)) pgs_nil))) (Evl.pss_cut (ps_if (pt_val (pv 5)) (pss_cons (ps_set (i := 3) sc_then.nd rfl (Or.inl rfl) pe_bl)
    (pss_one (ps_set (i := 4) sc_then.nd rfl (Or.inl rfl) (pe_lst pa_nil)))) pss_nil)
    (pss_one (ps_expr (pe_bm PySem.F.plainAttrs_list PySem.F.slot_list_extend PySem.F.type_list_extend Kd.mt_extTu (pv 4) (pa_cons (pv 6) pa_nil))))))
    (pss_one (ps_ret (pe_call (ok_normal T) (hr.mono (by decide)) rfl T.g_normal T.F_normal.kp T.b_normal .nil pass0 (pa_cons (pv 0) (pa_cons (pe_tup (pa_cons (pv 3) (pa_cons (Kd.pe_any fun k8 : Km.Kd8 => pe_meth (pv 2) (cl8 T k8) (me8_plain T k8) (ok8_plain T k8) (hr.mono (by decide)) (b8_plain T k8) .nil pass0 (pa_cons (pv 4) pa_nil)) pa_nil))) pa_nil))))))))), ?_⟩
    refine ⟨_, rfl, k8, rfl, fun x dx H1 nx s1 hx => ?_⟩
    refine ⟨Nat.zero_le _, fun q nq => ?_⟩
    have hp1 := seqT_same s1 hp
    have nxq : x ≠ q := ne_of_none hx nq
    refine ⟨_, rfl, p, rfl, ⟨_, seqT_same (same_new nq) hp1⟩, for_tup (K := K) (a := p) (xs := es) (fun i σ' H' => ∃ (q : Addr) (u v : Option V), σ' = [some (.str (nm k8)), some (.ref p), some (.ref x), some (.bl (prodE (l.take i)).1), some (.ref q), u, v] ∧ Same H1 H' ∧ H1 q = none ∧ H' q = some (.lst ((prodE (l.take i)).2.map V.int))) ⟨q, none, none, rfl, same_new nq, nq, upd_same⟩ (fun i σ' H' _ ⟨_, _, _, _, e, _⟩ => seqT_same e hp1) ?_ ?_⟩
    · rintro i y σ' H' hi ⟨q, u, v, rfl, sm, nq, hL⟩
      obtain ⟨d, hdi, hy⟩ := dpa_get hes hi
      obtain ⟨e, he, rfl⟩ : ∃ e, l[i]? = some e ∧ d = eD e.1 e.2 := by
        unfold effs at hdi
        rw [List.getElem?_map] at hdi
        cases z : l[i]? with
        | none => rw [z] at hdi; cases hdi
        | some e => rw [z] at hdi; exact ⟨e, rfl, (Option.some.inj hdi).symm⟩
      obtain ⟨f, ns⟩ := e
      have step : prodE (l.take (i + 1)) = mulE (prodE (l.take i)) (f, ns) := by
        unfold prodE
        rw [List.take_succ, he, List.foldl_append] <;> rfl
      obtain ⟨a, t, rfl, h1, h2⟩ := e_inv (dp_same (s1.trans sm) hy)
      refine ⟨a, _, rfl, h1, rfl, .bl f, [.ref t], rfl, .ref t, [], rfl, rfl, ?_⟩
      have hz1 := hz (i + 1)
      rw [step] at hz1
      have hz0 := hz i
      generalize prodE (l.take i) = cur at *
      have hw := seqT_same (.refl _) h2
      refine ⟨fun σ2 H2 => ∃ q2 : Addr, σ2 = [some (.str (nm k8)), some (.ref p), some (.ref x), some (.bl (if f then true else cur.1)), some (.ref q2), some (.bl f), some (.ref t)] ∧ Same H1 H2 ∧ H1 q2 = none ∧ H2 q2 = some (.lst ((if f then [] else cur.2).map V.int)) ∧ SqT K H2 t (ns.map V.int), ?_, ?_⟩
      · refine ⟨_, rfl, f, rfl, ?_⟩
        cases f with
        | true =>
          refine iteT ⟨Nat.zero_le _, fun q2 n2 => ?_⟩
          exact ⟨q2, rfl, sm.trans (same_new n2), sm.free n2, upd_same, seqT_same (same_new n2) h2⟩
        | false => exact iteF ⟨q, rfl, sm, nq, hL, h2⟩
      · rintro σ2 H2 ⟨q2, rfl, sm2, nq2, hL2, h22⟩
        refine ⟨_, rfl, .inl ⟨rfl, _, SqL.of hL2⟩, _, rfl, q2, t, _, _, rfl, rfl, hL2, h22, ?_, ?_⟩
        · rw [List.length_map, List.length_map]
          refine Nat.le_trans (m := 1800) ?_ (by decide)
          have : ns.length ≤ 900 := by
            cases f with
            | true => exact hz1
            | false => have z : (cur.2 ++ ns).length ≤ 900 := hz1; rw [List.length_append] at z; omega
          cases f with
          | true => simp; omega
          | false => show cur.2.length + ns.length ≤ _; omega
        · refine ⟨q2, some (.bl f), some (.ref t), ?_, same_mut sm2 nq2, nq2, ?_⟩
          · rw [step]
            cases f <;> rfl
          · rw [upd_same, step, ← List.map_append]
            cases f <;> rfl
    · rintro σ' H' ⟨q, u, v, rfl, sm, nq, hL⟩
      have el : l.take es.length = l := List.take_of_length_le (by
        have z := dpa_len hes
        unfold effs at z
        rw [List.length_map] at z
        omega)
      rw [el] at hL ⊢
      have hzl := hz l.length
      rw [List.take_length] at hzl
      refine ⟨_, rfl, _, rfl, k8, _, rfl, x, dx, [], rfl, sm _ _ hx, rfl, _, rfl, .ref x, q, (prodE l).2, rfl, .inl (SqL.of hL), by omega, fun u H3 s3 hu => ⟨(by show 2 ≤ sizeLine; decide), fun e ne => ?_⟩⟩
      exact ⟨k8, .ref e, _, _, rfl, e_mk (.inl (.inl upd_same)) (dp_same (same_new ne) hu), fun v H4 s4 hv => k v H4 ((((s1.trans sm).trans s3).trans (same_new ne)).trans s4) hv⟩
theorem then_call {K : PySem.W.Frag} {H : Hp} {k8 : Km.Kd8} {es : List V} {l : List (Bool × List Int)} {Q : VK} {E : XK} (hes : DpAll K H es (effs l)) (hl : es.length ≤ 1000) (hz : ∀ i, (prodE (l.take i)).2.length ≤ 900) (k : ∀ v H', Same H H' → Dp K H' v (eD (nrm k8 (prodE l)).1 (nrm k8 (prodE l)).2) → Q v H') :
    Kd.spStar 1 (sp_then K) (.str (nm k8) :: es) H Q E :=
  ⟨[.str (nm k8)], es, rfl, rfl, Nat.le_trans hl (by decide), fun p np => ⟨k8, p, es, l, rfl, .inl (.inl upd_same), dpa_same (same_new np) hes, hz, fun v H' s hv => k v H' ((same_new np).trans s) hv⟩⟩
theorem then0 {K : PySem.W.Frag} {H : Hp} {k8 : Km.Kd8} {Q : VK} {E : XK} (k : ∀ v H', Same H H' → Ef K H' v (false, []) → Q v H') : Kd.spStar 1 (sp_then K) [.str (nm k8)] H Q E :=
  then_call (l := []) .nil (Nat.zero_le _) (fun i => by cases i <;> exact Nat.zero_le _) fun v H' s hv => k v H' s (by
    have e : nrm k8 (prodE []) = (false, []) := by
      show (nF k8 false (Km.pl k8 []), Km.pl k8 []) = _
      rw [Km.pl_nil, nF_nil]
    rw [e] at hv
    exact hv)
theorem mulE_len (x y : Bool × List Int) : (mulE x y).2.length ≤ x.2.length + y.2.length := by
  obtain ⟨g, b⟩ := y
  cases g with
  | true => exact Nat.le_add_left _ _
  | false => exact Nat.le_of_eq List.length_append
theorem prod_len : ∀ (l : List (Bool × List Int)) (a : Bool × List Int) (n : Nat), (∀ x ∈ l, x.2.length ≤ n) → (l.foldl mulE a).2.length ≤ a.2.length + l.length * n
  | [], a, n, _ => by simp
  | x :: r, a, n, h => by
    have h1 := prod_len r (mulE a x) n fun y hy => h y (List.mem_cons_of_mem _ hy)
    have h2 := mulE_len a x
    have h3 := h x List.mem_cons_self
    show ((r.foldl mulE (mulE a x)).2.length) ≤ _
    rw [List.length_cons, Nat.add_mul]
    omega
/-- any number of arguments: each of at most 140 letters, up to six of them -/
theorem thenN {K : PySem.W.Frag} {H : Hp} {k8 : Km.Kd8} {es : List V} {l : List (Bool × List Int)} {Q : VK} {E : XK} (hes : DpAll K H es (effs l)) (h6 : l.length ≤ 6) (hz : ∀ x ∈ l, x.2.length ≤ 140) (k : ∀ v H', Same H H' → Ef K H' v (nrm k8 (prodE l)) → Q v H') :
    Kd.spStar 1 (sp_then K) (.str (nm k8) :: es) H Q E :=
  then_call hes (by
    have z := dpa_len hes
    unfold effs at z
    rw [List.length_map] at z
    omega) (fun i => by
    have z := prod_len (l.take i) (false, []) 140 fun x hx => hz x (List.mem_of_mem_take hx)
    have z2 : (l.take i).length ≤ 6 := by rw [List.length_take]; omega
    show ((l.take i).foldl mulE (false, [])).2.length ≤ 900
    have z3 : (l.take i).length * 140 ≤ 6 * 140 := Nat.mul_le_mul_right _ z2
    simp only [List.length_nil] at z
    omega) k
theorem prod1 (x : Bool × List Int) : prodE [x] = x := mulE_e0 x
theorem prod2 (x y : Bool × List Int) : prodE [x, y] = mulE x y := by
  show mulE (mulE (false, []) x) y = _
  rw [mulE_e0]
theorem prod3 (x y z : Bool × List Int) : prodE [x, y, z] = mulE (mulE x y) z := by
  show mulE (mulE (mulE (false, []) x) y) z = _
  rw [mulE_e0]
theorem prod6 (x y z x2 y2 z2 : Bool × List Int) : prodE [x, y, z, x2, y2, z2] = mulE (mulE (mulE (mulE (mulE x y) z) x2) y2) z2 := by
  show mulE (mulE (mulE (mulE (mulE (mulE (false, []) x) y) z) x2) y2) z2 = _
  rw [mulE_e0]
/-! ### effect_on -/
def sp_effect_on (K : PySem.W.Frag) : Sp := fun vs H Q _ => ∃ (k8 : Km.Kd8) (e s : V) (f : Bool) (ns ms : List Int), vs = [.str (nm k8), e, s] ∧ Dp K H e (eD f ns) ∧ Dp K H s (wD ms) ∧ ns.length + ms.length ≤ 900 ∧ ∀ v H', Same H H' → Dp K H' v (wD (onE k8 f ns ms)) → Q v H'
theorem ok_effect_on (T : Txt P K mg A') : FnOk P w K mg base CX0 3 A'.f_effect_on A'.fd_effect_on ["kind", "effect", "state"] (sp_effect_on K) := by
  refine Hk.okN T.F_effect_on sc_effect_on (fun vs H Q E h => ?_) (fun cdv A outer s H vs Q E hr h => ?_)
  · obtain ⟨k8, e, s, f, ns, ms, rfl, _⟩ := h
    rfl
  · obtain ⟨k8, e, s, f, ns, ms, rfl, he, hs, hz, k⟩ := h
    obtain ⟨a, t, rfl, h1, h2⟩ := e_inv he
    obtain ⟨u, rfl, h3⟩ := w_inv hs
    refine ⟨_, (pss_cons (ps_set (i := 3) sc_effect_on.nd rfl (Or.inl rfl) (pe_call (ok_kind_named T) (hr.mono (by decide)) rfl T.g_kind_named T.F_kind_named.kp T.b_kind_named .nil pass0 (pa_cons (pv 0) pa_nil)))
    (pss_cons (ps_asg (pv 1) (pg_tup (by rfl) (pgs_cons (pg_name (i := 4) sc_effect_on.nd rfl (Or.inl rfl)) (pgs_cons (pg_name (i := 5) sc_effect_on.nd rfl (Or.inl rfl)) pgs_nil))))
    (pss_cons (ps_if (pt_val (pv 4)) (pss_one (ps_ret (pv 5))) pss_nil)
    (pss_one (ps_ret (Kd.pe_any fun k8 : Km.Kd8 => pe_meth (pv 3) (cl8 T k8) (me8_plain T k8) (ok8_plain T k8) (hr.mono (by decide)) (b8_plain T k8) .nil pass0 (pa_cons (pe_op op_catA (pv 2) (pv 5)) pa_nil))))))), ?_⟩
    refine ⟨_, rfl, k8, rfl, fun x dx H1 nx s1 hx => ?_⟩
    refine ⟨_, rfl, a, _, rfl, seqT_same s1 h1, rfl, .bl f, [.ref t], rfl, .ref t, [], rfl, rfl, ?_⟩
    have g2 := seqT_same s1 h2
    have g3 := seqT_same s1 h3
    refine ⟨_, rfl, f, rfl, ?_⟩
    refine if2 (fun c => ?_) (fun c => ?_)
    · exact ⟨_, rfl, k _ _ s1 (by unfold onE; rw [if_pos c]; exact w_mk g2)⟩
    · have fin : ∀ q H2, Same H1 H2 → SqT K H2 q ((ms ++ ns).map V.int) → sp_plain K k8 [.ref x, .ref q] H2 Q E := fun q H2 s2 hq => ⟨.ref x, q, ms ++ ns, rfl, .inr hq, by rw [List.length_append]; omega, fun v H3 s3 hv => k v H3 ((s1.trans s2).trans s3) (by unfold onE; rw [if_neg (by rw [c]; exact Bool.false_ne_true)]; exact hv)⟩
      refine ⟨k8, _, rfl, x, dx, [], rfl, hx, rfl, ?_⟩
      refine ⟨_, rfl, _, rfl, u, t, _, _, rfl, rfl, g3, g2, ?_, fun e => ?_, fun n1 e => ?_, fun n1 n2 q nq => ?_⟩
      · rw [List.length_map, List.length_map]
        exact Nat.le_trans (show ms.length + ns.length ≤ 900 by omega) (by decide)
      · exact fin t _ (.refl _) (by rw [List.map_append, e]; exact g2)
      · exact fin u _ (.refl _) (by rw [List.map_append, e, List.append_nil]; exact g3)
      · exact fin q _ (same_new nq) (by rw [List.map_append]; exact .inl (.inl upd_same))
/-! ### narrowed_effect -/
def sp_narrowed_effect (K : PySem.W.Frag) : Sp := fun vs H Q _ => ∃ (k8 : Km.Kd8) (e : V) (x : Bool × List Int), vs = [.str (nm k8), e] ∧ Ef K H e x ∧ x.2.length ≤ 900 ∧ ∀ v H', Same H H' → Ef K H' v (nrm k8 x) → Q v H'
theorem ok_narrowed_effect (T : Txt P K mg A') : FnOk P w K mg base CX0 3 A'.f_narrowed_effect A'.fd_narrowed_effect ["kind", "effect"] (sp_narrowed_effect K) := by
  refine Hk.okN T.F_narrowed_effect sc_narrowed_effect (fun vs H Q E h => ?_) (fun cdv A outer s H vs Q E hr h => ?_)
  · obtain ⟨k8, e, x, rfl, _⟩ := h
    rfl
  · obtain ⟨k8, e, ⟨f, n⟩, rfl, he, hz, k⟩ := h
    obtain ⟨a, t, rfl, h1, h2⟩ := e_inv he
    refine ⟨_, (pss_cons (ps_set (i := 2) sc_narrowed_effect.nd rfl (Or.inl rfl) (pe_call (ok_kind_named T) (hr.mono (by decide)) rfl T.g_kind_named T.F_kind_named.kp T.b_kind_named .nil pass0 (pa_cons (pv 0) pa_nil)))
    (pss_cons (ps_asg (pv 1) (pg_tup (by rfl) (pgs_cons (pg_name (i := 3) sc_narrowed_effect.nd rfl (Or.inl rfl)) (pgs_cons (pg_name (i := 4) sc_narrowed_effect.nd rfl (Or.inl rfl)) pgs_nil))))
    (pss_one (ps_ret (pe_call (ok_normal T) (hr.mono (by decide)) rfl T.g_normal T.F_normal.kp T.b_normal .nil pass0 (pa_cons (pv 0) (pa_cons (pe_tup (pa_cons (pv 3) (pa_cons (Kd.pe_any fun k8 : Km.Kd8 => pe_meth (pv 2) (cl8 T k8) (me8_plain T k8) (ok8_plain T k8) (hr.mono (by decide)) (b8_plain T k8) .nil pass0 (pa_cons (pv 4) pa_nil)) pa_nil))) pa_nil))))))), ?_⟩
    have two : 2 ≤ sizeLine := by decide
    refine ⟨_, rfl, k8, rfl, fun x dx H1 nx s1 hx => ?_⟩
    refine ⟨_, rfl, a, _, rfl, seqT_same s1 h1, rfl, .bl f, [.ref t], rfl, .ref t, [], rfl, rfl, ?_⟩
    refine ⟨_, rfl, _, rfl, k8, _, rfl, x, dx, [], rfl, hx, rfl, _, rfl, .ref x, t, n, rfl, .inr (seqT_same s1 h2), by show n.length ≤ 1000; have hz : n.length ≤ 900 := hz; omega, fun u H2 s2 hu => ?_⟩
    refine ⟨two, fun q nq => ?_⟩
    have sq := same_new (o := .tup [.bl f, u]) nq
    refine ⟨k8, .ref q, f, Km.pl k8 n, rfl, e_mk (.inl (.inl upd_same)) (dp_same sq hu), fun v H3 s3 hv => k v H3 (((s1.trans s2).trans sq).trans s3) hv⟩
/-! ### _law_pick -/
def sp__law_pick (K : PySem.W.Frag) : Sp := fun vs H Q _ => ∃ (S c : Addr) (m : Int), vs = [.ref S, .int m] ∧ Stm S c H ∧ 1 ≤ m ∧ ∀ (r : Int) H', 0 ≤ r → r < m → r < 10 → Stm S c H' → Ext S H H' → Q (.int r) H'
theorem ok__law_pick (T : Txt P K mg A') : FnOk P w K mg base CX0 3 A'.f__law_pick A'.fd__law_pick ["_law_stream_here", "_law_many"] (sp__law_pick K) := by
  refine Hk.okN T.F__law_pick sc__law_pick (fun vs H Q E h => ?_) (fun cdv A outer s H vs Q E hr h => ?_)
  · obtain ⟨S, c, m, rfl, _⟩ := h
    rfl
  · obtain ⟨S, c, m, rfl, hS, hm, k⟩ := h
    refine ⟨_, (pss_one (ps_ret (pe_op op_mod (pe_callTy call_int1 (by rfl) T.z_int (by decide +kernel) (pa_cons (pe_call (ok__law_draw T) (hr.mono (by decide)) rfl T.g__law_draw T.F__law_draw.kp T.b__law_draw .nil pass0 (pa_cons (pv 0) (pa_cons pe_int pa_nil))) pa_nil)) (pv 1)))), ?_⟩
    refine ⟨_, rfl, S, c, 10, rfl, hS, by decide, by decide, fun r H' h0 h1 hs e => .inl ⟨_, rfl, _, rfl, _, _, rfl, rfl, (show (0 : Int) < m by omega), ?_⟩⟩
    have h2 : r % m ≤ r := by
      by_cases c : r < m
      · rw [Int.emod_eq_of_lt h0 c]; exact Int.le_refl _
      · have := Int.emod_lt_of_pos r (show 0 < m by omega); omega
    exact k _ _ (Int.emod_nonneg _ (by omega)) (Int.emod_lt_of_pos _ (by omega)) (by omega) hs e
/-! ### _law_then -/
def sp__law_then (K : PySem.W.Frag) : Sp := fun vs H Q _ => ∃ (k8 : Km.Kd8) (e1 e2 : V) (x y : Bool × List Int), vs = [.str (nm k8), e1, e2] ∧ Dp K H e1 (eD x.1 x.2) ∧ Dp K H e2 (eD y.1 y.2) ∧ x.2.length + y.2.length ≤ 900 ∧ ∀ v H', Same H H' → Dp K H' v (eD (thE k8 x y).1 (thE k8 x y).2) → Q v H'
theorem ok__law_then (T : Txt P K mg A') : FnOk P w K mg base CX0 3 A'.f__law_then A'.fd__law_then ["_law_kind_here", "_law_first", "_law_second"] (sp__law_then K) := by
  refine Hk.okN T.F__law_then sc__law_then (fun vs H Q E h => ?_) (fun cdv A outer s H vs Q E hr h => ?_)
  · obtain ⟨k8, e1, e2, x, y, rfl, _⟩ := h
    rfl
  · obtain ⟨k8, e1, e2, ⟨f, m⟩, ⟨g, n⟩, rfl, h1, h2, hz, k⟩ := h
    obtain ⟨a, t, rfl, a1, a2⟩ := e_inv h1
    obtain ⟨b, u, rfl, b1, b2⟩ := e_inv h2
    refine ⟨_, (pss_cons (ps_if (pt_val (pe_ix ix_tup (pv 2) pe_int (fun _ _ => rfl))) (pss_one (ps_ret (pe_tup (pa_cons pe_bl (pa_cons (pe_ix ix_tup (pv 2) pe_int (fun _ _ => rfl)) pa_nil))))) pss_nil)
    (pss_one (ps_ret (pe_call (ok__law_normal T) (hr.mono (by decide)) rfl T.g__law_normal T.F__law_normal.kp T.b__law_normal .nil pass0 (pa_cons (pv 0) (pa_cons (pe_tup (pa_cons (pe_ix ix_tup (pv 1) pe_int (fun _ _ => rfl)) (pa_cons (pe_call (ok__law_joined T) (hr.mono (by decide)) rfl T.g__law_joined T.F__law_joined.kp T.b__law_joined .nil pass0 (pa_cons (pv 0) (pa_cons (pe_ix ix_tup (pv 1) pe_int (fun _ _ => rfl)) (pa_cons (pe_ix ix_tup (pv 2) pe_int (fun _ _ => rfl)) pa_nil)))) pa_nil))) pa_nil)))))), ?_⟩
    refine ⟨_, rfl, b, _, _, _, rfl, rfl, b1, rfl, g, rfl, ?_⟩
    cases g with
    | true =>
      refine iteT ?_
      exact ⟨_, rfl, b, _, _, _, rfl, rfl, b1, rfl, (by show 2 ≤ sizeLine; decide), fun r nr => k _ _ (same_new nr) (e_mk (.inl (.inl upd_same)) (dp_same (same_new nr) (w_mk b2)))⟩
    | false =>
      refine iteF ?_
      refine ⟨_, rfl, _, rfl, a, _, _, _, rfl, rfl, a1, rfl, _, rfl, _, rfl, a, _, _, _, rfl, rfl, a1, rfl, _, rfl, b, _, _, _, rfl, rfl, b1, rfl, k8, t, u, m, n, rfl, a2, b2, hz, fun v H1 s1 hv => ⟨(by show 2 ≤ sizeLine; decide), fun r nr => ?_⟩⟩
      exact ⟨k8, .ref r, f, _, rfl, e_mk (.inl (.inl upd_same)) (dp_same (same_new nr) hv), fun v2 H2 s2 hv2 => k v2 H2 ((s1.trans (same_new nr)).trans s2) hv2⟩
/-! ### _law_on -/
def sp__law_on (K : PySem.W.Frag) : Sp := fun vs H Q _ => ∃ (k8 : Km.Kd8) (e s : V) (f : Bool) (ns ms : List Int), vs = [.str (nm k8), e, s] ∧ Dp K H e (eD f ns) ∧ Dp K H s (wD ms) ∧ ns.length + ms.length ≤ 900 ∧ ∀ v H', Same H H' → Dp K H' v (wD (onE k8 f ns ms)) → Q v H'
theorem ok__law_on (T : Txt P K mg A') : FnOk P w K mg base CX0 3 A'.f__law_on A'.fd__law_on ["_law_kind_here", "_law_effect", "_law_state"] (sp__law_on K) := by
  refine Hk.okN T.F__law_on sc__law_on (fun vs H Q E h => ?_) (fun cdv A outer s H vs Q E hr h => ?_)
  · obtain ⟨k8, e, s, f, ns, ms, rfl, _⟩ := h
    rfl
  · obtain ⟨k8, e, s, f, ns, ms, rfl, he, hs, hz, k⟩ := h
    obtain ⟨a, t, rfl, h1, h2⟩ := e_inv he
    obtain ⟨u, rfl, h3⟩ := w_inv hs
    refine ⟨_, (pss_cons (ps_if (pt_val (pe_ix ix_tup (pv 1) pe_int (fun _ _ => rfl))) (pss_one (ps_ret (pe_ix ix_tup (pv 1) pe_int (fun _ _ => rfl)))) pss_nil)
    (pss_one (ps_ret (pe_call (ok__law_joined T) (hr.mono (by decide)) rfl T.g__law_joined T.F__law_joined.kp T.b__law_joined .nil pass0 (pa_cons (pv 0) (pa_cons (pv 2) (pa_cons (pe_ix ix_tup (pv 1) pe_int (fun _ _ => rfl)) pa_nil))))))), ?_⟩
    refine ⟨_, rfl, a, _, _, _, rfl, rfl, h1, rfl, f, rfl, ?_⟩
    cases f with
    | true =>
      refine iteT ?_
      exact ⟨_, rfl, a, _, _, _, rfl, rfl, h1, rfl, k _ _ (.refl _) (w_mk h2)⟩
    | false =>
      refine iteF ?_
      exact ⟨_, rfl, _, rfl, _, rfl, a, _, _, _, rfl, rfl, h1, rfl, k8, u, t, ms, ns, rfl, h3, h2, by omega, fun v H1 s1 hv => k v H1 s1 hv⟩
/-! ### _law_is_effect -/
def sp__law_is_effect (K : PySem.W.Frag) : Sp := fun vs H Q _ => ∃ (v : V) (f : Bool) (ns : List Int), vs = [v] ∧ Dp K H v (eD f ns) ∧ ns.length ≤ 900 ∧ ∀ H', Same H H' → Q (.bl true) H'
theorem ok__law_is_effect (T : Txt P K mg A') : FnOk P w K mg base CX0 3 A'.f__law_is_effect A'.fd__law_is_effect ["_law_thing"] (sp__law_is_effect K) := by
  refine Hk.okN T.F__law_is_effect sc__law_is_effect (fun vs H Q E h => ?_) (fun cdv A outer s H vs Q E hr h => ?_)
  · obtain ⟨v, f, ns, rfl, _⟩ := h
    rfl
  · obtain ⟨v, f, ns, rfl, he, hz, k⟩ := h
    obtain ⟨a, t, rfl, h1, h2⟩ := e_inv he
    refine ⟨_, (pss_cons (ps_if (PW.pt (pw_or (pt_not (pt_val (pe_callB call_isD (by rfl) T.z_isinstance (by decide +kernel) (pa_cons (pv 0) (pa_cons (pe_bltn (v := .ty "tuple") (by rfl) T.z_tuple (by decide +kernel) rfl) pa_nil))))) (pw_or1 (pt_cmpR op_ne (pe_callB call_len_seq (by rfl) T.z_len (by decide +kernel) (pa_cons (pv 0) pa_nil)) pe_int (nomark _))))) (pss_one (ps_ret pe_bl)) pss_nil)
    (pss_one (ps_ret (pe_and (pe_callB call_isD (by rfl) T.z_isinstance (by decide +kernel) (pa_cons (pe_ix ix_tup (pv 0) pe_int (fun _ _ => rfl)) (pa_cons (pe_bltn (v := .ty "bool") (by rfl) T.z_bool (by decide +kernel) rfl) pa_nil))) (pe_one (pe_call (ok__law_is_word T) (hr.mono (by decide)) rfl T.g__law_is_word T.F__law_is_word.kp T.b__law_is_word .nil pass0 (pa_cons (pe_ix ix_tup (pv 0) pe_int (fun _ _ => rfl)) pa_nil))))))), ?_⟩
    refine ⟨_, rfl, _, _, _, rfl, okT_tuple, he, _, rfl, ?_⟩
    refine ifF (by unfold eD; rw [isI_tuple_tuple] <;> rfl) ?_
    refine ⟨_, rfl, a, _, rfl, .inr h1, rfl, _, rfl, ?_⟩
    refine ifF rfl ?_
    refine ⟨_, rfl, a, _, _, _, rfl, rfl, h1, rfl, _, _, .bool f, rfl, okT_bool, .bl f, _, rfl, ?_⟩
    refine ifT (isI_bool_bool f) ?_
    refine ⟨_, rfl, a, _, _, _, rfl, rfl, h1, rfl, .ref t, wD ns, rfl, w_mk h2, fun ds e => ?_, fun H' s1 => ?_⟩
    · cases e
      rw [List.length_map]
      exact hz
    · rw [isWd_ints]
      exact k H' s1
/-! ### _law_rest -/
theorem nm_of {k k' : Km.Kd8} (h : decide (V.str (nm k) = V.str (nm k')) = true) : k = k' := by
  rw [eq_nm] at h
  cases k <;> cases k' <;> first | rfl | cases h
theorem nm_no {k k' : Km.Kd8} (h : decide (V.str (nm k) = V.str (nm k')) = false) : k ≠ k' := by
  rw [eq_nm] at h
  rintro rfl
  cases k <;> cases h
def sp__law_rest (K : PySem.W.Frag) : Sp := fun vs H Q _ => ∃ (k8 : Km.Kd8) (p q : Addr) (a b : List Int), vs = [.str (nm k8), .ref p, .ref q] ∧ SqT K H p (a.map V.int) ∧ SqT K H q (b.map V.int) ∧ a.length ≤ 120 ∧ b.length ≤ 120 ∧ Km.pl k8 a = a ∧ Km.pl k8 b = b ∧
  ∀ v H', Same H H' → Kz.FoundD K H' v (Km.rst8 k8 a b) → Q v H'
theorem ok__law_rest (T : Txt P K mg A') : FnOk P w K mg base CX0 3 A'.f__law_rest A'.fd__law_rest ["_law_kind_here", "_law_one", "_law_other"] (sp__law_rest K) := by
  refine Hk.okN T.F__law_rest sc__law_rest (fun vs H Q E h => ?_) (fun cdv A outer s H vs Q E hr h => ?_)
  · obtain ⟨k8, p, q, a, b, rfl, _⟩ := h
    rfl
  · obtain ⟨k8, p, q, a, b, rfl, hp, hq, la, lb, pa, pb, k⟩ := h
    have k1 : Km.rst8 k8 a b = none → ∀ H', Same H H' → Q .non H' := fun e H' s => k .non H' s (by rw [e] <;> rfl)
    have k2 : ∀ w, Km.rst8 k8 a b = some w → ∀ v H', Same H H' → Dp K H' v (wD w) → Q v H' := fun w e v H' s hv => k v H' s (by rw [e]; exact hv)
    refine ⟨_, (pss_cons (ps_if (PW.pt (pw_or (pt_cmpR op_eq (pv 0) pe_str (nomark _)) (pw_or1 (pt_cmpR op_eq (pv 0) pe_str (nomark _))))) (pss_cons (ps_set (i := 3) sc__law_rest.nd rfl (Or.inl rfl) (pe_callTy call_list_of (by rfl) T.z_list (by decide +kernel) (pa_cons (pv 2) pa_nil)))
    (pss_cons (ps_for PassesOwn.never rfl (pi_tup (pv 1)) (pg_name (i := 4) sc__law_rest.nd rfl (Or.inl rfl)) (pss_one (ps_if (pt_cmpR op_in_seq (pv 4) (pv 3) (by rfl)) (pss_one (ps_expr (pe_bm PySem.F.plainAttrs_list PySem.F.slot_list_remove PySem.F.type_list_remove mt_remove (pv 3) (pa_cons (pv 4) pa_nil)))) pss_nil)))
    (pss_cons (ps_if (pt_cmpR (op_eqD hr.units) (pe_call (ok__law_joined T) (hr.mono (by decide)) rfl T.g__law_joined T.F__law_joined.kp T.b__law_joined .nil pass0 (pa_cons (pv 0) (pa_cons (pv 1) (pa_cons (pe_callTy call_tuple_of (by rfl) T.z_tuple (by decide +kernel) (pa_cons (pv 3) pa_nil)) pa_nil)))) (pv 2) (nomark _)) (pss_one (ps_ret (pe_callTy call_tuple_of (by rfl) T.z_tuple (by decide +kernel) (pa_cons (pv 3) pa_nil)))) pss_nil)
    (pss_one (ps_ret pe_non))))) pss_nil)
    (pss_cons (ps_for PassesOwn.never rfl (pi_range1 (by rfl) T.z_range (pa_cons (pe_op op_add (pe_callB call_len_seq (by rfl) T.z_len (by decide +kernel) (pa_cons (pv 2) pa_nil)) pe_int) pa_nil)) (pg_name (i := 5) sc__law_rest.nd rfl (Or.inl rfl)) (pss_cons (ps_set (i := 6) sc__law_rest.nd rfl (Or.inl rfl) (pe_slice sl_tupA (pv 2) (po_some (pe_op op_sub (pe_callB call_len_seq (by rfl) T.z_len (by decide +kernel) (pa_cons (pv 2) pa_nil)) (pv 5))) po_none))
    (pss_one (ps_if (PW.pt (pw_and (pt_cmpR (op_eqD hr.units) (pe_call (ok__law_plain T) (hr.mono (by decide)) rfl T.g__law_plain T.F__law_plain.kp T.b__law_plain .nil pass0 (pa_cons (pv 0) (pa_cons (pv 6) pa_nil))) (pv 6) (nomark _)) (pw_and1 (pt_cmpR (op_eqD hr.units) (pe_call (ok__law_joined T) (hr.mono (by decide)) rfl T.g__law_joined T.F__law_joined.kp T.b__law_joined .nil pass0 (pa_cons (pv 0) (pa_cons (pv 1) (pa_cons (pv 6) pa_nil)))) (pv 2) (nomark _))))) (pss_one (ps_ret (pv 6))) pss_nil))))
    (pss_one (ps_ret pe_non)))), ?_⟩
    refine ⟨_, rfl, rfl, _, rfl, ?_⟩
    refine if2 (fun c => ?_) (fun c => ⟨_, rfl, rfl, _, rfl, if2 (fun c2 => ?_) (fun c2 => ?B)⟩)
    case B =>
      have n1 : k8 ≠ .bag := nm_no (k' := .bag) c
      have n2 : k8 ≠ .set := nm_no (k' := .set) c2
      refine ⟨_, rfl, q, _, rfl, .inr hq, _, _, rfl, rfl, _, rfl, ?_⟩
      rw [List.length_map]
      refine ⟨by omega, by omega, ?_⟩
      refine for_range (lo := 0) (n := b.length + 1) (fun i σ' H' => ∃ s w, σ' = [some (.str (nm k8)), some (.ref p), some (.ref q), none, none, s, w] ∧ Same H H' ∧ ∀ m, m < i → Km.okR k8 a b (Km.sufN b m) = false) ⟨none, none, rfl, .refl _, fun m hm => by omega⟩ ?_ ?_
      · rintro i σ' H' hi ⟨s, w, rfl, sm, no⟩
        have hq1 := seqT_same sm hq
        refine ⟨_, rfl, _, rfl, q, _, rfl, .inr hq1, _, rfl, _, _, rfl, rfl, _, rfl, ?_⟩
        dsimp only [tNoPart]
        refine slA_fin hq1 fun r H1 s1 h1 => ?_
        rw [List.length_map, cut_drop (i := b.length - i) (by omega) (by omega)] at h1
        have s01 := sm.trans s1
        have lr : (b.drop (b.length - i)).length ≤ 120 := by rw [List.length_drop]; omega
        refine ⟨_, rfl, _, rfl, k8, r, _, rfl, h1, by omega, fun v H2 s2 hv => ?_⟩
        have s02 := s01.trans s2
        have h2 := seqT_same s2 h1
        refine ⟨_, rfl, _, _, hv, w_mk h2, shaped_w _, shaped_w _, _, rfl, ?_⟩
        rw [eqv_w]
        have nextT : Km.okR k8 a b (Km.sufN b i) = false → ∀ H3, Same H H3 → ∀ w', ∃ s w, [some (V.str (nm k8)), some (V.ref p), some (V.ref q), none, none, some (V.int (0 + (i : Int))), w'] = [some (V.str (nm k8)), some (.ref p), some (.ref q), none, none, s, w] ∧ Same H H3 ∧ ∀ m, m < i + 1 → Km.okR k8 a b (Km.sufN b m) = false := fun no2 H3 s3 w' => ⟨_, _, rfl, s3, fun m hm => by
          rcases Nat.lt_or_ge m i with lt | ge
          · exact no m lt
          · rw [show m = i by omega]; exact no2⟩
        refine if2 (fun g => ?_) (fun g => ?_)
        · refine ⟨_, rfl, _, rfl, _, rfl, k8, p, r, a, _, rfl, seqT_same s02 hp, h2, by omega, fun v2 H3 s3 hv2 => ?_⟩
          have s03 := s02.trans s3
          refine ⟨_, rfl, _, _, hv2, w_mk (seqT_same s03 hq), shaped_w _, shaped_w _, _, rfl, ?_⟩
          rw [eqv_w]
          refine if2 (fun g2 => ?_) (fun g2 => ?_)
          · exact ⟨_, rfl, k2 (Km.sufN b i) (Km.suf_first n1 n2 pa pb (by omega) (Km.okR_iff.mpr ⟨of_decide_eq_true g, of_decide_eq_true g2⟩) no) _ _ s03 (w_mk (seqT_same s3 h2))⟩
          · refine nextT ?_ _ s03 _
            show (decide (Km.pl k8 (b.drop (b.length - i)) = _) && decide (Km.pl k8 (a ++ b.drop (b.length - i)) = b)) = false
            rw [g2, Bool.and_false]
        · refine nextT ?_ _ s02 _
          show (decide (Km.pl k8 (b.drop (b.length - i)) = b.drop (b.length - i)) && _) = false
          rw [g, Bool.false_and]
      · rintro σ' H' ⟨s, w, rfl, sm, no⟩
        exact k1 (Km.suf_none n1 n2 pa pb no) _ sm
    all_goals
      have hk : k8 = .bag ∨ k8 = .set := by
        first
          | exact .inl (nm_of (k' := .bag) c)
          | exact .inr (nm_of (k' := .set) c2)
      refine ⟨_, rfl, q, _, rfl, .inr hq, fun L nL => ?_⟩
      refine ⟨_, rfl, p, rfl, ⟨_, seqT_same (same_new nL) hp⟩, for_tup (K := K) (a := p) (xs := a.map V.int) (fun i σ' H' => ∃ l, σ' = [some (.str (nm k8)), some (.ref p), some (.ref q), some (.ref L), l, none, none] ∧ Same H H' ∧ H' L = some (.lst ((Km.cutAll b (a.take i)).map V.int))) ⟨none, rfl, same_new nL, upd_same⟩ (fun i σ' H' _ ⟨_, _, s, _⟩ => seqT_same s hp) ?_ ?_⟩
      · rintro i y σ' H' hi ⟨l, rfl, s, hL⟩
        obtain ⟨z, hz, rfl⟩ := map_some hi
        have ec : Km.cutAll b (a.take (i + 1)) = (Km.cutAll b (a.take i)).erase z := by
          rw [List.take_succ, hz]
          exact Km.cutAll_snoc _ _ _
        refine ⟨_, rfl, _, rfl, L, _, rfl, .inl (SqL.of hL), rfl, flat_ints _, _, rfl, ?_⟩
        refine if2 (fun g => ?_) (fun g => ?_)
        · have m : z ∈ Km.cutAll b (a.take i) := by simpa [inV_int] using g
          obtain ⟨j, hj⟩ := Option.isSome_iff_exists.mp (List.isSome_idxOf?.mpr m)
          have e1 := List.erase_eq_eraseIdx (Km.cutAll b (a.take i)) z
          rw [hj] at e1
          obtain ⟨j1, j2, j3⟩ := List.findIdx?_eq_some_iff_getElem.mp (show (Km.cutAll b (a.take i)).findIdx? (· == z) = some j from hj)
          refine ⟨_, rfl, .inl ⟨rfl, _, SqL.of hL⟩, _, rfl, L, _, z, j, rfl, rfl, hL, ?_, ?_, ?_⟩
          · rw [List.getElem?_eq_getElem j1, eq_of_beq j2]
          · intro m' hm' e
            have := j3 m' hm'
            rw [List.getElem?_eq_getElem (by omega)] at e
            rw [Option.some.inj e] at this
            exact this (beq_self_eq_true z)
          · refine ⟨_, rfl, same_mut s nL, ?_⟩
            rw [upd_same, ec, e1]
        · have m : ¬ z ∈ Km.cutAll b (a.take i) := by simpa [inV_int] using g
          exact ⟨_, rfl, s, by rw [ec, List.erase_of_not_mem m]; exact hL⟩
      · rintro σ' H' ⟨l, rfl, s, hL⟩
        rw [List.length_map, List.take_length] at hL
        have lc : (Km.cutAll b a).length ≤ 120 := Nat.le_trans (Km.cutAll_sub a b).length_le lb
        refine ⟨_, rfl, _, rfl, _, rfl, L, _, rfl, .inl ⟨SqL.of hL, fun t nt => ?_⟩⟩
        have st := s.trans (same_new (o := .tup ((Km.cutAll b a).map V.int)) nt)
        refine ⟨k8, p, t, a, Km.cutAll b a, rfl, seqT_same st hp, .inl (.inl upd_same), by omega, fun v H2 s2 hv => ?_⟩
        have s02 := st.trans s2
        refine ⟨_, rfl, _, _, hv, w_mk (seqT_same s02 hq), shaped_w _, shaped_w _, _, rfl, ?_⟩
        rw [eqv_w]
        have hL2 : H2 L = some (.lst ((Km.cutAll b a).map V.int)) := s2 _ _ (by rw [upd_ne (ne_of_none hL nt)]; exact hL)
        refine if2 (fun g => ?_) (fun g => ?_)
        · refine ⟨_, rfl, L, _, rfl, .inl ⟨SqL.of hL2, fun t2 n2 => ?_⟩⟩
          refine k2 (Km.cutAll b a) ?_ _ _ (s02.trans (same_new n2)) (w_new n2)
          rw [Km.cut_due hk pa pb, if_pos (of_decide_eq_true g)]
        · refine k1 ?_ _ s02
          rw [Km.cut_due hk pa pb, if_neg (of_decide_eq_false g)]
/-! ### check_kind__bad -/
/-- a kind that is none, then n things of any sort: BadKind is let out, with the kind as its name -/
def spBad (K : PySem.W.Frag) (C : Addr) (n : Nat) : Sp := fun vs H Q E => ∃ (v : V) (d : PyData) (rest : List V), vs = v :: rest ∧ rest.length = n ∧ Dp K H v d ∧ shOk d ∧ Ms.badK d = true ∧ ∀ dx H', Same H H' → H' dx = some (.xd [("name", v)]) → E (.ref C) (some dx) H'
def spBad2 (K : PySem.W.Frag) (C : Addr) : Sp := fun vs H Q E => ∃ (k8 : Km.Kd8) (v : V) (d : PyData), vs = [.str (nm k8), v] ∧ Dp K H v d ∧ shOk d ∧ Ms.badK d = true ∧ ∀ dx H', Same H H' → H' dx = some (.xd [("name", v)]) → E (.ref C) (some dx) H'
theorem ok_check_kind__bad (T : Txt P K mg A') : FnOk P w K mg base (L2.CX P w) 4 A'.f_check_kind A'.fd_check_kind ["name"] (spBad K A'.c_BadKind 0) := by
  refine Hk.okX T.F_check_kind sc_check_kind (fun vs H Q E h => ?_) (fun cdv A outer s H vs Q E hr h => ?_)
  · obtain ⟨v, d, rest, rfl, e, _⟩ := h
    exact congrArg Nat.succ e
  · obtain ⟨v, d, rest, rfl, e, hd, hs, hb, k⟩ := h
    cases List.length_eq_zero_iff.mp e
    refine ⟨_, (pss_cons (ps_if (PW.pt (pw_or (pt_not (pt_val (pe_callB call_isD (by rfl) T.z_isinstance (by decide +kernel) (pa_cons (pv 0) (pa_cons (pe_bltn (v := .ty "str") (by rfl) T.z_str (by decide +kernel) rfl) pa_nil))))) (pw_or1 (pt_cmpR op_notIn_seq (pv 0) (pe_glob (v := .ref A'.k_KIND_NAMES) rfl T.mk_KIND_NAMES rfl) (by rfl))))) (pss_one (ps_raise rfl (takes_of rfl rfl rfl rfl) (pmk_oex T.s_BadKind.ox T.i_BadKind T.S_NameFault.fn (ok_init_NameFault T) (hr.mono (by decide)) T.bi_NameFault .nil pass0 rfl T.m_BadKind (pa_cons (pv 0) pa_nil)))) pss_nil)
    (pss_one Kd.ps_dead)), ?_⟩
    refine ⟨_, rfl, _, _, d, rfl, okT_str, hd, _, rfl, ?_⟩
    have c2 : isI "str" d = false ∨ ∃ x, v = .str x ∧ d = .str x ∧ inV (.str x) kNames = false := by
      cases hd with
      | str x =>
        refine .inr ⟨x, rfl, rfl, ?_⟩
        have hb : (!([("list" : Str), "bag", "set", "first", "last", "ends", "heads", "tails"].contains x)) = true := hb
        exact Ms.notin8 hb
      | non => exact .inl (by show (kitB "NoneType" "str").getD false = false; decide +kernel)
      | bl b => exact .inl (by show (kitB "bool" "str").getD false = false; decide +kernel)
      | int i => exact .inl (isI_str_int i)
      | lst h1 h2 => exact .inl (isI_str_list _)
      | tup h1 h2 => exact .inl (isI_str_tuple _)
    refine if2 (fun c => ?_) (fun c => ?_)
    case' refine_2 =>
      obtain ⟨x, ev, ed, hx⟩ : ∃ x, v = .str x ∧ d = .str x ∧ inV (.str x) kNames = false := c2.resolve_left fun e => by rw [e] at c; simp at c
      refine ⟨_, rfl, A'.k_KIND_NAMES, _, rfl, .inr (T.kt_KIND_NAMES H), (by rw [ev] <;> rfl), rfl, _, rfl, ?_⟩
      refine ifT (by show (!inV v kNames) = true; rw [ev, hx] <;> rfl) ?_
    all_goals
      refine ⟨_, rfl, (show 1 ≤ 1000 by decide), fun a na => ?_⟩
      refine ⟨a, A'.c_BadKind, v, rfl, upd_same, T.s_BadKind, ⟨d, dp_same (same_new na) hd, hs⟩, fun dx nd ne => ?_⟩
      refine ⟨rfl, dx, [("name", v)], upd_same, ?_, ?_, ?_⟩
      · rw [upd_ne ne]
        exact upd_same
      · have := nd
        rw [upd_ne ne] at this
        exact this
      · exact k dx _ (same_exc na nd ne) upd_same
/-! ### is_effect -/
def isEf (k : Km.Kd8) (d : PyData) : Bool := match d with
  | .tuple [a, b] => isI "bool" a && isPl k b
  | _ => false
def sp_is_effect (K : PySem.W.Frag) : Sp := fun vs H Q _ => ∃ (k8 : Km.Kd8) (v : V) (d : PyData), vs = [.str (nm k8), v] ∧ Dp K H v d ∧ (∀ a b, d = .tuple [a, b] → few b) ∧ ∀ H', Same H H' → Q (.bl (isEf k8 d)) H'
theorem ok_is_effect (T : Txt P K mg A') : FnOk P w K mg base CX0 4 A'.f_is_effect A'.fd_is_effect ["kind", "thing"] (sp_is_effect K) := by
  refine Hk.okN T.F_is_effect sc_is_effect (fun vs H Q E h => ?_) (fun cdv A outer s H vs Q E hr h => ?_)
  · obtain ⟨k8, v, d, rfl, _⟩ := h
    rfl
  · obtain ⟨k8, v, d, rfl, hd, hz, k⟩ := h
    refine ⟨_, (pss_cons (ps_expr (pe_call (ok_check_kind T) (hr.mono (by decide)) rfl T.g_check_kind T.F_check_kind.kp T.b_check_kind .nil pass0 (pa_cons (pv 0) pa_nil)))
    (pss_cons (ps_if (PW.pt (pw_or (pt_not (pt_val (pe_callB call_isD (by rfl) T.z_isinstance (by decide +kernel) (pa_cons (pv 1) (pa_cons (pe_bltn (v := .ty "tuple") (by rfl) T.z_tuple (by decide +kernel) rfl) pa_nil))))) (pw_or1 (pt_cmpR op_ne (pe_callB call_len_seq (by rfl) T.z_len (by decide +kernel) (pa_cons (pv 1) pa_nil)) pe_int (nomark _))))) (pss_one (ps_ret pe_bl)) pss_nil)
    (pss_one (ps_ret (pe_and (pe_callB call_isD (by rfl) T.z_isinstance (by decide +kernel) (pa_cons (pe_ix ix_tup (pv 1) pe_int (fun _ _ => rfl)) (pa_cons (pe_bltn (v := .ty "bool") (by rfl) T.z_bool (by decide +kernel) rfl) pa_nil))) (pe_one (pe_call (ok_is_plain T) (hr.mono (by decide)) rfl T.g_is_plain T.F_is_plain.kp T.b_is_plain .nil pass0 (pa_cons (pv 0) (pa_cons (pe_ix ix_tup (pv 1) pe_int (fun _ _ => rfl)) pa_nil))))))))), ?_⟩
    refine ⟨_, rfl, k8, rfl, ?_⟩
    refine ⟨_, rfl, _, _, _, rfl, okT_tuple, hd, _, rfl, ?_⟩
    have no : isEf k8 d = false → Q (.bl false) H := fun e => by have z := k H (.refl _); rw [e] at z; exact z
    refine if2 (fun c => ?_) (fun c => ?_)
    · refine no ?_
      have c' : isI "tuple" d = false := by simpa using c
      cases d with
      | tuple ds => rw [isI_tuple_tuple] at c'; cases c'
      | _ => rfl
    · have c' : isI "tuple" d = true := by simpa using c
      obtain ⟨ds, rfl⟩ := tup_of c'
      cases hd with
      | @tup a xs ds h1 h2 =>
        have hl := dpa_len h2
        refine ⟨_, rfl, a, xs, rfl, .inr h1, rfl, _, rfl, ?_⟩
        refine if2 (fun cl => ?_) (fun cl => ?_)
        · refine no ?_
          have cl' : ds.length ≠ 2 := fun e => by rw [← hl] at e; rw [e] at cl; exact absurd cl (by decide)
          unfold isEf
          split
          · rename_i x y e
            cases e
            exact absurd rfl cl'
          · rfl
        · have cl' : ds.length = 2 := by
            have z : decide (V.int ((xs.length : Nat) : Int) = V.int 2) = true := by
              cases e : decide (V.int ((xs.length : Nat) : Int) = V.int 2) <;> simp_all
            have z2 := V.int.inj (of_decide_eq_true z)
            omega
          obtain ⟨d1, d2, rfl⟩ : ∃ x y, ds = [x, y] := by
            match ds, cl' with
            | [x, y], _ => exact ⟨x, y, rfl⟩
          obtain ⟨x, y, rfl, hx, hy⟩ : ∃ x y, xs = [x, y] ∧ Dp K H x d1 ∧ Dp K H y d2 := by
            cases h2 with
            | cons p q =>
              cases q with
              | cons p' q' =>
                cases q'
                exact ⟨_, _, rfl, p, p'⟩
          refine ⟨_, rfl, a, _, _, _, rfl, rfl, h1, rfl, _, _, _, rfl, okT_bool, hx, _, rfl, ?_⟩
          refine if2 (fun cb => ?_) (fun cb => ?_)
          · refine ⟨_, rfl, _, rfl, a, _, _, _, rfl, rfl, h1, rfl, k8, y, d2, rfl, hy, hz _ _ rfl, fun H' s1 => ?_⟩
            have z : Q (.bl (isI "bool" d1 && isPl k8 d2)) H' := k H' s1
            rw [cb, Bool.true_and] at z
            exact z
          · have z : Q (.bl (isI "bool" d1 && isPl k8 d2)) H := k H (.refl _)
            rw [cb, Bool.false_and] at z
            exact z
/-! ### step -/
theorem rstC_ok {k8 : Km.Kd8} {a : List Int} (h : Km.pl k8 a = a) (l : k8 = .tails → a.length ≤ 31) : rstC k8 a := by
  cases k8 with
  | tails => exact ⟨Km.tails_nodup h, l rfl⟩
  | _ => trivial
def sp_step (K : PySem.W.Frag) : Sp := fun vs H Q _ => ∃ (k8 : Km.Kd8) (e1 e2 : V) (x y : Bool × List Int), vs = [.str (nm k8), e1, e2] ∧ Ef K H e1 x ∧ Ef K H e2 y ∧ Km.pl k8 x.2 = x.2 ∧ Km.pl k8 y.2 = y.2 ∧ x.2.length ≤ 120 ∧ y.2.length ≤ 120 ∧ (k8 = .tails → x.2.length ≤ 31 ∧ y.2.length ≤ 31) ∧ ∀ v H', Same H H' → FoundE K H' v (stp k8 (nrm k8 x) (nrm k8 y)) → Q v H'
theorem ok_step (T : Txt P K mg A') : FnOk P w K mg base CX0 4 A'.f_step A'.fd_step ["kind", "one", "other"] (sp_step K) := by
  refine Hk.okN T.F_step sc_step (fun vs H Q E h => ?_) (fun cdv A outer s H vs Q E hr h => ?_)
  · obtain ⟨k8, e1, e2, x, y, rfl, _⟩ := h
    rfl
  · obtain ⟨k8, e1, e2, x, y, rfl, h1, h2, px, py, lx, ly, lt, k⟩ := h
    refine ⟨_, (pss_cons (ps_set (i := 3) sc_step.nd rfl (Or.inl rfl) (pe_call (ok_normal T) (hr.mono (by decide)) rfl T.g_normal T.F_normal.kp T.b_normal .nil pass0 (pa_cons (pv 0) (pa_cons (pv 1) pa_nil))))
    (pss_cons (ps_set (i := 4) sc_step.nd rfl (Or.inl rfl) (pe_call (ok_normal T) (hr.mono (by decide)) rfl T.g_normal T.F_normal.kp T.b_normal .nil pass0 (pa_cons (pv 0) (pa_cons (pv 2) pa_nil))))
    (pss_cons (ps_if (pt_cmpR (op_eqD hr.units) (pv 3) (pv 4) (nomark _)) (pss_one (ps_ret (pe_glob (v := .ref A'.k_IDLE) rfl T.mk_IDLE rfl))) pss_nil)
    (pss_cons (ps_set (i := 5) sc_step.nd rfl (Or.inl rfl) (pe_call (ok_rest T) (hr.mono (by decide)) rfl T.g_rest T.F_rest.kp T.b_rest .nil pass0 (pa_cons (pv 0) (pa_cons (pe_ix ix_tup (pv 3) pe_int (fun _ _ => rfl)) (pa_cons (pe_ix ix_tup (pv 4) pe_int (fun _ _ => rfl)) pa_nil)))))
    (pss_cons (ps_if (PW.pt (pw_and (pt_cmpR op_notN (pv 5) pe_non (nomark _)) (pw_and1 (pt_cmpR op_eq (pe_ix ix_tup (pv 3) pe_int (fun _ _ => rfl)) (pe_ix ix_tup (pv 4) pe_int (fun _ _ => rfl)) (nomark _))))) (pss_one (ps_if (PW.pt (pw_or (pt_not (pt_val (pe_ix ix_tup (pv 4) pe_int (fun _ _ => rfl)))) (pw_or1 (pt_cmpR op_lt (pe_callB call_len_seq (by rfl) T.z_len (by decide +kernel) (pa_cons (pv 5) pa_nil)) (pe_callB call_len_seq (by rfl) T.z_len (by decide +kernel) (pa_cons (pe_ix ix_tup (pv 4) pe_int (fun _ _ => rfl)) pa_nil)) (nomark _))))) (pss_one (ps_ret (pe_call (ok_normal T) (hr.mono (by decide)) rfl T.g_normal T.F_normal.kp T.b_normal .nil pass0 (pa_cons (pv 0) (pa_cons (pe_tup (pa_cons pe_bl (pa_cons (pv 5) pa_nil))) pa_nil))))) pss_nil)) pss_nil)
    (pss_cons (ps_if (pt_val (pe_ix ix_tup (pv 4) pe_int (fun _ _ => rfl))) (pss_one (ps_ret (pv 4))) pss_nil)
    (pss_one (ps_ret pe_non)))))))), ?_⟩
    have two : 2 ≤ sizeLine := by decide
    refine ⟨_, rfl, _, rfl, k8, e1, x.1, x.2, rfl, h1, fun v1 H1 s1 hv1 => ?_⟩
    refine ⟨_, rfl, _, rfl, k8, e2, y.1, y.2, rfl, dp_same s1 h2, fun v2 H2 s2 hv2 => ?_⟩
    rw [nE_nrm px] at hv1
    rw [nE_nrm py] at hv2
    have E1 : Ef K H2 v1 (nrm k8 x) := dp_same s2 hv1
    have E2 : Ef K H2 v2 (nrm k8 y) := hv2
    have s12 := s1.trans s2
    have nx := Nrm.of k8 x
    have ny := Nrm.of k8 y
    have lX : (nrm k8 x).2.length ≤ 120 := by show (Km.pl k8 x.2).length ≤ 120; rw [px]; exact lx
    have lY : (nrm k8 y).2.length ≤ 120 := by show (Km.pl k8 y.2).length ≤ 120; rw [py]; exact ly
    have tX : k8 = .tails → (nrm k8 x).2.length ≤ 31 := fun e => by show (Km.pl k8 x.2).length ≤ 31; rw [px]; exact (lt e).1
    have tY : k8 = .tails → (nrm k8 y).2.length ≤ 31 := fun e => by show (Km.pl k8 y.2).length ≤ 31; rw [py]; exact (lt e).2
    clear hv1 hv2 h1 h2
    generalize nrm k8 x = X at *
    generalize nrm k8 y = Y at *
    refine ⟨_, rfl, _, rfl, _, _, E1, E2, shaped_e _ _, shaped_e _ _, _, rfl, ?_⟩
    rw [eqv_e, dec_pair]
    refine if2 (fun c => ?_) (fun c => ?_)
    · have c := of_decide_eq_true c
      subst c
      obtain ⟨p, hp⟩ := T.ke_IDLE
      refine k _ _ s12 ?_
      rw [stp_eq]
      exact e_mk (hp H2).1 (w_mk (ns := []) (hp H2).2)
    have ne : X ≠ Y := of_decide_eq_false c
    obtain ⟨f, m⟩ := X
    obtain ⟨g, n⟩ := Y
    obtain ⟨a1, t1, rfl, hA, hT1⟩ := e_inv E1
    obtain ⟨a2, t2, rfl, hB, hT2⟩ := e_inv E2
    refine ⟨_, rfl, _, rfl, a1, _, _, _, rfl, rfl, hA, rfl, _, rfl, a2, _, _, _, rfl, rfl, hB, rfl, k8, t1, t2, m, n, rfl, hT1, hT2, lX, lY, ⟨rstC_ok nx.pl tX, rstC_ok ny.pl tY⟩, fun v3 H3 s3 f3 => ?_⟩
    have s13 := s12.trans s3
    have hA3 := seqT_same s3 hA
    have hB3 := seqT_same s3 hB
    have hT3 := seqT_same s3 hT2
    have E23 : Ef K H3 (.ref a2) (g, n) := e_mk hB3 (w_mk hT3)
    have lastT : g = true → (stp k8 (f, m) (g, n) = if g = true then some (g, n) else none) → Q (.ref a2) H3 := fun eg e => k _ _ s13 (by rw [e, if_pos eg]; exact E23)
    have lastF : g = false → (stp k8 (f, m) (g, n) = if g = true then some (g, n) else none) → Q .non H3 := fun eg e => k _ _ s13 (by rw [e, if_neg (by rw [eg]; exact Bool.false_ne_true)] <;> rfl)
    cases hr : Km.rst8 k8 m n with
    | none =>
      rw [hr] at f3
      have f3 : v3 = .non := f3
      subst f3
      refine ⟨_, rfl, rfl, _, rfl, ifF rfl ?_⟩
      refine ⟨_, rfl, a2, _, _, _, rfl, rfl, hB3, rfl, g, rfl, ?_⟩
      exact if2 (fun eg => ⟨_, rfl, lastT eg (stp_none ne hr)⟩) (fun eg => lastF eg (stp_none ne hr))
    | some w =>
      rw [hr] at f3
      obtain ⟨t3, rfl, ht3⟩ := w_inv f3
      have hs := stp_some ne hr
      refine ⟨_, rfl, rfl, _, rfl, ifT rfl ?_⟩
      refine ⟨_, rfl, a1, _, _, _, rfl, rfl, hA3, rfl, _, rfl, a2, _, _, _, rfl, rfl, hB3, rfl, rfl, _, rfl, ?_⟩
      have done : (stp k8 (f, m) (g, n) = some (false, w)) → k8 ≠ .last → ∀ q H4, H3 q = none → H4 = upd H3 q (.tup [.bl false, .ref t3]) → ∃ (k8' : Km.Kd8) (e : V) (f' : Bool) (ns : List Int), [V.str (nm k8), .ref q] = [V.str (nm k8'), e] ∧ Dp K H4 e (eD f' ns) ∧ ∀ v H', Same H4 H' → Dp K H' v (nE k8' f' ns) → Q v H' := fun e nl q H4 nq e4 => by
        subst e4
        have sq := same_new (o := .tup [.bl false, .ref t3]) nq
        refine ⟨k8, .ref q, false, w, rfl, e_mk (.inl (.inl upd_same)) (dp_same sq (w_mk ht3)), fun v H' s' hv => k v H' ((s13.trans sq).trans s') ?_⟩
        rw [e]
        show Dp K H' v (eD false w)
        have : nE k8 false w = eD false w := by unfold nE; rw [nF_false nl]
        rw [← this]
        exact hv
      refine if2 (fun c1 => ?_) (fun c1 => ?_)
      · have e1 : f = g := by simpa using c1
        refine ⟨_, rfl, a2, _, _, _, rfl, rfl, hB3, rfl, g, rfl, ?_⟩
        cases g with
        | false =>
          refine ifT rfl ?_
          have cnd : (f, m).1 = (false, n).1 ∧ ((false, n).1 = false ∨ w.length < (false, n).2.length) := ⟨e1, .inl rfl⟩
          refine ⟨_, rfl, _, rfl, two, fun q nq => ?_⟩
          exact done (by rw [hs, if_pos cnd]) (rest_leads nx ny ne hr cnd.1 cnd.2).1 q _ nq rfl
        | true =>
          refine ifF rfl ?_
          refine ⟨_, rfl, t3, _, rfl, .inr ht3, _, rfl, a2, _, _, _, rfl, rfl, hB3, rfl, t2, _, rfl, .inr hT3, _, _, rfl, rfl, _, rfl, ?_⟩
          rw [List.length_map, List.length_map]
          refine if2 (fun c2 => ?_) (fun c2 => ?_)
          · have lt : w.length < n.length := Int.ofNat_lt.mp (of_decide_eq_true c2)
            have cnd : (f, m).1 = (true, n).1 ∧ ((true, n).1 = false ∨ w.length < (true, n).2.length) := ⟨e1, .inr lt⟩
            refine ⟨_, rfl, _, rfl, two, fun q nq => ?_⟩
            exact done (by rw [hs, if_pos cnd]) (rest_leads nx ny ne hr cnd.1 cnd.2).1 q _ nq rfl
          · have ge := of_decide_eq_false c2
            have cnd : ¬ ((f, m).1 = (true, n).1 ∧ ((true, n).1 = false ∨ w.length < (true, n).2.length)) := fun z => z.2.elim (fun q => by cases q) (fun q => ge (Int.ofNat_lt.mpr (show w.length < n.length from q)))
            exact ⟨_, rfl, a2, _, _, _, rfl, rfl, hB3, rfl, true, rfl, iteT ⟨_, rfl, lastT rfl (by rw [hs, if_neg cnd])⟩⟩
      · have e1 : f ≠ g := by simpa using c1
        refine ⟨_, rfl, a2, _, _, _, rfl, rfl, hB3, rfl, g, rfl, ?_⟩
        have e2 : stp k8 (f, m) (g, n) = if g = true then some (g, n) else none := by rw [hs, if_neg (fun z => e1 z.1)]
        exact if2 (fun eg => ⟨_, rfl, lastT eg e2⟩) (fun eg => lastF eg e2)
/-! ### _law_kind -/
def sp__law_kind (K : PySem.W.Frag) : Sp := fun vs H Q _ => ∃ (S c : Addr), vs = [.ref S] ∧ Stm S c H ∧ ∀ (k8 : Km.Kd8) H', Ext S H H' → Stm S c H' → Q (.str (nm k8)) H'
theorem ok__law_kind (T : Txt P K mg A') : FnOk P w K mg base CX0 4 A'.f__law_kind A'.fd__law_kind ["_law_stream_here"] (sp__law_kind K) := by
  refine Hk.okN T.F__law_kind sc__law_kind (fun vs H Q E h => ?_) (fun cdv A outer s H vs Q E hr h => ?_)
  · obtain ⟨S, c, rfl, _⟩ := h
    rfl
  · obtain ⟨S, c, rfl, hS, k⟩ := h
    refine ⟨_, (pss_one (ps_ret (pe_ix ix_tup (pe_tup (pa_cons pe_str (pa_cons pe_str (pa_cons pe_str (pa_cons pe_str (pa_cons pe_str (pa_cons pe_str (pa_cons pe_str (pa_cons pe_str pa_nil))))))))) (pe_call (ok__law_pick T) (hr.mono (by decide)) rfl T.g__law_pick T.F__law_pick.kp T.b__law_pick .nil pass0 (pa_cons (pv 0) (pa_cons pe_int pa_nil))) (fun _ _ => rfl)))), ?_⟩
    refine ⟨(by show 8 ≤ sizeLine; decide), fun t nt => ⟨_, rfl, S, c, 8, rfl, stm_new hS nt, by decide, fun r H' h0 h1 _ hS' e => ?_⟩⟩
    obtain ⟨n, rfl⟩ := Int.eq_ofNat_of_zero_le h0
    exact ⟨t, kNames, _, _, rfl, rfl, sqt_ext (stm_new hS nt) e (.inl (.inl upd_same)), atI_nat (kNames_at n (by omega)), k _ H' ((Ext.new nt).trans e) hS'⟩
/-! ### _law_letters -/
def sp__law_letters (K : PySem.W.Frag) : Sp := fun vs H Q _ => ∃ (S c : Addr), vs = [.ref S] ∧ Stm S c H ∧ ∀ (G : Addr) (gs : List Int) H', H G = none → Ext S H H' → Stm S c H' → Lets S c G gs H' → Q (.ref G) H'
theorem ok__law_letters (T : Txt P K mg A') : FnOk P w K mg base CX0 4 A'.f__law_letters A'.fd__law_letters ["_law_stream_here"] (sp__law_letters K) := by
  refine Hk.okN T.F__law_letters sc__law_letters (fun vs H Q E h => ?_) (fun cdv A outer s H vs Q E hr h => ?_)
  · obtain ⟨S, c, rfl, _⟩ := h
    rfl
  · obtain ⟨S, c, rfl, hS, k⟩ := h
    refine ⟨_, (pss_cons (ps_set (i := 1) sc__law_letters.nd rfl (Or.inl rfl) (pe_op op_add pe_int (pe_call (ok__law_pick T) (hr.mono (by decide)) rfl T.g__law_pick T.F__law_pick.kp T.b__law_pick .nil pass0 (pa_cons (pv 0) (pa_cons pe_int pa_nil)))))
    (pss_cons (ps_set (i := 2) sc__law_letters.nd rfl (Or.inl rfl) (pe_cmpR op_gt (pe_call (ok__law_pick T) (hr.mono (by decide)) rfl T.g__law_pick T.F__law_pick.kp T.b__law_pick .nil pass0 (pa_cons (pv 0) (pa_cons pe_int pa_nil))) pe_int (nomark _)))
    (pss_cons (ps_set (i := 3) sc__law_letters.nd rfl (Or.inl rfl) (pe_lst pa_nil))
    (pss_cons (ps_for PassesOwn.never rfl (pi_range1 (by rfl) T.z_range (pa_cons (pv 1) pa_nil)) (pg_name (i := 4) sc__law_letters.nd rfl (Or.inl rfl)) (pss_cons (ps_set (i := 5) sc__law_letters.nd rfl (Or.inl rfl) (pv 4))
    (Evl.pss_cut (ps_if (pt_val (pv 2)) (pss_one (ps_set (i := 5) sc__law_letters.nd rfl (Or.inl rfl) (pe_op op_sub pe_int (pv 4)))) pss_nil)
    (Evl.pss_cut (ps_if (PW.pt (pw_and (pt_val (pv 2)) (pw_and1 (pt_cmpR op_lt (pv 4) pe_int (nomark _))))) (pss_one (ps_set (i := 5) sc__law_letters.nd rfl (Or.inl rfl) (pe_op op_add (pv 5) (pe_op op_mul pe_int (pe_call (ok__law_draw T) (hr.mono (by decide)) rfl T.g__law_draw T.F__law_draw.kp T.b__law_draw .nil pass0 (pa_cons (pv 0) (pa_cons (pe_op op_pow pe_int pe_int) pa_nil))))))) pss_nil)
    (pss_one (ps_expr (pe_bm PySem.F.plainAttrs_list PySem.F.slot_list_append PySem.F.type_list_append mt_append (pv 3) (pa_cons (pv 5) pa_nil))))))))
    (pss_one (ps_ret (pv 3))))))), ?_⟩
    refine ⟨_, rfl, S, c, 10, rfl, hS, by decide, fun r1 H1 a1 b1 _ hS1 e1 => ⟨_, _, rfl, rfl, ?_⟩⟩
    refine ⟨_, rfl, S, c, 10, rfl, hS1, by decide, fun r2 H2 a2 b2 _ hS2 e2 => ⟨_, _, rfl, rfl, ?_⟩⟩
    obtain ⟨wd, hwd⟩ : ∃ wd, wd = decide ((7 : Int) < r2) := ⟨_, rfl⟩
    refine ⟨Nat.zero_le _, fun G nG => ?_⟩
    have e12 := e1.trans e2
    have nGS := ext_ne hS2 nG
    have nGc := ext_nc hS2 nG
    have nG0 := ext_free hS2 e12 nG
    refine ⟨_, rfl, _, rfl, by omega, by omega, ?_⟩
    refine for_range (lo := 0) (n := (1 + r1).toNat) (fun i σ' H' => ∃ (gs : List Int) (z z2 : Option V), σ' = [some (.ref S), some (.int (1 + r1)), some (.bl wd), some (.ref G), z, z2] ∧ gs.length = i ∧ Lst S c G gs H' ∧ (∀ x ∈ gs, 0 ≤ x ∧ x ≤ 999999999) ∧ Stm S c H' ∧ Ext S H H') ?_ ?_ ?_
    · exact ⟨[], none, none, by rw [hwd] <;> rfl, rfl, ⟨nGS, nGc, upd_same⟩, (fun x hx => by cases hx), stm_new hS2 nG, e12.trans (.new nG)⟩
    · rintro i σ' H' hi ⟨gs, z, z2, rfl, hl, hG, hr, hS', e'⟩
      have hi10 : (i : Int) ≤ 9 := by omega
      refine ⟨_, rfl, ?_⟩
      refine ⟨fun σ2 H2 => ∃ y : Int, σ2 = [some (.ref S), some (.int (1 + r1)), some (.bl wd), some (.ref G), some (.int (0 + (i : Int))), some (.int y)] ∧ 0 ≤ y ∧ y ≤ 9 ∧ H2 = H', ?_, ?_⟩
      · refine ⟨_, rfl, wd, rfl, ?_⟩
        cases wd with
        | true => exact iteT ⟨_, rfl, _, _, rfl, rfl, _, rfl, by omega, by omega, rfl⟩
        | false => exact iteF ⟨_, rfl, by omega, by omega, rfl⟩
      rintro σ2 H2' ⟨y, rfl, y0, y9, rfl⟩
      refine ⟨fun σ3 H3 => ∃ y : Int, σ3 = [some (.ref S), some (.int (1 + r1)), some (.bl wd), some (.ref G), some (.int (0 + (i : Int))), some (.int y)] ∧ 0 ≤ y ∧ y ≤ 999999999 ∧ Lst S c G gs H3 ∧ Stm S c H3 ∧ Ext S H H3, ?_, ?_⟩
      · refine ⟨_, rfl, wd, rfl, ?_⟩
        cases wd with
        | false => exact iteF (iteF ⟨y, rfl, y0, by omega, hG, hS', e'⟩)
        | true =>
          refine iteT ⟨_, rfl, _, _, rfl, rfl, _, rfl, ?_⟩
          refine if2 (fun _ => ?_) (fun _ => ⟨y, rfl, y0, by omega, hG, hS', e'⟩)
          refine ⟨_, rfl, _, rfl, _, _, rfl, rfl, ⟨by decide, by decide, by decide⟩, S, c, 100000000, rfl, hS', by decide, by decide, fun r H4 a4 b4 hS4 e4 => ?_⟩
          refine ⟨_, _, rfl, rfl, .inl ⟨by omega, by omega⟩, _, _, rfl, rfl, ?_⟩
          exact ⟨_, rfl, by omega, by omega, hG.ext e4, hS4, e'.trans e4⟩
      rintro σ3 H3 ⟨y, rfl, y0, y9, hG3, hS3, e3⟩
      refine ⟨_, rfl, .inl ⟨rfl, _, hG3.sq⟩, _, rfl, G, _, _, rfl, rfl, hG3.2.2, ?_, ?_⟩
      · rw [List.length_map]
        exact small1000 (by omega)
      refine ⟨gs ++ [y], _, _, rfl, by rw [List.length_append, hl]; rfl, ⟨nGS, nGc, by rw [upd_same, List.map_append]; rfl⟩, fun x hx => ?_, stm_put hS3 nGS nGc, ext_mut e3 nG0⟩
      rcases List.mem_append.mp hx with hx | hx
      · exact hr x hx
      · rw [List.mem_singleton.mp hx]; exact ⟨y0, y9⟩
    · rintro σ' H' ⟨gs, z, z2, rfl, hl, hG, hr, hS', e'⟩
      exact ⟨_, rfl, k G gs H' nG0 e' hS' ⟨hG, by omega, by omega, hr⟩⟩
/-! ### _law_raw -/
def sp__law_raw (K : PySem.W.Frag) : Sp := fun vs H Q _ => ∃ (S c G : Addr) (gs : List Int), vs = [.ref S, .ref G] ∧ Stm S c H ∧ Lets S c G gs H ∧ ∀ (v : V) (ns : List Int) H', Ext S H H' → Stm S c H' → Dp K H' v (wD ns) → ns.length ≤ 7 → (∀ x ∈ ns, x ∈ gs) → Q v H'
def sizes : List Int := [0, 1, 2, 3, 4, 5, 0, 1, 2, 7]
theorem sizes_at : ∀ n : Nat, n < 10 → ∃ m : Nat, sizes[n]? = some (m : Int) ∧ m ≤ 7
  | 0, _ => ⟨0, rfl, by decide⟩
  | 1, _ => ⟨1, rfl, by decide⟩
  | 2, _ => ⟨2, rfl, by decide⟩
  | 3, _ => ⟨3, rfl, by decide⟩
  | 4, _ => ⟨4, rfl, by decide⟩
  | 5, _ => ⟨5, rfl, by decide⟩
  | 6, _ => ⟨0, rfl, by decide⟩
  | 7, _ => ⟨1, rfl, by decide⟩
  | 8, _ => ⟨2, rfl, by decide⟩
  | 9, _ => ⟨7, rfl, by decide⟩
  | n + 10, h => absurd h (by omega)
theorem ok__law_raw (T : Txt P K mg A') : FnOk P w K mg base CX0 4 A'.f__law_raw A'.fd__law_raw ["_law_stream_here", "_law_letters_here"] (sp__law_raw K) := by
  refine Hk.okN T.F__law_raw sc__law_raw (fun vs H Q E h => ?_) (fun cdv A outer s H vs Q E hr h => ?_)
  · obtain ⟨S, c, G, gs, rfl, _⟩ := h
    rfl
  · obtain ⟨S, c, G, gs, rfl, hS, hG, k⟩ := h
    refine ⟨_, (pss_cons (ps_set (i := 2) sc__law_raw.nd rfl (Or.inl rfl) (pe_ix ix_tup (pe_tup (pa_cons pe_int (pa_cons pe_int (pa_cons pe_int (pa_cons pe_int (pa_cons pe_int (pa_cons pe_int (pa_cons pe_int (pa_cons pe_int (pa_cons pe_int (pa_cons pe_int pa_nil))))))))))) (pe_call (ok__law_pick T) (hr.mono (by decide)) rfl T.g__law_pick T.F__law_pick.kp T.b__law_pick .nil pass0 (pa_cons (pv 0) (pa_cons pe_int pa_nil))) (fun _ _ => rfl)))
    (pss_one (ps_ret (pe_callTy call_tuple_of (by rfl) T.z_tuple (by decide +kernel) (pa_cons (pe_lc (own := [("_law_k", 3)]) (g := gName 3) (tt := tYes) (by rfl) sc__law_raw.nd (pi_range1 (by rfl) T.z_range (pa_cons (pv 2) pa_nil)) (blkOk_by (own := [("_law_k", 3)]) (N := ["_law_stream_here", "_law_letters_here", "_law_size", "_law_k"]) (sc := defScope s__law_raw) (by decide +kernel)) (fun _ _ _ _ _ => (pg_name (i := 3) sc__law_raw.nd rfl (Or.inl rfl))) (fun _ _ _ _ _ => pts_nil) (fun _ _ _ _ _ => (pe_ix (ixLK (K := K) rfl) (pv 1) (pe_call (ok__law_pick T) (hr.mono (by decide)) rfl T.g__law_pick T.F__law_pick.kp T.b__law_pick .nil pass0 (pa_cons (pv 0) (pa_cons (pe_callB (lenK (K := K) rfl) (by rfl) T.z_len (by decide +kernel) (pa_cons (pv 1) pa_nil)) pa_nil))) (fun _ _ => rfl)))) pa_nil))))), ?_⟩
    refine ⟨(by show 10 ≤ sizeLine; decide), fun t nt => ⟨_, rfl, S, c, 10, rfl, stm_new hS nt, by decide, fun r H1 h0 h1 _ hS1 e1 => ?_⟩⟩
    obtain ⟨n, rfl⟩ := Int.eq_ofNat_of_zero_le h0
    obtain ⟨m, hm, hm7⟩ := sizes_at n (by omega)
    have e01 : Ext S H H1 := (Ext.new nt).trans e1
    refine ⟨t, sizes.map V.int, _, .int m, rfl, rfl, sqt_ext (stm_new hS nt) e1 (.inl (.inl upd_same)), atI_nat (by rw [List.getElem?_map, hm] <;> rfl), ?_⟩
    have hG1 := hG.ext e01
    refine ⟨_, rfl, _, rfl, by omega, by omega, fun D nD => ?_⟩
    refine lc_range (lo := 0) (n := m) (fun i H' => Ext S H1 H' ∧ Stm S c H' ∧ ∃ ns : List Int, H' D = some (.lst (ns.map V.int)) ∧ ns.length = i ∧ ∀ x ∈ ns, x ∈ gs) ⟨.new nD, stm_new hS1 nD, [], upd_same, rfl, fun x hx => by cases hx⟩ ?_ ?_
    · rintro i H' hi ⟨e2, hS2, ns, hD, hl, hin⟩
      have hG2 := hG1.ext e2
      have nDS := ext_ne hS1 nD
      have nDc := ext_nc hS1 nD
      refine ⟨rfl, ?_⟩
      refine ⟨_, rfl, _, rfl, _, rfl, G, _, rfl, .inl hG2.at_.sq, S, c, _, rfl, hS2, (by rw [List.length_map]; have := hG2.one; omega), fun r H3 a3 b3 c3 hS3 e3 => ?_⟩
      have hG3 := hG2.ext e3
      rw [List.length_map] at b3
      obtain ⟨j, rfl⟩ := Int.eq_ofNat_of_zero_le a3
      have hj : j < gs.length := by omega
      refine ⟨G, _, _, .int gs[j], rfl, rfl, hG3.at_.sq, atI_nat (map_get hj), _, e3 D _ nDS hD, ?_, ext_mut (e2.trans e3) nD, stm_put hS3 nDS nDc, ns ++ [gs[j]], ?_, ?_, ?_⟩
      · rw [List.length_map]
        exact small1000 (by omega)
      · rw [upd_same, List.map_append]
        rfl
      · rw [List.length_append, hl]
        rfl
      · intro x hx
        rcases List.mem_append.mp hx with hx | hx
        · exact hin x hx
        · rw [List.mem_singleton.mp hx]
          exact List.getElem_mem hj
    · rintro H' ⟨e2, hS2, ns, hD, hl, hin⟩
      exact ⟨D, _, rfl, .inl ⟨SqL.of hD, fun l nl => k _ ns _ ((e01.trans e2).trans (.new nl)) (stm_new hS2 nl) (w_new nl) (by omega) hin⟩⟩
/-! ### _law_step -/
def sp__law_step (K : PySem.W.Frag) : Sp := fun vs H Q _ => ∃ (k8 : Km.Kd8) (e1 e2 : V) (x y : Bool × List Int), vs = [.str (nm k8), e1, e2] ∧ Ef K H e1 x ∧ Ef K H e2 y ∧ Nrm k8 x ∧ Nrm k8 y ∧ x.2.length ≤ 120 ∧ y.2.length ≤ 120 ∧ ∀ v H', Same H H' → FoundE K H' v (stp k8 x y) → Q v H'
theorem ok__law_step (T : Txt P K mg A') : FnOk P w K mg base CX0 4 A'.f__law_step A'.fd__law_step ["_law_kind_here", "_law_first", "_law_second"] (sp__law_step K) := by
  refine Hk.okN T.F__law_step sc__law_step (fun vs H Q E h => ?_) (fun cdv A outer s H vs Q E hr h => ?_)
  · obtain ⟨k8, e1, e2, x, y, rfl, _⟩ := h
    rfl
  · obtain ⟨k8, e1, e2, X, Y, rfl, E1, E2, nx, ny, lX, lY, k⟩ := h
    refine ⟨_, (pss_cons (ps_if (pt_cmpR (op_eqD hr.units) (pv 1) (pv 2) (nomark _)) (pss_one (ps_ret (pe_tup (pa_cons pe_bl (pa_cons (pe_tup pa_nil) pa_nil))))) pss_nil)
    (pss_cons (ps_set (i := 3) sc__law_step.nd rfl (Or.inl rfl) (pe_call (ok__law_rest T) (hr.mono (by decide)) rfl T.g__law_rest T.F__law_rest.kp T.b__law_rest .nil pass0 (pa_cons (pv 0) (pa_cons (pe_ix ix_tup (pv 1) pe_int (fun _ _ => rfl)) (pa_cons (pe_ix ix_tup (pv 2) pe_int (fun _ _ => rfl)) pa_nil)))))
    (pss_cons (ps_if (PW.pt (pw_and (pt_cmpR op_notN (pv 3) pe_non (nomark _)) (pw_and1 (pt_cmpR op_eq (pe_ix ix_tup (pv 1) pe_int (fun _ _ => rfl)) (pe_ix ix_tup (pv 2) pe_int (fun _ _ => rfl)) (nomark _))))) (pss_one (ps_if (PW.pt (pw_or (pt_not (pt_val (pe_ix ix_tup (pv 2) pe_int (fun _ _ => rfl)))) (pw_or1 (pt_cmpR op_lt (pe_callB call_len_seq (by rfl) T.z_len (by decide +kernel) (pa_cons (pv 3) pa_nil)) (pe_callB call_len_seq (by rfl) T.z_len (by decide +kernel) (pa_cons (pe_ix ix_tup (pv 2) pe_int (fun _ _ => rfl)) pa_nil)) (nomark _))))) (pss_one (ps_ret (pe_tup (pa_cons pe_bl (pa_cons (pv 3) pa_nil))))) pss_nil)) pss_nil)
    (pss_cons (ps_if (pt_val (pe_ix ix_tup (pv 2) pe_int (fun _ _ => rfl))) (pss_one (ps_ret (pv 2))) pss_nil)
    (pss_one (ps_ret pe_non)))))), ?_⟩
    have two : 2 ≤ sizeLine := by decide
    refine ⟨_, rfl, _, rfl, _, _, E1, E2, shaped_e _ _, shaped_e _ _, _, rfl, ?_⟩
    rw [eqv_e, dec_pair]
    refine if2 (fun c => ?_) (fun c => ?_)
    · have c := of_decide_eq_true c
      subst c
      refine ⟨Nat.zero_le _, fun z nz => ⟨two, fun q nq => ?_⟩⟩
      refine k _ _ ((same_new nz).trans (same_new nq)) ?_
      rw [stp_eq]
      exact e_mk (.inl (.inl upd_same)) (dp_same (same_new nq) (w_mk (ns := []) (.inl (.inl upd_same))))
    have ne : X ≠ Y := of_decide_eq_false c
    obtain ⟨f, m⟩ := X
    obtain ⟨g, n⟩ := Y
    obtain ⟨a1, t1, rfl, hA, hT1⟩ := e_inv E1
    obtain ⟨a2, t2, rfl, hB, hT2⟩ := e_inv E2
    refine ⟨_, rfl, _, rfl, a1, _, _, _, rfl, rfl, hA, rfl, _, rfl, a2, _, _, _, rfl, rfl, hB, rfl, k8, t1, t2, m, n, rfl, hT1, hT2, lX, lY, nx.pl, ny.pl, fun v3 H3 s3 f3 => ?_⟩
    have hA3 := seqT_same s3 hA
    have hB3 := seqT_same s3 hB
    have hT3 := seqT_same s3 hT2
    have E23 : Ef K H3 (.ref a2) (g, n) := e_mk hB3 (w_mk hT3)
    have lastT : g = true → (stp k8 (f, m) (g, n) = if g = true then some (g, n) else none) → Q (.ref a2) H3 := fun eg e => k _ _ s3 (by rw [e, if_pos eg]; exact E23)
    have lastF : g = false → (stp k8 (f, m) (g, n) = if g = true then some (g, n) else none) → Q .non H3 := fun eg e => k _ _ s3 (by rw [e, if_neg (by rw [eg]; exact Bool.false_ne_true)] <;> rfl)
    cases hr : Km.rst8 k8 m n with
    | none =>
      rw [hr] at f3
      have f3 : v3 = .non := f3
      subst f3
      refine ⟨_, rfl, rfl, _, rfl, ifF rfl ?_⟩
      refine ⟨_, rfl, a2, _, _, _, rfl, rfl, hB3, rfl, g, rfl, ?_⟩
      exact if2 (fun eg => ⟨_, rfl, lastT eg (stp_none ne hr)⟩) (fun eg => lastF eg (stp_none ne hr))
    | some w =>
      rw [hr] at f3
      obtain ⟨t3, rfl, ht3⟩ := w_inv f3
      have hs := stp_some ne hr
      refine ⟨_, rfl, rfl, _, rfl, ifT rfl ?_⟩
      refine ⟨_, rfl, a1, _, _, _, rfl, rfl, hA3, rfl, _, rfl, a2, _, _, _, rfl, rfl, hB3, rfl, rfl, _, rfl, ?_⟩
      have done : (stp k8 (f, m) (g, n) = some (false, w)) → ∀ q, H3 q = none → Q (.ref q) (upd H3 q (.tup [.bl false, .ref t3])) := fun e q nq => by
        have sq := same_new (o := .tup [.bl false, .ref t3]) nq
        refine k _ _ (s3.trans sq) ?_
        rw [e]
        exact e_mk (.inl (.inl upd_same)) (dp_same sq (w_mk ht3))
      refine if2 (fun c1 => ?_) (fun c1 => ?_)
      · have e1 : f = g := by simpa using c1
        refine ⟨_, rfl, a2, _, _, _, rfl, rfl, hB3, rfl, g, rfl, ?_⟩
        cases g with
        | false =>
          refine ifT rfl ?_
          have cnd : (f, m).1 = (false, n).1 ∧ ((false, n).1 = false ∨ w.length < (false, n).2.length) := ⟨e1, .inl rfl⟩
          exact ⟨_, rfl, two, fun q nq => done (by rw [hs, if_pos cnd]) q nq⟩
        | true =>
          refine ifF rfl ?_
          refine ⟨_, rfl, t3, _, rfl, .inr ht3, _, rfl, a2, _, _, _, rfl, rfl, hB3, rfl, t2, _, rfl, .inr hT3, _, _, rfl, rfl, _, rfl, ?_⟩
          rw [List.length_map, List.length_map]
          refine if2 (fun c2 => ?_) (fun c2 => ?_)
          · have lt : w.length < n.length := Int.ofNat_lt.mp (of_decide_eq_true c2)
            have cnd : (f, m).1 = (true, n).1 ∧ ((true, n).1 = false ∨ w.length < (true, n).2.length) := ⟨e1, .inr lt⟩
            exact ⟨_, rfl, two, fun q nq => done (by rw [hs, if_pos cnd]) q nq⟩
          · have ge := of_decide_eq_false c2
            have cnd : ¬ ((f, m).1 = (true, n).1 ∧ ((true, n).1 = false ∨ w.length < (true, n).2.length)) := fun z => z.2.elim (fun q => by cases q) (fun q => ge (Int.ofNat_lt.mpr (show w.length < n.length from q)))
            exact ⟨_, rfl, a2, _, _, _, rfl, rfl, hB3, rfl, true, rfl, iteT ⟨_, rfl, lastT rfl (by rw [hs, if_neg cnd])⟩⟩
      · have e1 : f ≠ g := by simpa using c1
        refine ⟨_, rfl, a2, _, _, _, rfl, rfl, hB3, rfl, g, rfl, ?_⟩
        have e2 : stp k8 (f, m) (g, n) = if g = true then some (g, n) else none := by rw [hs, if_neg (fun z => e1 z.1)]
        exact if2 (fun eg => ⟨_, rfl, lastT eg e2⟩) (fun eg => lastF eg e2)
/-! ### _law_running -/
def sp__law_running (K : PySem.W.Frag) : Sp := fun vs H Q _ => ∃ (k8 : Km.Kd8) (p : Addr) (xs : List V) (l : List Mt.Ev), vs = [.str (nm k8), .ref p] ∧ SqL K H p xs ∧ DpAll K H xs (effs l) ∧ (∀ e ∈ l, e.2.length ≤ 120 ∧ Km.pl k8 e.2 = e.2) ∧ (∀ i, (Mt.wh k8 (l.take i)).2.length ≤ 120) ∧ l.length ≤ 100 ∧ ∀ r ys H', Same H H' → H r = none → H' r = some (.lst ys) → DpAll K H' ys (effs (Mt.runs k8 l)) → Q (.ref r) H'
theorem ok__law_running (T : Txt P K mg A') : FnOk P w K mg base CX0 4 A'.f__law_running A'.fd__law_running ["_law_kind_here", "_law_row_here"] (sp__law_running K) := by
  refine Hk.okN T.F__law_running sc__law_running (fun vs H Q E h => ?_) (fun cdv A outer s H vs Q E hr h => ?_)
  · obtain ⟨k8, p, xs, l, rfl, _⟩ := h
    rfl
  · obtain ⟨k8, p, xs, l, rfl, hq, hx, le, lw, ll, k⟩ := h
    refine ⟨_, (pss_cons (ps_set (i := 2) sc__law_running.nd rfl (Or.inl rfl) (pe_tup (pa_cons pe_bl (pa_cons (pe_tup pa_nil) pa_nil))))
    (pss_cons (ps_set (i := 3) sc__law_running.nd rfl (Or.inl rfl) (pe_lst pa_nil))
    (pss_cons (ps_for PassesOwn.never rfl (pi_list (pv 1)) (pg_name (i := 4) sc__law_running.nd rfl (Or.inl rfl)) (pss_cons (ps_set (i := 2) sc__law_running.nd rfl (Or.inl rfl) (pe_call (ok__law_then T) (hr.mono (by decide)) rfl T.g__law_then T.F__law_then.kp T.b__law_then .nil pass0 (pa_cons (pv 0) (pa_cons (pv 2) (pa_cons (pv 4) pa_nil)))))
    (pss_one (ps_expr (pe_bm PySem.F.plainAttrs_list PySem.F.slot_list_append PySem.F.type_list_append mt_append (pv 3) (pa_cons (pv 2) pa_nil))))))
    (pss_one (ps_ret (pv 3)))))), ?_⟩
    have two : 2 ≤ sizeLine := by decide
    have lx : xs.length = l.length := by have := dpa_len hx; rwa [Mt.effs_len] at this
    refine ⟨Nat.zero_le _, fun z nz => ⟨two, fun q nq => ?_⟩⟩
    have sz := same_new (o := .tup []) nz
    have sq := same_new (o := .tup [.bl false, .ref z]) nq
    have hI : Ef K (upd (upd H z (.tup [])) q (.tup [.bl false, .ref z])) (.ref q) (false, []) := e_mk (.inl (.inl upd_same)) (dp_same sq (w_mk (ns := []) (.inl (.inl upd_same))))
    have s1 := sz.trans sq
    generalize upd (upd H z (.tup [])) q (.tup [.bl false, .ref z]) = H1 at *
    refine ⟨Nat.zero_le _, fun D nD => ?_⟩
    have sD := same_new (o := .lst []) nD
    have nDH : H D = none := by
      cases h0 : H D with
      | none => rfl
      | some o => exact absurd ((s1 _ _ h0).symm.trans nD) (fun z => by cases z)
    refine ⟨_, rfl, p, rfl, ⟨_, (s1.trans sD).seq hq⟩, for_list (K := K) (a := p) (xs := xs) (fun i σ' H' => ∃ v o1 ys, σ' = [some (.str (nm k8)), some (.ref p), some v, some (.ref D), o1] ∧ Same H1 H' ∧ H' D = some (.lst ys) ∧ Ef K H' v (Mt.wh k8 (l.take i)) ∧ DpAll K H' ys (effs ((Mt.runs k8 l).take i))) ⟨_, none, [], rfl, sD, upd_same, dp_same sD hI, .nil⟩ (fun i σ' H' _ ⟨_, _, _, _, s, _⟩ => (s1.trans s).seq hq) ?_ ?_⟩
    · rintro i x σ' H' hi ⟨v, o1, ys, rfl, s, hD, hv, hy⟩
      obtain ⟨e, he, hE⟩ := Mt.get_eff (dpa_same (s1.trans s) hx) hi
      have le := le e (List.mem_of_getElem? he)
      refine ⟨_, rfl, _, rfl, _, rfl, k8, v, x, _, e, rfl, hv, hE, by have := lw i; omega, fun v2 H2 s2 hv2 => ?_⟩
      have hv2 : Ef K H2 v2 (thE k8 (Mt.wh k8 (l.take i)) e) := hv2
      rw [thE_eq le.2] at hv2
      have hD2 := s2 _ _ hD
      have ly : ys.length ≤ l.length := by
        have := dpa_len hy
        rw [Mt.effs_len, List.length_take, Mt.runs_len] at this
        omega
      obtain ⟨f1, f2, f3⟩ := Mt.fillE nD s hD hy s2 hv2
      refine ⟨_, rfl, .inl ⟨rfl, _, SqL.of hD2⟩, _, rfl, D, _, _, rfl, rfl, hD2, small1000 (by omega), ?_⟩
      refine ⟨v2, _, _, rfl, f1, f2, ?_, ?_⟩
      · rw [Mt.wh_snoc he]
        exact ef_mut hD2 hv2
      · rw [Mt.runs_take he]
        exact f3
    · rintro σ' H' ⟨v, o1, ys, rfl, s, hD, hv, hy⟩
      rw [lx, ← Mt.runs_len k8 l, List.take_length] at hy
      exact ⟨_, rfl, k D ys H' (s1.trans s) nDH hD hy⟩
/-! ### _law_same_row -/
def sp__law_same_row (K : PySem.W.Frag) : Sp := fun vs H Q _ => ∃ (p q : Addr) (xs ys : List V) (l : List (Option Mt.Ev)), vs = [.ref p, .ref q] ∧ SqL K H p xs ∧ SqL K H q ys ∧ DpAll K H xs (l.map Mt.opD) ∧ DpAll K H ys (l.map Mt.opD) ∧ l.length ≤ 100 ∧ (∀ e, some e ∈ l → e.2.length ≤ 900) ∧ ∀ H', Same H H' → Q (.bl true) H'
theorem ok__law_same_row (T : Txt P K mg A') : FnOk P w K mg base CX0 4 A'.f__law_same_row A'.fd__law_same_row ["_law_told", "_law_due"] (sp__law_same_row K) := by
  refine Hk.okN T.F__law_same_row sc__law_same_row (fun vs H Q E h => ?_) (fun cdv A outer s H vs Q E hr h => ?_)
  · obtain ⟨p, q, xs, ys, l, rfl, _⟩ := h
    rfl
  · obtain ⟨p, q, xs, ys, l, rfl, hp, hq, hx, hy, ll, le, k⟩ := h
    refine ⟨_, (pss_cons (ps_if (PW.pt (pw_or (pt_not (pt_val (pe_callB call_isD (by rfl) T.z_isinstance (by decide +kernel) (pa_cons (pv 0) (pa_cons (pe_bltn (v := .ty "list") (by rfl) T.z_list (by decide +kernel) rfl) pa_nil))))) (pw_or1 (pt_cmpR op_ne (pe_callB call_len_seq (by rfl) T.z_len (by decide +kernel) (pa_cons (pv 0) pa_nil)) (pe_callB call_len_seq (by rfl) T.z_len (by decide +kernel) (pa_cons (pv 1) pa_nil)) (nomark _))))) (pss_one (ps_ret pe_bl)) pss_nil)
    (pss_cons (ps_for PassesOwn.never rfl (pi_range1 (by rfl) T.z_range (pa_cons (pe_callB call_len_seq (by rfl) T.z_len (by decide +kernel) (pa_cons (pv 1) pa_nil)) pa_nil)) (pg_name (i := 2) sc__law_same_row.nd rfl (Or.inl rfl)) (pss_cons (ps_if (PW.pt (pw_and (pt_cmpR op_isN (pe_ix ix_list (pv 1) (pv 2) (fun _ _ => rfl)) pe_non (nomark _)) (pw_and1 (pt_cmpR op_notN (pe_ix ix_list (pv 0) (pv 2) (fun _ _ => rfl)) pe_non (nomark _))))) (pss_one (ps_ret pe_bl)) pss_nil)
    (pss_one (ps_if (PW.pt (pw_and (pt_cmpR op_notN (pe_ix ix_list (pv 1) (pv 2) (fun _ _ => rfl)) pe_non (nomark _)) (pw_and1 (PW.pt (pw_or (pt_not (pt_val (pe_call (ok__law_is_effect T) (hr.mono (by decide)) rfl T.g__law_is_effect T.F__law_is_effect.kp T.b__law_is_effect .nil pass0 (pa_cons (pe_ix ix_list (pv 0) (pv 2) (fun _ _ => rfl)) pa_nil)))) (pw_or1 (pt_cmpR (op_neD hr.units) (pe_ix ix_list (pv 0) (pv 2) (fun _ _ => rfl)) (pe_ix ix_list (pv 1) (pv 2) (fun _ _ => rfl)) (nomark _)))))))) (pss_one (ps_ret pe_bl)) pss_nil))))
    (pss_one (ps_ret pe_bl)))), ?_⟩
    have lx := Mt.rowO_len hx
    have ly := Mt.rowO_len hy
    refine ⟨_, rfl, _, _, _, rfl, okT_list, .lst hp hx, _, rfl, ?_⟩
    refine ifF (by rw [isI_list_list] <;> rfl) ?_
    refine ⟨_, rfl, p, _, rfl, .inl hp, _, rfl, q, _, rfl, .inl hq, rfl, _, rfl, ?_⟩
    refine ifF (by rw [lx, ly] <;> simp) ?_
    refine ⟨_, rfl, q, _, rfl, .inl hq, _, rfl, ?_⟩
    refine ⟨by omega, by omega, ?_⟩
    refine for_range (lo := 0) (n := ys.length) (fun i σ' H' => ∃ o1, σ' = [some (.ref p), some (.ref q), o1] ∧ Same H H') ⟨none, rfl, .refl _⟩ ?_ ?_
    · rintro i σ' H' hi ⟨o1, rfl, s⟩
      rw [Int.zero_add]
      obtain ⟨v, hv⟩ : ∃ v, xs[i]? = some v := ⟨_, List.getElem?_eq_getElem (by omega)⟩
      obtain ⟨u, hu⟩ : ∃ u, ys[i]? = some u := ⟨_, List.getElem?_eq_getElem hi⟩
      obtain ⟨o, ho, dv⟩ := Mt.rowO_get (dpa_same s hx) hv
      obtain ⟨o', ho', du⟩ := Mt.rowO_get (dpa_same s hy) hu
      rw [ho] at ho'
      cases ho'
      have hp1 := s.seq hp
      have hq1 := s.seq hq
      refine ⟨_, rfl, _, rfl, q, ys, _, u, rfl, rfl, hq1, atI_nat hu, rfl, _, rfl, ?_⟩
      rcases Mt.op_inv dv with ⟨rfl, rfl⟩ | ⟨e, rfl, nv, ev⟩
      · rcases Mt.op_inv du with ⟨rfl, _⟩ | ⟨e, z, _⟩
        rotate_left
        · cases z
        refine ifT rfl ?_
        refine ⟨_, rfl, _, rfl, p, xs, _, _, rfl, rfl, hp1, atI_nat hv, rfl, _, rfl, ?_⟩
        refine ifF rfl ?_
        refine ⟨_, rfl, _, rfl, q, ys, _, _, rfl, rfl, hq1, atI_nat hu, rfl, _, rfl, ?_⟩
        exact ifF rfl ⟨_, rfl, s⟩
      · rcases Mt.op_inv du with ⟨_, z⟩ | ⟨e', z, nu, eu⟩
        · cases z
        cases z
        refine ifF (by simpa using nu) ?_
        refine ⟨_, rfl, _, rfl, q, ys, _, _, rfl, rfl, hq1, atI_nat hu, rfl, _, rfl, ?_⟩
        refine ifT (by simpa using nu) ?_
        refine ⟨_, rfl, _, rfl, p, xs, _, _, rfl, rfl, hp1, atI_nat hv, v, e.1, e.2, rfl, ev, le e (List.mem_of_getElem? ho), fun H2 s2 => ⟨_, rfl, ifF rfl ?_⟩⟩
        refine ⟨_, rfl, _, rfl, p, xs, _, _, rfl, rfl, s2.seq hp1, atI_nat hv, _, rfl, _, rfl, q, ys, _, _, rfl, rfl, s2.seq hq1, atI_nat hu, _, _, dp_same s2 ev, dp_same s2 eu, shaped_e _ _, shaped_e _ _, _, rfl, ?_⟩
        exact ifF (by rw [eqv_self (shaped_e _ _)] <;> rfl) ⟨_, rfl, s.trans s2⟩
    · rintro σ' H' ⟨o1, rfl, s⟩
      exact k H' s
/-! ### _law_states -/
def sp__law_states (K : PySem.W.Frag) : Sp := fun vs H Q _ => ∃ (k8 : Km.Kd8) (p q : Addr) (v0 : V) (xs ys : List V) (l : List Mt.Ev) (ms : List Int), vs = [.str (nm k8), .ref p, .ref q, v0] ∧ SqL K H p xs ∧ SqL K H q ys ∧ DpAll K H xs (effs l) ∧ DpAll K H ys (effs (Mt.runs k8 l)) ∧ Dp K H v0 (wD ms) ∧ Km.pl k8 ms = ms ∧ ms.length ≤ 8 ∧
  l.length ≤ 100 ∧ (∀ e ∈ l, e.2.length ≤ 120 ∧ Km.pl k8 e.2 = e.2) ∧ (∀ i, (Mt.wh k8 (l.take i)).2.length ≤ 120) ∧ ∀ H', Same H H' → Q (.bl true) H'
theorem on_ln {k : Km.Kd8} {e : Bool × List Int} {s : List Int} : (onE k e.1 e.2 s).length ≤ e.2.length + s.length + 1 := by
  unfold onE
  split
  · omega
  · exact Nat.le_trans (Km.pl_len k _) (by rw [List.length_append]; omega)
theorem ok__law_states (T : Txt P K mg A') : FnOk P w K mg base CX0 4 A'.f__law_states A'.fd__law_states ["_law_kind_here", "_law_row_here", "_law_due", "_law_state"] (sp__law_states K) := by
  refine Hk.okN T.F__law_states sc__law_states (fun vs H Q E h => ?_) (fun cdv A outer s H vs Q E hr h => ?_)
  · obtain ⟨k8, p, q, v0, xs, ys, l, ms, rfl, _⟩ := h
    rfl
  · obtain ⟨k8, p, q, v0, xs, ys, l, ms, rfl, hp, hq, hx, hy, h0, pm, lm, ll, le, lw, k⟩ := h
    refine ⟨_, (pss_cons (ps_set (i := 4) sc__law_states.nd rfl (Or.inl rfl) (pv 3))
    (pss_cons (ps_set (i := 5) sc__law_states.nd rfl (Or.inl rfl) (pv 3))
    (pss_cons (ps_for PassesOwn.never rfl (pi_range1 (by rfl) T.z_range (pa_cons (pe_callB call_len_seq (by rfl) T.z_len (by decide +kernel) (pa_cons (pv 1) pa_nil)) pa_nil)) (pg_name (i := 6) sc__law_states.nd rfl (Or.inl rfl)) (pss_cons (ps_set (i := 4) sc__law_states.nd rfl (Or.inl rfl) (pe_call (ok_effect_on T) (hr.mono (by decide)) rfl T.g_effect_on T.F_effect_on.kp T.b_effect_on .nil pass0 (pa_cons (pv 0) (pa_cons (pe_ix ix_list (pv 1) (pv 6) (fun _ _ => rfl)) (pa_cons (pv 4) pa_nil)))))
    (pss_cons (ps_set (i := 5) sc__law_states.nd rfl (Or.inl rfl) (pe_call (ok__law_on T) (hr.mono (by decide)) rfl T.g__law_on T.F__law_on.kp T.b__law_on .nil pass0 (pa_cons (pv 0) (pa_cons (pe_ix ix_list (pv 1) (pv 6) (fun _ _ => rfl)) (pa_cons (pv 5) pa_nil)))))
    (pss_one (ps_if (PW.pt (pw_or (pt_not (pt_val (pe_call (ok__law_is_word T) (hr.mono (by decide)) rfl T.g__law_is_word T.F__law_is_word.kp T.b__law_is_word .nil pass0 (pa_cons (pv 4) pa_nil)))) (pw_or (pt_cmpR (op_neD hr.units) (pv 4) (pv 5) (nomark _)) (pw_or1 (pt_cmpR (op_neD hr.units) (pe_call (ok_effect_on T) (hr.mono (by decide)) rfl T.g_effect_on T.F_effect_on.kp T.b_effect_on .nil pass0 (pa_cons (pv 0) (pa_cons (pe_ix ix_list (pv 2) (pv 6) (fun _ _ => rfl)) (pa_cons (pv 3) pa_nil)))) (pv 5) (nomark _)))))) (pss_one (ps_ret pe_bl)) pss_nil)))))
    (pss_one (ps_ret pe_bl))))), ?_⟩
    have lx : xs.length = l.length := by have := dpa_len hx; rwa [Mt.effs_len] at this
    have ly : ys.length = l.length := by have := dpa_len hy; rwa [Mt.effs_len, Mt.runs_len] at this
    refine ⟨_, rfl, _, rfl, ?_⟩
    refine ⟨_, rfl, p, _, rfl, .inl hp, _, rfl, ?_⟩
    refine ⟨by omega, by omega, ?_⟩
    refine for_range (lo := 0) (n := xs.length) (fun i σ' H' => ∃ v u o1, σ' = [some (.str (nm k8)), some (.ref p), some (.ref q), some v0, some v, some u, o1] ∧ Same H H' ∧ Dp K H' v (wD (onE k8 (Mt.wh k8 (l.take i)).1 (Mt.wh k8 (l.take i)).2 ms)) ∧ Dp K H' u (wD (onE k8 (Mt.wh k8 (l.take i)).1 (Mt.wh k8 (l.take i)).2 ms))) ⟨v0, v0, none, rfl, .refl _, ?_, ?_⟩ ?_ ?_
    · have : onE k8 false [] ms = ms := by show Km.pl k8 (ms ++ []) = ms; rw [List.append_nil, pm]
      show Dp K H v0 (wD (onE k8 false [] ms))
      rw [this]
      exact h0
    · have : onE k8 false [] ms = ms := by show Km.pl k8 (ms ++ []) = ms; rw [List.append_nil, pm]
      show Dp K H v0 (wD (onE k8 false [] ms))
      rw [this]
      exact h0
    · rintro i σ' H' hi ⟨v, u, o1, rfl, s, hv, hu⟩
      rw [Int.zero_add]
      obtain ⟨x, hxi⟩ : ∃ x, xs[i]? = some x := ⟨_, List.getElem?_eq_getElem hi⟩
      obtain ⟨y, hyi⟩ : ∃ y, ys[i]? = some y := ⟨_, List.getElem?_eq_getElem (by omega)⟩
      obtain ⟨e, he, hE⟩ := Mt.get_eff (dpa_same s hx) hxi
      obtain ⟨d, hd, hF⟩ := Mt.get_eff (dpa_same s hy) hyi
      obtain ⟨le1, pe⟩ := le e (List.mem_of_getElem? he)
      rw [Mt.runs_get he] at hd
      have hd := Option.some.inj hd
      subst hd
      have lwi := lw i
      have lwj := lw (i + 1)
      have on2 : onE k8 e.1 e.2 (onE k8 (Mt.wh k8 (l.take i)).1 (Mt.wh k8 (l.take i)).2 ms) = onE k8 (Mt.wh k8 (l.take (i + 1))).1 (Mt.wh k8 (l.take (i + 1))).2 ms := by
        rw [Mt.wh_snoc he]
        exact Mt.on_step k8 (Mt.wh_nrm k8 (l.take i)).pl pe ms
      have lo := on_ln (k := k8) (e := Mt.wh k8 (l.take i)) (s := ms)
      refine ⟨_, rfl, _, rfl, _, rfl, p, xs, _, x, rfl, rfl, s.seq hp, atI_nat hxi, _, rfl, k8, x, v, e.1, e.2, _, rfl, hE, hv, by omega, fun v2 H2 s2 hv2 => ?_⟩
      have s02 := s.trans s2
      refine ⟨_, rfl, _, rfl, _, rfl, p, xs, _, x, rfl, rfl, s02.seq hp, atI_nat hxi, _, rfl, k8, x, u, e.1, e.2, _, rfl, dp_same s2 hE, dp_same s2 hu, by omega, fun u2 H3 s3 hu2 => ?_⟩
      have s03 := s02.trans s3
      rw [on2] at hv2 hu2
      have lo2 := on_ln (k := k8) (e := Mt.wh k8 (l.take (i + 1))) (s := ms)
      have hv3 := dp_same s3 hv2
      refine ⟨_, rfl, v2, _, rfl, hv3, (fun ds e => by cases e; rw [List.length_map]; omega), fun H4 s4 => ⟨_, rfl, ?_⟩⟩
      refine ifF (by rw [isWd_ints] <;> rfl) ?_
      refine ⟨_, rfl, _, rfl, _, _, dp_same s4 hv3, dp_same s4 hu2, shaped_w _, shaped_w _, _, rfl, ?_⟩
      refine ifF (by rw [eqv_self (shaped_w _)] <;> rfl) ?_
      have s04 := s03.trans s4
      refine ⟨_, rfl, _, rfl, _, rfl, q, ys, _, y, rfl, rfl, s04.seq hq, atI_nat hyi, _, rfl, k8, y, v0, _, _, ms, rfl, dp_same ((s2.trans s3).trans s4) hF, dp_same s04 h0, by omega, fun v5 H5 s5 hv5 => ?_⟩
      refine ⟨_, rfl, _, _, hv5, dp_same (s4.trans s5) hu2, shaped_w _, shaped_w _, _, rfl, ?_⟩
      exact ifF (by rw [eqv_self (shaped_w _)] <;> rfl) ⟨_, _, _, rfl, s04.trans s5, dp_same (s4.trans s5) hv3, dp_same (s4.trans s5) hu2⟩
    · rintro σ' H' ⟨v, u, o1, rfl, s, _⟩
      exact k H' s
/-! ### _law_lower_kind -/
theorem und_list (k : Km.Kd8) : Km.undB k .list = true := by cases k <;> decide +kernel
theorem und_self (k : Km.Kd8) : Km.undB k k = true := by cases k <;> decide +kernel
def sp__law_lower_kind (K : PySem.W.Frag) : Sp := fun vs H Q _ => ∃ (S c : Addr) (k2 : Km.Kd8), vs = [.ref S, .str (nm k2)] ∧ Stm S c H ∧ ∀ (k1 : Km.Kd8) H', Ext S H H' → Stm S c H' → Km.undB k1 k2 = true → Q (.str (nm k1)) H'
theorem ok__law_lower_kind (T : Txt P K mg A') : FnOk P w K mg base CX0 4 A'.f__law_lower_kind A'.fd__law_lower_kind ["_law_stream_here", "_law_wide"] (sp__law_lower_kind K) := by
  refine Hk.okN T.F__law_lower_kind sc__law_lower_kind (fun vs H Q E h => ?_) (fun cdv A outer s H vs Q E hr h => ?_)
  · obtain ⟨S, c, k2, rfl, _⟩ := h
    rfl
  · obtain ⟨S, c, k2, rfl, hS, k⟩ := h
    refine ⟨_, (pss_cons (ps_set (i := 2) sc__law_lower_kind.nd rfl (Or.inl rfl) (pe_lst (pa_cons (pv 1) pa_nil)))
    (Evl.pss_cut (ps_if (pt_cmpR op_eq (pv 1) pe_str (nomark _)) (pss_one (ps_set (i := 2) sc__law_lower_kind.nd rfl (Or.inl rfl) (pe_lst (pa_cons pe_str (pa_cons pe_str (pa_cons pe_str (pa_cons pe_str (pa_cons pe_str (pa_cons pe_str (pa_cons pe_str (pa_cons pe_str pa_nil))))))))))) pss_nil)
    (Evl.pss_cut (ps_if (pt_cmpR op_in_seq (pv 1) (pe_tup (pa_cons pe_str (pa_cons pe_str (pa_cons pe_str pa_nil)))) (by rfl)) (pss_one (ps_set (i := 2) sc__law_lower_kind.nd rfl (Or.inl rfl) (pe_op op_cat (pv 2) (pe_lst (pa_cons pe_str pa_nil))))) pss_nil)
    (Evl.pss_cut (ps_if (pt_cmpR op_in_seq (pv 1) (pe_tup (pa_cons pe_str (pa_cons pe_str pa_nil))) (by rfl)) (pss_one (ps_set (i := 2) sc__law_lower_kind.nd rfl (Or.inl rfl) (pe_op op_cat (pv 2) (pe_lst (pa_cons pe_str pa_nil))))) pss_nil)
    (Evl.pss_cut (ps_if (pt_cmpR op_in_seq (pv 1) (pe_tup (pa_cons pe_str (pa_cons pe_str pa_nil))) (by rfl)) (pss_one (ps_set (i := 2) sc__law_lower_kind.nd rfl (Or.inl rfl) (pe_op op_cat (pv 2) (pe_lst (pa_cons pe_str pa_nil))))) pss_nil)
    (pss_one (ps_ret (pe_ix ix_list (pv 2) (pe_call (ok__law_pick T) (hr.mono (by decide)) rfl T.g__law_pick T.F__law_pick.kp T.b__law_pick .nil pass0 (pa_cons (pv 0) (pa_cons (pe_callB call_len_seq (by rfl) T.z_len (by decide +kernel) (pa_cons (pv 2) pa_nil)) pa_nil))) (fun _ _ => rfl))))))))), ?_⟩
    have one : 1 ≤ sizeLine := by decide
    have two : 2 ≤ sizeLine := by decide
    have three : 3 ≤ sizeLine := by decide
    have eight : 8 ≤ sizeLine := by decide
    refine ⟨_, rfl, one, fun b nb => ?_⟩
    have hS0 := stm_new (o := .lst [.str (nm k2)]) hS nb
    refine ⟨fun σ' H' => ∃ b ks, σ' = [some (.ref S), some (.str (nm k2)), some (.ref b)] ∧ Ext S H H' ∧ Stm S c H' ∧ b ≠ S ∧ H' b = some (.lst (List.map (fun k => V.str (nm k)) ks)) ∧ 0 < ks.length ∧ ks.length ≤ 8 ∧ ∀ k1 ∈ ks, Km.undB k1 k2 = true, ?_, ?_⟩
    · refine ⟨_, rfl, rfl, _, rfl, ?_⟩
      refine if2 (fun c0 => ?_) (fun c0 => ?_)
      · have e0 := nm_of (k' := .list) c0
        refine ⟨eight, fun D nD => ⟨D, Mr.all8, rfl, (Ext.of (same_new nb)).trans (.of (same_new nD)), stm_new hS0 nD, ext_ne hS0 nD, upd_same, by decide, by decide, fun k1 _ => by rw [e0]; exact und_list k1⟩⟩
      · exact ⟨b, [k2], rfl, .of (same_new nb), hS0, ext_ne hS nb, upd_same, by simp, by simp, fun k1 h1 => by rw [List.mem_singleton.mp h1]; exact und_self k2⟩
    rintro σ0 H0 ⟨b0, ks, rfl, e, hSn, nbS, hb, pos, hl, hu⟩
    refine ⟨fun σ' H' => ∃ b ks, σ' = [some (.ref S), some (.str (nm k2)), some (.ref b)] ∧ Ext S H H' ∧ Stm S c H' ∧ b ≠ S ∧ H' b = some (.lst (List.map (fun k => V.str (nm k)) ks)) ∧ 0 < ks.length ∧ ks.length ≤ 9 ∧ ∀ k1 ∈ ks, Km.undB k1 k2 = true, ?_, ?_⟩
    · refine ⟨_, rfl, three, fun t nt => ⟨t, _, rfl, .inr (.inl (.inl upd_same)), rfl, rfl, _, rfl, ?_⟩⟩
      have et := e.trans (Ext.of (same_new (o := .tup [.str "bag", .str "heads", .str "tails"]) nt))
      have hSt := stm_new (o := .tup [.str "bag", .str "heads", .str "tails"]) hSn nt
      have hbt : (upd H0 t (.tup [.str "bag", .str "heads", .str "tails"])) b0 = some (.lst (List.map (fun k => V.str (nm k)) ks)) := same_new nt _ _ hb
      generalize upd H0 t (.tup [.str "bag", .str "heads", .str "tails"]) = J at *
      refine if2 (fun c0 => ?_) (fun c0 => ⟨b0, ks, rfl, et, hSt, nbS, hbt, pos, by omega, hu⟩)
      refine ⟨_, rfl, one, fun D nD => ⟨b0, D, _, _, rfl, rfl, same_new nD _ _ hbt, upd_same, ?_, fun p np => ?_⟩⟩
      · rw [List.length_map]
        exact Nat.le_of_lt (small1000 (show ks.length + 1 ≤ 1000 by omega))
      · refine ⟨p, ks ++ [.set], rfl, (et.trans (.of (same_new nD))).trans (.of (same_new np)), stm_new (stm_new hSt nD) np, ext_ne (stm_new hSt nD) np, ?_, ?_, ?_, fun k1 h1 => ?_⟩
        · rw [upd_same, List.map_append] <;> rfl
        · rw [List.length_append]; omega
        · rw [List.length_append]; show ks.length + 1 ≤ _; omega
        · rcases List.mem_append.mp h1 with h1 | h1
          · exact hu k1 h1
          · rw [List.mem_singleton.mp h1]
            cases k2 <;> first | rfl | (exact absurd c0 (by decide +kernel))
    rintro σ1 H1 ⟨b1, ks, rfl, e, hSn, nbS, hb, pos, hl, hu⟩
    refine ⟨fun σ' H' => ∃ b ks, σ' = [some (.ref S), some (.str (nm k2)), some (.ref b)] ∧ Ext S H H' ∧ Stm S c H' ∧ b ≠ S ∧ H' b = some (.lst (List.map (fun k => V.str (nm k)) ks)) ∧ 0 < ks.length ∧ ks.length ≤ 10 ∧ ∀ k1 ∈ ks, Km.undB k1 k2 = true, ?_, ?_⟩
    · refine ⟨_, rfl, two, fun t nt => ⟨t, _, rfl, .inr (.inl (.inl upd_same)), rfl, rfl, _, rfl, ?_⟩⟩
      have et := e.trans (Ext.of (same_new (o := .tup [.str "ends", .str "heads"]) nt))
      have hSt := stm_new (o := .tup [.str "ends", .str "heads"]) hSn nt
      have hbt : (upd H1 t (.tup [.str "ends", .str "heads"])) b1 = some (.lst (List.map (fun k => V.str (nm k)) ks)) := same_new nt _ _ hb
      generalize upd H1 t (.tup [.str "ends", .str "heads"]) = J at *
      refine if2 (fun c0 => ?_) (fun c0 => ⟨b1, ks, rfl, et, hSt, nbS, hbt, pos, by omega, hu⟩)
      refine ⟨_, rfl, one, fun D nD => ⟨b1, D, _, _, rfl, rfl, same_new nD _ _ hbt, upd_same, ?_, fun p np => ?_⟩⟩
      · rw [List.length_map]
        exact Nat.le_of_lt (small1000 (show ks.length + 1 ≤ 1000 by omega))
      · refine ⟨p, ks ++ [.first], rfl, (et.trans (.of (same_new nD))).trans (.of (same_new np)), stm_new (stm_new hSt nD) np, ext_ne (stm_new hSt nD) np, ?_, ?_, ?_, fun k1 h1 => ?_⟩
        · rw [upd_same, List.map_append] <;> rfl
        · rw [List.length_append]; omega
        · rw [List.length_append]; show ks.length + 1 ≤ _; omega
        · rcases List.mem_append.mp h1 with h1 | h1
          · exact hu k1 h1
          · rw [List.mem_singleton.mp h1]
            cases k2 <;> first | rfl | (exact absurd c0 (by decide +kernel))
    rintro σ2 H2 ⟨b2, ks, rfl, e, hSn, nbS, hb, pos, hl, hu⟩
    refine ⟨fun σ' H' => ∃ b ks, σ' = [some (.ref S), some (.str (nm k2)), some (.ref b)] ∧ Ext S H H' ∧ Stm S c H' ∧ b ≠ S ∧ H' b = some (.lst (List.map (fun k => V.str (nm k)) ks)) ∧ 0 < ks.length ∧ ks.length ≤ 11 ∧ ∀ k1 ∈ ks, Km.undB k1 k2 = true, ?_, ?_⟩
    · refine ⟨_, rfl, two, fun t nt => ⟨t, _, rfl, .inr (.inl (.inl upd_same)), rfl, rfl, _, rfl, ?_⟩⟩
      have et := e.trans (Ext.of (same_new (o := .tup [.str "ends", .str "tails"]) nt))
      have hSt := stm_new (o := .tup [.str "ends", .str "tails"]) hSn nt
      have hbt : (upd H2 t (.tup [.str "ends", .str "tails"])) b2 = some (.lst (List.map (fun k => V.str (nm k)) ks)) := same_new nt _ _ hb
      generalize upd H2 t (.tup [.str "ends", .str "tails"]) = J at *
      refine if2 (fun c0 => ?_) (fun c0 => ⟨b2, ks, rfl, et, hSt, nbS, hbt, pos, by omega, hu⟩)
      refine ⟨_, rfl, one, fun D nD => ⟨b2, D, _, _, rfl, rfl, same_new nD _ _ hbt, upd_same, ?_, fun p np => ?_⟩⟩
      · rw [List.length_map]
        exact Nat.le_of_lt (small1000 (show ks.length + 1 ≤ 1000 by omega))
      · refine ⟨p, ks ++ [.last], rfl, (et.trans (.of (same_new nD))).trans (.of (same_new np)), stm_new (stm_new hSt nD) np, ext_ne (stm_new hSt nD) np, ?_, ?_, ?_, fun k1 h1 => ?_⟩
        · rw [upd_same, List.map_append] <;> rfl
        · rw [List.length_append]; omega
        · rw [List.length_append]; show ks.length + 1 ≤ _; omega
        · rcases List.mem_append.mp h1 with h1 | h1
          · exact hu k1 h1
          · rw [List.mem_singleton.mp h1]
            cases k2 <;> first | rfl | (exact absurd c0 (by decide +kernel))
    rintro σ3 H3 ⟨b3, ks, rfl, e, hSn, nbS, hb, pos, hl, hu⟩
    refine ⟨_, rfl, _, rfl, _, rfl, b3, _, rfl, .inl (SqL.of hb), S, c, _, rfl, hSn, (by rw [List.length_map]; omega), fun r H4 a4 c4 _ hS4 e4 => ?_⟩
    rw [List.length_map] at c4
    obtain ⟨j, rfl⟩ := Int.eq_ofNat_of_zero_le a4
    have hj : j < ks.length := by omega
    refine ⟨b3, _, _, .str (nm ks[j]), rfl, rfl, SqL.of (e4 _ _ nbS hb), atI_nat (by rw [List.getElem?_map, List.getElem?_eq_getElem hj] <;> rfl), ?_⟩
    exact k _ _ (e.trans e4) hS4 (hu _ (List.getElem_mem hj))
/-! ### kind_named__bad -/

theorem ok_kind_named__bad (T : Txt P K mg A') : FnOk P w K mg base (L2.CX P w) 5 A'.f_kind_named A'.fd_kind_named ["name"] (spBad K A'.c_BadKind 0) := by
  refine Hk.okX T.F_kind_named sc_kind_named (fun vs H Q E h => ?_) (fun cdv A outer s H vs Q E hr h => ?_)
  · obtain ⟨v, d, rest, rfl, e, _⟩ := h
    exact congrArg Nat.succ e
  · obtain ⟨v, d, rest, rfl, e, hd, hs, hb, k⟩ := h
    cases List.length_eq_zero_iff.mp e
    refine ⟨_, (pss_cons (ps_expr (pe_call (ok_check_kind__bad T) (hr.mono (by decide)) rfl T.g_check_kind T.F_check_kind.kp T.b_check_kind .nil (Kc.passT (takes_of rfl rfl rfl rfl)) (pa_cons (pv 0) pa_nil)))
    (pss_cons Kd.ps_dead
    (pss_cons Kd.ps_dead
    (pss_cons Kd.ps_dead
    (pss_cons Kd.ps_dead
    (pss_cons Kd.ps_dead
    (pss_cons Kd.ps_dead
    (pss_cons Kd.ps_dead
    (pss_one Kd.ps_dead))))))))), ?_⟩
    exact ⟨_, rfl, v, d, [], rfl, rfl, hd, hs, hb, k⟩
/-! ### under -/

theorem ok_under (T : Txt P K mg A') : FnOk P w K mg base (L2.CX P w) 5 A'.f_under A'.fd_under ["one", "other"] (spBad K A'.c_BadKind 1) := by
  refine Hk.okX T.F_under sc_under (fun vs H Q E h => ?_) (fun cdv A outer s H vs Q E hr h => ?_)
  · obtain ⟨v, d, rest, rfl, e, _⟩ := h
    exact congrArg Nat.succ e
  · obtain ⟨v, d, rest, rfl, e, hd, hs, hb, k⟩ := h
    obtain ⟨r1, rfl⟩ := Ms.len1 e
    refine ⟨_, (pss_cons (ps_expr (pe_call (ok_check_kind__bad T) (hr.mono (by decide)) rfl T.g_check_kind T.F_check_kind.kp T.b_check_kind .nil (Kc.passT (takes_of rfl rfl rfl rfl)) (pa_cons (pv 0) pa_nil)))
    (pss_cons Kd.ps_dead
    (pss_one Kd.ps_dead))), ?_⟩
    exact ⟨_, rfl, v, d, [], rfl, rfl, hd, hs, hb, k⟩
/-! ### under__bad -/

theorem ok_under__bad (T : Txt P K mg A') : FnOk P w K mg base (L2.CX P w) 5 A'.f_under A'.fd_under ["one", "other"] (spBad2 K A'.c_BadKind) := by
  refine Hk.okX T.F_under sc_under (fun vs H Q E h => ?_) (fun cdv A outer s H vs Q E hr h => ?_)
  · obtain ⟨k8, v, d, rfl, _⟩ := h
    rfl
  · obtain ⟨k8, v, d, rfl, hd, hs, hb, k⟩ := h
    refine ⟨_, (pss_cons (ps_expr (pe_call (ok_check_kind T) (hr.mono (by decide)) rfl T.g_check_kind T.F_check_kind.kp T.b_check_kind .nil pass0 (pa_cons (pv 0) pa_nil)))
    (pss_cons (ps_expr (pe_call (ok_check_kind__bad T) (hr.mono (by decide)) rfl T.g_check_kind T.F_check_kind.kp T.b_check_kind .nil (Kc.passT (takes_of rfl rfl rfl rfl)) (pa_cons (pv 1) pa_nil)))
    (pss_one Kd.ps_dead))), ?_⟩
    exact ⟨_, rfl, k8, rfl, _, rfl, v, d, [], rfl, rfl, hd, hs, hb, k⟩
/-! ### is_effect__bad -/

theorem ok_is_effect__bad (T : Txt P K mg A') : FnOk P w K mg base (L2.CX P w) 5 A'.f_is_effect A'.fd_is_effect ["kind", "thing"] (spBad K A'.c_BadKind 1) := by
  refine Hk.okX T.F_is_effect sc_is_effect (fun vs H Q E h => ?_) (fun cdv A outer s H vs Q E hr h => ?_)
  · obtain ⟨v, d, rest, rfl, e, _⟩ := h
    exact congrArg Nat.succ e
  · obtain ⟨v, d, rest, rfl, e, hd, hs, hb, k⟩ := h
    obtain ⟨r1, rfl⟩ := Ms.len1 e
    refine ⟨_, (pss_cons (ps_expr (pe_call (ok_check_kind__bad T) (hr.mono (by decide)) rfl T.g_check_kind T.F_check_kind.kp T.b_check_kind .nil (Kc.passT (takes_of rfl rfl rfl rfl)) (pa_cons (pv 0) pa_nil)))
    (pss_cons Kd.ps_dead
    (pss_one Kd.ps_dead))), ?_⟩
    exact ⟨_, rfl, v, d, [], rfl, rfl, hd, hs, hb, k⟩
/-! ### normal__bad -/

theorem ok_normal__bad (T : Txt P K mg A') : FnOk P w K mg base (L2.CX P w) 5 A'.f_normal A'.fd_normal ["kind", "effect"] (spBad K A'.c_BadKind 1) := by
  refine Hk.okX T.F_normal sc_normal (fun vs H Q E h => ?_) (fun cdv A outer s H vs Q E hr h => ?_)
  · obtain ⟨v, d, rest, rfl, e, _⟩ := h
    exact congrArg Nat.succ e
  · obtain ⟨v, d, rest, rfl, e, hd, hs, hb, k⟩ := h
    obtain ⟨r1, rfl⟩ := Ms.len1 e
    refine ⟨_, (pss_cons (ps_expr (pe_call (ok_check_kind__bad T) (hr.mono (by decide)) rfl T.g_check_kind T.F_check_kind.kp T.b_check_kind .nil (Kc.passT (takes_of rfl rfl rfl rfl)) (pa_cons (pv 0) pa_nil)))
    (pss_cons Kd.ps_dead
    (pss_cons Kd.ps_dead
    (pss_one Kd.ps_dead)))), ?_⟩
    exact ⟨_, rfl, v, d, [], rfl, rfl, hd, hs, hb, k⟩
/-! ### check_effects -/
/-- a row of things: all effects, or the first that is none at place i -/
def badE (k : Km.Kd8) (ds : List PyData) : Option Nat := ds.findIdx? fun d => !isEf k d
def sp_check_effects (K : PySem.W.Frag) (A' : Ad) : Sp := fun vs H Q E => ∃ (k8 : Km.Kd8) (p : Addr) (xs : List V) (ds : List PyData), vs = [.str (nm k8), .ref p] ∧ Sq K H p xs ∧ DpAll K H xs ds ∧ (∀ d ∈ ds, ∀ a b, d = .tuple [a, b] → few b) ∧
  (badE k8 ds = none → ∀ H', Same H H' → Q .non H') ∧
  (∀ i : Nat, badE k8 ds = some i → ∀ dx H', Same H H' → H' dx = some (.xd [("place", .int i)]) → E (.ref A'.c_BadEffect) (some dx) H')
theorem shOk_i8 (i : Int) : shOk (.int i) := ⟨fun x h => (by cases h), fun x h => (by cases h)⟩
theorem ok_check_effects (T : Txt P K mg A') : FnOk P w K mg base (L2.CX P w) 5 A'.f_check_effects A'.fd_check_effects ["kind", "row"] (sp_check_effects K A') := by
  refine Hk.okX T.F_check_effects sc_check_effects (fun vs H Q E h => ?_) (fun cdv A outer s H vs Q E hr h => ?_)
  · obtain ⟨k8, p, xs, ds, rfl, _⟩ := h
    rfl
  · obtain ⟨k8, p, xs, ds, rfl, hq, hds, hf, k1, k2⟩ := h
    refine ⟨_, (pss_cons (ps_expr (pe_call (ok_check_kind T) (hr.mono (by decide)) rfl T.g_check_kind T.F_check_kind.kp T.b_check_kind .nil pass0 (pa_cons (pv 0) pa_nil)))
    (pss_one (ps_for (passes_of rfl) rfl (Kd.pi_or (pi_enum (by rfl) T.z_enumerate (pa_cons (pv 1) pa_nil)) (Kc.pi_enT (by rfl) T.z_enumerate (pa_cons (pv 1) pa_nil))) (pg_tup (by rfl) (pgs_cons (pg_name (i := 2) sc_check_effects.nd rfl (Or.inl rfl)) (pgs_cons (pg_name (i := 3) sc_check_effects.nd rfl (Or.inl rfl)) pgs_nil))) (pss_one (ps_if (pt_not (pt_val (pe_call (ok_is_effect T) (hr.mono (by decide)) rfl T.g_is_effect T.F_is_effect.kp T.b_is_effect .nil pass0 (pa_cons (pv 0) (pa_cons (pv 3) pa_nil))))) (pss_one (ps_raise rfl (takes_of rfl rfl rfl rfl) (pmk_oex T.s_BadEffect.ox T.i_BadEffect T.S_PlaceFault.fn (ok_init_PlaceFault T) (hr.mono (by decide)) T.bi_PlaceFault .nil pass0 rfl T.m_BadEffect (pa_cons (pv 2) pa_nil)))) pss_nil))))), ?_⟩
    have hle : xs.length = ds.length := dpa_len hds
    refine ⟨_, rfl, k8, rfl, ?_⟩
    refine Mt.enB (xs := xs) (by rfl) hq (.refl _) (fun i σ' H' => ∃ o1 o2, σ' = [some (.str (nm k8)), some (.ref p), o1, o2] ∧ Same H H' ∧ ∀ j, j < i → ∀ y, ds[j]? = some y → isEf k8 y = true) ⟨_, _, rfl, .refl _, fun j h => absurd h (Nat.not_lt_zero _)⟩ (fun i σ' H' ⟨_, _, _, s, _⟩ => s) ?_ ?_
    · rintro i x σ' H' t hx ⟨o1, o2, rfl, s, hall⟩ nt
      obtain ⟨y, hy, hyd⟩ := dpa_get hds hx
      have st := s.trans (same_new (o := .tup [.int (i : Nat), x]) nt)
      refine ⟨t, _, rfl, .inl (.inl upd_same), rfl, .int i, [x], rfl, x, [], rfl, rfl, ?_⟩
      refine ⟨_, rfl, _, rfl, k8, x, y, rfl, dp_same st hyd, hf y (List.mem_of_getElem? hy), fun H2 s2 => ⟨_, rfl, ?_⟩⟩
      have st2 := st.trans s2
      refine if2 (fun c => ?_) (fun c => ?_)
      · have cn : isEf k8 y = false := by simpa using c
        have hb : badE k8 ds = some i := by
          unfold badE
          rw [List.findIdx?_eq_some_iff_getElem]
          obtain ⟨lt, e⟩ := List.getElem?_eq_some_iff.mp hy
          refine ⟨lt, by rw [e, cn] <;> rfl, fun j hj => ?_⟩
          rw [hall j hj _ (List.getElem?_eq_getElem (by omega))]
          simp
        refine ⟨_, rfl, (show 1 ≤ 1000 by decide), fun a na => ?_⟩
        refine ⟨a, A'.c_BadEffect, .int i, rfl, upd_same, T.s_BadEffect, ⟨.int i, .int i, shOk_i8 i⟩, fun dx nd ne => ?_⟩
        refine ⟨rfl, dx, [("place", .int i)], upd_same, ?_, ?_, ?_⟩
        · rw [upd_ne ne]
          exact upd_same
        · have := nd
          rw [upd_ne ne] at this
          exact this
        · exact k2 i hb dx _ (st2.trans (same_exc na nd ne)) upd_same
      · have cn : isEf k8 y = true := by simpa using c
        refine ⟨_, _, rfl, st2, fun j hj z hz => ?_⟩
        rcases Nat.lt_succ_iff_lt_or_eq.mp hj with h | h
        · exact hall j h z hz
        · subst h
          rw [hy] at hz
          rw [← Option.some.inj hz]
          exact cn
    · rintro σ' H' ⟨o1, o2, rfl, s, hall⟩
      refine k1 ?_ H' s
      unfold badE
      rw [List.findIdx?_eq_none_iff]
      intro x hx
      obtain ⟨j, hj⟩ := List.mem_iff_getElem?.mp hx
      rw [hall j (by rw [hle]; exact (List.getElem?_eq_some_iff.mp hj).1) x hj]
      rfl
/-! ### check_effects__bad -/

theorem ok_check_effects__bad (T : Txt P K mg A') : FnOk P w K mg base (L2.CX P w) 5 A'.f_check_effects A'.fd_check_effects ["kind", "row"] (spBad K A'.c_BadKind 1) := by
  refine Hk.okX T.F_check_effects sc_check_effects (fun vs H Q E h => ?_) (fun cdv A outer s H vs Q E hr h => ?_)
  · obtain ⟨v, d, rest, rfl, e, _⟩ := h
    exact congrArg Nat.succ e
  · obtain ⟨v, d, rest, rfl, e, hd, hs, hb, k⟩ := h
    obtain ⟨r1, rfl⟩ := Ms.len1 e
    refine ⟨_, (pss_cons (ps_expr (pe_call (ok_check_kind__bad T) (hr.mono (by decide)) rfl T.g_check_kind T.F_check_kind.kp T.b_check_kind .nil (Kc.passT (takes_of rfl rfl rfl rfl)) (pa_cons (pv 0) pa_nil)))
    (pss_one Kd.ps_dead)), ?_⟩
    exact ⟨_, rfl, v, d, [], rfl, rfl, hd, hs, hb, k⟩
/-! ### swallowed -/

theorem ok_swallowed (T : Txt P K mg A') : FnOk P w K mg base (L2.CX P w) 5 A'.f_swallowed A'.fd_swallowed ["kind", "small", "large"] (spBad K A'.c_BadKind 2) := by
  refine Hk.okX T.F_swallowed sc_swallowed (fun vs H Q E h => ?_) (fun cdv A outer s H vs Q E hr h => ?_)
  · obtain ⟨v, d, rest, rfl, e, _⟩ := h
    exact congrArg Nat.succ e
  · obtain ⟨v, d, rest, rfl, e, hd, hs, hb, k⟩ := h
    obtain ⟨r1, r2, rfl⟩ := Ms.len2 e
    refine ⟨_, (pss_cons (ps_expr (pe_call (ok_check_kind__bad T) (hr.mono (by decide)) rfl T.g_check_kind T.F_check_kind.kp T.b_check_kind .nil (Kc.passT (takes_of rfl rfl rfl rfl)) (pa_cons (pv 0) pa_nil)))
    (pss_cons Kd.ps_dead
    (pss_cons Kd.ps_dead
    (pss_cons Kd.ps_dead
    (pss_one Kd.ps_dead))))), ?_⟩
    exact ⟨_, rfl, v, d, [], rfl, rfl, hd, hs, hb, k⟩
/-! ### twice_at_once -/

theorem ok_twice_at_once (T : Txt P K mg A') : FnOk P w K mg base (L2.CX P w) 5 A'.f_twice_at_once A'.fd_twice_at_once ["kind", "word"] (spBad K A'.c_BadKind 1) := by
  refine Hk.okX T.F_twice_at_once sc_twice_at_once (fun vs H Q E h => ?_) (fun cdv A outer s H vs Q E hr h => ?_)
  · obtain ⟨v, d, rest, rfl, e, _⟩ := h
    exact congrArg Nat.succ e
  · obtain ⟨v, d, rest, rfl, e, hd, hs, hb, k⟩ := h
    obtain ⟨r1, rfl⟩ := Ms.len1 e
    refine ⟨_, (pss_cons (ps_expr (pe_call (ok_check_kind__bad T) (hr.mono (by decide)) rfl T.g_check_kind T.F_check_kind.kp T.b_check_kind .nil (Kc.passT (takes_of rfl rfl rfl rfl)) (pa_cons (pv 0) pa_nil)))
    (pss_one Kd.ps_dead)), ?_⟩
    exact ⟨_, rfl, v, d, [], rfl, rfl, hd, hs, hb, k⟩
/-! ### twice_later -/

theorem ok_twice_later (T : Txt P K mg A') : FnOk P w K mg base (L2.CX P w) 5 A'.f_twice_later A'.fd_twice_later ["kind", "word"] (spBad K A'.c_BadKind 1) := by
  refine Hk.okX T.F_twice_later sc_twice_later (fun vs H Q E h => ?_) (fun cdv A outer s H vs Q E hr h => ?_)
  · obtain ⟨v, d, rest, rfl, e, _⟩ := h
    exact congrArg Nat.succ e
  · obtain ⟨v, d, rest, rfl, e, hd, hs, hb, k⟩ := h
    obtain ⟨r1, rfl⟩ := Ms.len1 e
    refine ⟨_, (pss_cons (ps_expr (pe_call (ok_check_kind__bad T) (hr.mono (by decide)) rfl T.g_check_kind T.F_check_kind.kp T.b_check_kind .nil (Kc.passT (takes_of rfl rfl rfl rfl)) (pa_cons (pv 0) pa_nil)))
    (pss_one Kd.ps_dead)), ?_⟩
    exact ⟨_, rfl, v, d, [], rfl, rfl, hd, hs, hb, k⟩
/-! ### twice_earlier -/

theorem ok_twice_earlier (T : Txt P K mg A') : FnOk P w K mg base (L2.CX P w) 5 A'.f_twice_earlier A'.fd_twice_earlier ["kind", "word"] (spBad K A'.c_BadKind 1) := by
  refine Hk.okX T.F_twice_earlier sc_twice_earlier (fun vs H Q E h => ?_) (fun cdv A outer s H vs Q E hr h => ?_)
  · obtain ⟨v, d, rest, rfl, e, _⟩ := h
    exact congrArg Nat.succ e
  · obtain ⟨v, d, rest, rfl, e, hd, hs, hb, k⟩ := h
    obtain ⟨r1, rfl⟩ := Ms.len1 e
    refine ⟨_, (pss_cons (ps_expr (pe_call (ok_check_kind__bad T) (hr.mono (by decide)) rfl T.g_check_kind T.F_check_kind.kp T.b_check_kind .nil (Kc.passT (takes_of rfl rfl rfl rfl)) (pa_cons (pv 0) pa_nil)))
    (pss_one Kd.ps_dead)), ?_⟩
    exact ⟨_, rfl, v, d, [], rfl, rfl, hd, hs, hb, k⟩
/-! ### _law_near -/
def sp__law_near (K : PySem.W.Frag) : Sp := fun vs H Q _ => ∃ (S c G : Addr) (w : V) (gs ns : List Int), vs = [.ref S, .ref G, w] ∧ Stm S c H ∧ Lets S c G gs H ∧ Dp K H w (wD ns) ∧ ns.length ≤ 200 ∧ (∀ x ∈ ns, x ∈ gs) ∧
  ∀ (v : V) (ms : List Int) H', Ext S H H' → Stm S c H' → Dp K H' v (wD ms) → ms.length ≤ ns.length + 7 → (∀ x ∈ ms, x ∈ gs) → Q v H'
theorem ok__law_near (T : Txt P K mg A') : FnOk P w K mg base CX0 5 A'.f__law_near A'.fd__law_near ["_law_stream_here", "_law_letters_here", "_law_word"] (sp__law_near K) := by
  refine Hk.okN T.F__law_near sc__law_near (fun vs H Q E h => ?_) (fun cdv A outer s H vs Q E hr h => ?_)
  · obtain ⟨S, c, G, w, gs, ns, rfl, _⟩ := h
    rfl
  · obtain ⟨S, c, G, w, gs, ns, rfl, hS, hG, hw, hz, hin, k⟩ := h
    obtain ⟨t, rfl, ht0⟩ := w_inv hw
    refine ⟨_, (pss_cons (ps_set (i := 3) sc__law_near.nd rfl (Or.inl rfl) (pe_call (ok__law_pick T) (hr.mono (by decide)) rfl T.g__law_pick T.F__law_pick.kp T.b__law_pick .nil pass0 (pa_cons (pv 0) (pa_cons pe_int pa_nil))))
    (pss_cons (ps_if (pt_cmpR op_lt (pv 3) pe_int (nomark _)) (pss_one (ps_ret (pv 2))) pss_nil)
    (pss_cons (ps_if (pt_cmpR op_eq (pv 3) pe_int (nomark _)) (pss_one (ps_ret (pe_slice sl_tupA (pv 2) (po_some pe_int) po_none))) pss_nil)
    (pss_cons (ps_if (pt_cmpR op_eq (pv 3) pe_int (nomark _)) (pss_one (ps_ret (pe_slice sl_tupA (pv 2) po_none (po_some (pe_callB (call_max2 rfl) (by rfl) T.z_max (by decide +kernel) (pa_cons pe_int (pa_cons (pe_op op_sub (pe_callB call_len_seq (by rfl) T.z_len (by decide +kernel) (pa_cons (pv 2) pa_nil)) pe_int) pa_nil))))))) pss_nil)
    (pss_cons (ps_if (pt_cmpR op_eq (pv 3) pe_int (nomark _)) (pss_one (ps_ret (Kd.pe_revT (pv 2)))) pss_nil)
    (pss_cons (ps_set (i := 4) sc__law_near.nd rfl (Or.inl rfl) (pe_call (ok__law_raw T) (hr.mono (by decide)) rfl T.g__law_raw T.F__law_raw.kp T.b__law_raw .nil pass0 (pa_cons (pv 0) (pa_cons (pv 1) pa_nil))))
    (pss_cons (ps_if (PW.pt (pw_or (pt_cmpR op_eq (pv 3) pe_int (nomark _)) (pw_or1 (pt_cmpR op_eq (pv 3) pe_int (nomark _))))) (pss_one (ps_ret (pe_op op_catA (pv 2) (pv 4)))) pss_nil)
    (pss_cons (ps_if (pt_cmpR op_eq (pv 3) pe_int (nomark _)) (pss_one (ps_ret (pe_op op_catA (pv 4) (pv 2)))) pss_nil)
    (pss_cons (ps_if (PW.pt (pw_and (pt_cmpR op_eq (pv 3) pe_int (nomark _)) (pw_and1 (pt_cmpR op_gt (pe_callB call_len_seq (by rfl) T.z_len (by decide +kernel) (pa_cons (pv 2) pa_nil)) pe_int (nomark _))))) (pss_cons (ps_set (i := 5) sc__law_near.nd rfl (Or.inl rfl) (pe_call (ok__law_pick T) (hr.mono (by decide)) rfl T.g__law_pick T.F__law_pick.kp T.b__law_pick .nil pass0 (pa_cons (pv 0) (pa_cons (pe_callB call_len_seq (by rfl) T.z_len (by decide +kernel) (pa_cons (pv 2) pa_nil)) pa_nil))))
    (pss_one (ps_ret (pe_op op_catA (pe_op op_catA (pe_slice sl_tupA (pv 2) po_none (po_some (pv 5))) (pe_tup (pa_cons (pe_ix ix_list (pv 1) (pe_call (ok__law_pick T) (hr.mono (by decide)) rfl T.g__law_pick T.F__law_pick.kp T.b__law_pick .nil pass0 (pa_cons (pv 0) (pa_cons (pe_callB call_len_seq (by rfl) T.z_len (by decide +kernel) (pa_cons (pv 1) pa_nil)) pa_nil))) (fun _ _ => rfl)) pa_nil))) (pe_slice sl_tupA (pv 2) (po_some (pe_op op_add (pv 5) pe_int)) po_none))))) pss_nil)
    (pss_one (ps_ret (pv 4)))))))))))), ?_⟩
    refine ⟨_, rfl, S, c, 10, rfl, hS, by decide, fun r H1 a1 b1 _ hS1 e1 => ?_⟩
    have hG1 := hG.ext e1
    have ht1 := sqt_ext hS e1 ht0
    refine ⟨_, rfl, _, _, rfl, rfl, _, rfl, ?_⟩
    refine if2 (fun _ => ⟨_, rfl, k _ ns _ e1 hS1 (w_mk ht1) (by omega) hin⟩) (fun _ => ?_)
    refine ⟨_, rfl, rfl, _, rfl, ?_⟩
    refine if2 (fun _ => ⟨_, rfl, 1, rfl, slA_fin ht1 fun q H2 s2 h2 => k _ _ _ (e1.trans (.of s2)) (stm_same hS1 s2) (w_mk h2) (by have := (cut_sub ns (some 1) none).1; omega) (fun x hx => hin x ((cut_sub ns _ _).2 x hx))⟩) (fun _ => ?_)
    refine ⟨_, rfl, rfl, _, rfl, ?_⟩
    refine if2 (fun _ => ⟨_, rfl, _, rfl, t, _, rfl, .inr ht1, _, _, rfl, rfl, _, _, rfl, _, rfl, slA_fin ht1 fun q H2 s2 h2 => k _ _ _ (e1.trans (.of s2)) (stm_same hS1 s2) (w_mk h2) (Nat.le_trans (cut_sub ns _ _).1 (by omega)) (fun x hx => hin x ((cut_sub ns _ _).2 x hx))⟩) (fun _ => ?_)
    refine ⟨_, rfl, rfl, _, rfl, ?_⟩
    refine if2 (fun _ => ⟨_, rfl, t, _, rfl, ht1, fun q nq => k _ ns.reverse _ (e1.trans (.new nq)) (stm_new hS1 nq) (by rw [← List.map_reverse]; exact w_new nq) (by rw [List.length_reverse]; omega) (fun x hx => hin x (List.mem_reverse.mp hx))⟩) (fun _ => ?_)
    refine ⟨_, rfl, _, rfl, S, c, G, gs, rfl, hS1, hG1, fun v ns2 H2 e2 hS2 hv hl2 hin2 => ?_⟩
    obtain ⟨u, rfl, hu⟩ := w_inv hv
    have ht2 := sqt_ext hS1 e2 ht1
    have hG2 := hG1.ext e2
    have e12 := e1.trans e2
    have both : ∀ x, x ∈ ns ++ ns2 → x ∈ gs := fun x hx => (List.mem_append.mp hx).elim (hin x) (hin2 x)
    have fA : rCatA K (.ref t) (.ref u) H2 Q := cat_fin ht2 hu (by omega) fun q H3 s3 h3 => k _ _ _ (e12.trans (.of s3)) (stm_same hS2 s3) (w_mk h3) (by rw [List.length_append]; omega) both
    refine ⟨_, rfl, rfl, _, rfl, ?_⟩
    refine if2 (fun _ => ⟨_, rfl, _, rfl, fA⟩) (fun _ => ?_)
    refine ⟨_, rfl, rfl, _, rfl, ?_⟩
    refine if2 (fun _ => ⟨_, rfl, _, rfl, fA⟩) (fun _ => ?_)
    refine ⟨_, rfl, rfl, _, rfl, ?_⟩
    refine if2 (fun _ => ⟨_, rfl, _, rfl, cat_fin hu ht2 (by omega) fun q H3 s3 h3 => k _ _ _ (e12.trans (.of s3)) (stm_same hS2 s3) (w_mk h3) (by rw [List.length_append]; omega) (fun x hx => (List.mem_append.mp hx).elim (hin2 x) (hin x))⟩) (fun _ => ?_)
    have last : ∀ H', H' = H2 → Q (.ref u) H' := fun H' e => by rw [e]; exact k _ ns2 _ e12 hS2 (w_mk hu) (by omega) hin2
    refine ⟨_, rfl, rfl, _, rfl, ?_⟩
    refine if2 (fun _ => ?_) (fun _ => ⟨_, rfl, last _ rfl⟩)
    refine ⟨_, rfl, t, _, rfl, .inr ht2, _, _, rfl, rfl, _, rfl, ?_⟩
    refine if2 (fun cl => ?_) (fun _ => ⟨_, rfl, last _ rfl⟩)
    have hl0 : 0 < ns.length := by
      have z := of_decide_eq_true cl
      rw [List.length_map] at z
      omega
    refine ⟨_, rfl, _, rfl, t, _, rfl, .inr ht2, S, c, _, rfl, hS2, (by rw [List.length_map]; omega), fun at' H3 a3 b3 _ hS3 e3 => ?_⟩
    rw [List.length_map] at b3
    have ht3 := sqt_ext hS2 e3 ht2
    have hG3 := hG2.ext e3
    obtain ⟨n, rfl⟩ := Int.eq_ofNat_of_zero_le a3
    refine ⟨_, rfl, _, rfl, _, rfl, slA_fin ht3 fun q H4 s4 h4 => ?_⟩
    have hS4 := stm_same hS3 s4
    have hG4 := hG3.ext (.of s4)
    refine ⟨_, rfl, _, rfl, _, rfl, G, _, rfl, .inl hG4.at_.sq, S, c, _, rfl, hS4, (by rw [List.length_map]; have := hG4.one; omega), fun r5 H5 a5 b5 _ hS5 e5 => ?_⟩
    rw [List.length_map] at b5
    have hG5 := hG4.ext e5
    obtain ⟨j, rfl⟩ := Int.eq_ofNat_of_zero_le a5
    have hj : j < gs.length := by omega
    refine ⟨G, _, _, .int gs[j], rfl, rfl, hG5.at_.sq, atI_nat (map_get hj), (by show 1 ≤ sizeLine; decide), fun q6 n6 => ?_⟩
    have hS6 := stm_new (o := .tup [.int gs[j]]) hS5 n6
    have e36 : Ext S H3 (upd H5 q6 (.tup [.int gs[j]])) := ((Ext.of s4).trans e5).trans (.new n6)
    have h6 : SqT K (upd H5 q6 (.tup [.int gs[j]])) q6 ([gs[j]].map V.int) := .inl (.inl upd_same)
    have e46 : Ext S H4 (upd H5 q6 (.tup [.int gs[j]])) := e5.trans (.new n6)
    have h46 := sqt_ext hS4 e46 h4
    have ht6 := sqt_ext hS3 e36 ht3
    have c1 := cut_sub ns none (some (n : Int))
    have c2 := cut_sub ns (some ((n : Int) + 1)) none
    generalize upd H5 q6 (.tup [.int gs[j]]) = H6 at *
    refine cat_fin h46 h6 (by simp only [List.length_singleton]; omega) fun q7 H7 s7 h7 => ?_
    refine ⟨_, rfl, _, rfl, _, _, rfl, rfl, _, rfl, ?_⟩
    dsimp only [tNoPart]
    refine slA_fin (seqT_same s7 ht6) fun q8 H8 s8 h8 => ?_
    refine cat_fin (seqT_same s8 h7) h8 (by rw [List.length_append]; simp only [List.length_singleton]; omega) fun q9 H9 s9 h9 => ?_
    have e9 : Ext S H H9 := ((e12.trans e3).trans e36).trans (.of ((s7.trans s8).trans s9))
    refine k _ _ _ e9 (stm_same hS6 ((s7.trans s8).trans s9)) (w_mk h9) ?_ ?_
    · have l1 : (cutI ns none (some (n : Int))).length ≤ n := by
        have z := cut_take (ns := ns) (i := n) (by omega)
        rw [Int.zero_add] at z
        rw [z, List.length_take]
        omega
      have l2 : (cutI ns (some ((n : Int) + 1)) none).length = ns.length - (n + 1) := by
        rw [cut_drop (i := n + 1) (by omega) (by omega), List.length_drop]
      simp only [List.length_append, List.length_singleton]
      omega
    · intro x hx
      rcases List.mem_append.mp hx with hx | hx
      · rcases List.mem_append.mp hx with hx | hx
        · exact hin x (c1.2 x hx)
        · rw [List.mem_singleton.mp hx]; exact List.getElem_mem hj
      · exact hin x (c2.2 x hx)
/-! ### _law_twin_row -/
def sp__law_twin_row (K : PySem.W.Frag) : Sp := fun vs H Q _ => ∃ (S c : Addr) (k8 : Km.Kd8) (p : Addr) (xs : List V) (l : List Mt.Ev), vs = [.ref S, .str (nm k8), .ref p] ∧ Stm S c H ∧ Mt.RowL K S p xs l H ∧ (∀ e ∈ l, e.2.length ≤ 120 ∧ Km.pl k8 e.2 = e.2) ∧ (∀ i, (Mt.wh k8 (l.take i)).2.length ≤ 120) ∧ l.length ≤ 100 ∧
  ∀ r ys l' H', Ext S H H' → Stm S c H' → Mt.RowL K S r ys l' H' → l'.length = l.length → (∀ i e, l[i]? = some e → l'[i]? = some e ∨ (l'[i]? = some (Mt.wh k8 (l.take (i + 1))) ∧ (Mt.wh k8 (l.take (i + 1))).1 = true)) → Q (.ref r) H'
theorem ok__law_twin_row (T : Txt P K mg A') : FnOk P w K mg base CX0 5 A'.f__law_twin_row A'.fd__law_twin_row ["_law_stream_here", "_law_kind_here", "_law_row_here"] (sp__law_twin_row K) := by
  refine Hk.okN T.F__law_twin_row sc__law_twin_row (fun vs H Q E h => ?_) (fun cdv A outer s H vs Q E hr h => ?_)
  · obtain ⟨S, c, k8, p, xs, l, rfl, _⟩ := h
    rfl
  · obtain ⟨S, c, k8, p, xs, l, rfl, hS, hp, le, lw, ll, k⟩ := h
    refine ⟨_, (pss_cons (ps_set (i := 3) sc__law_twin_row.nd rfl (Or.inl rfl) (pe_call (ok__law_running T) (hr.mono (by decide)) rfl T.g__law_running T.F__law_running.kp T.b__law_running .nil pass0 (pa_cons (pv 1) (pa_cons (pv 2) pa_nil))))
    (pss_cons (ps_set (i := 4) sc__law_twin_row.nd rfl (Or.inl rfl) (pe_lst pa_nil))
    (pss_cons (ps_for PassesOwn.never rfl (pi_range1 (by rfl) T.z_range (pa_cons (pe_callB call_len_seq (by rfl) T.z_len (by decide +kernel) (pa_cons (pv 2) pa_nil)) pa_nil)) (pg_name (i := 5) sc__law_twin_row.nd rfl (Or.inl rfl)) (pss_cons (ps_set (i := 6) sc__law_twin_row.nd rfl (Or.inl rfl) (pe_ix ix_list (pv 2) (pv 5) (fun _ _ => rfl)))
    (pss_cons (ps_if (PW.pt (pw_and (pt_val (pe_ix ix_tup (pe_ix ix_list (pv 3) (pv 5) (fun _ _ => rfl)) pe_int (fun _ _ => rfl))) (pw_and1 (pt_cmpR op_gt (pe_call (ok__law_pick T) (hr.mono (by decide)) rfl T.g__law_pick T.F__law_pick.kp T.b__law_pick .nil pass0 (pa_cons (pv 0) (pa_cons pe_int pa_nil))) pe_int (nomark _))))) (pss_one (ps_set (i := 6) sc__law_twin_row.nd rfl (Or.inl rfl) (pe_ix ix_list (pv 3) (pv 5) (fun _ _ => rfl)))) pss_nil)
    (pss_one (ps_expr (pe_bm PySem.F.plainAttrs_list PySem.F.slot_list_append PySem.F.type_list_append mt_append (pv 4) (pa_cons (pv 6) pa_nil)))))))
    (pss_one (ps_ret (pv 4)))))), ?_⟩
    have lx := hp.len
    refine ⟨_, rfl, _, rfl, k8, p, xs, l, rfl, hp.sq, hp.dat, le, lw, ll, fun r ys H1 s1 nr hr hy => ?_⟩
    have hS1 := stm_same hS s1
    have nrS : r ≠ S := ext_ne hS nr
    have hp1 := hp.same s1
    have hr1 : Mt.RowL K S r ys (Mt.runs k8 l) H1 := ⟨nrS, hr, hy⟩
    refine ⟨Nat.zero_le _, fun D nD => ?_⟩
    have nDS : D ≠ S := ext_ne hS1 nD
    have nDc : D ≠ c := ext_nc hS1 nD
    refine ⟨_, rfl, p, _, rfl, .inl ((hp1.same (same_new nD)).sq), _, rfl, ⟨by omega, by omega, ?_⟩⟩
    refine for_range (lo := 0) (n := xs.length) (fun i σ' H' => ∃ o1 o2 zs l', σ' = [some (.ref S), some (.str (nm k8)), some (.ref p), some (.ref r), some (.ref D), o1, o2] ∧ Ext S H1 H' ∧ Stm S c H' ∧ Mt.RowL K S D zs l' H' ∧ l'.length = i ∧ (∀ j e, j < i → l[j]? = some e → l'[j]? = some e ∨ (l'[j]? = some (Mt.wh k8 (l.take (j + 1))) ∧ (Mt.wh k8 (l.take (j + 1))).1 = true))) ⟨none, none, [], [], rfl, .of (same_new nD), stm_new hS1 nD, ⟨nDS, upd_same, .nil⟩, rfl, fun j e h => absurd h (Nat.not_lt_zero _)⟩ ?_ ?_
    · rintro i σ' H2 hi ⟨o1, o2, zs, l', rfl, e2, hS2, hD, hl', hor⟩
      rw [Int.zero_add]
      have hp2 := hp1.ext hS1 e2
      have hr2 := hr1.ext hS1 e2
      obtain ⟨x, hxi⟩ : ∃ x, xs[i]? = some x := ⟨_, List.getElem?_eq_getElem hi⟩
      obtain ⟨e, he, hE⟩ := Mt.get_eff hp2.dat hxi
      have ly := hr2.len
      rw [Mt.runs_len] at ly
      obtain ⟨y, hyi⟩ : ∃ y, ys[i]? = some y := ⟨_, List.getElem?_eq_getElem (by omega)⟩
      obtain ⟨d, hd, hF⟩ := Mt.get_eff hr2.dat hyi
      rw [Mt.runs_get he] at hd
      have hd := Option.some.inj hd
      obtain ⟨a, t, rfl, ha, ht⟩ := e_inv hF
      refine ⟨_, rfl, _, rfl, p, xs, _, x, rfl, rfl, hp2.sq, atI_nat hxi, ?_⟩
      refine ⟨_, rfl, _, rfl, r, ys, _, .ref a, rfl, rfl, hr2.sq, atI_nat hyi, a, _, _, _, rfl, rfl, ha, rfl, _, rfl, ?_⟩
      have put : ∀ (H3 : Hp) (v : V) (f : Mt.Ev) (o1 o2 : Option V), Ext S H2 H3 → Stm S c H3 → Ef K H3 v f → (f = e ∨ (f = Mt.wh k8 (l.take (i + 1)) ∧ (Mt.wh k8 (l.take (i + 1))).1 = true)) → ∃ acc, H3 D = some (.lst acc) ∧ acc.length < sizeLine ∧ ∃ zs l', Ext S H1 (upd H3 D (.lst (acc ++ [v]))) ∧ Stm S c (upd H3 D (.lst (acc ++ [v]))) ∧ Mt.RowL K S D zs l' (upd H3 D (.lst (acc ++ [v]))) ∧ l'.length = i + 1 ∧ (∀ j e, j < i + 1 → l[j]? = some e → l'[j]? = some e ∨ (l'[j]? = some (Mt.wh k8 (l.take (j + 1))) ∧ (Mt.wh k8 (l.take (j + 1))).1 = true)) := fun H3 v f o1 o2 e3 hS3 hv hf => by
        have hD3 := hD.ext hS2 e3
        have lz := hD3.len
        refine ⟨zs, hD3.at_, small1000 (by omega), zs ++ [v], l' ++ [f], ext_mut (e2.trans e3) nD, stm_put hS3 nDS nDc, ⟨nDS, upd_same, ?_⟩, by rw [List.length_append, hl'] <;> rfl, fun j e' hj hje => ?_⟩
        · rw [Mt.effs_snoc]
          exact dpa_snoc (Mr.effs_mut hD3.at_ hD3.dat) (ef_mut hD3.at_ hv)
        · rcases Nat.lt_or_ge j i with lt | ge
          · rw [List.getElem?_append_left (by omega)]
            exact hor j e' lt hje
          · have : j = i := by omega
            subst this
            rw [he] at hje
            cases hje
            rw [List.getElem?_append_right (by omega), hl', Nat.sub_self]
            rcases hf with rfl | ⟨rfl, hf⟩
            · exact .inl rfl
            · exact .inr ⟨rfl, hf⟩
      refine if2 (fun c1 => ?_) (fun c1 => ?_)
      · refine ⟨_, rfl, S, c, 10, rfl, hS2, by decide, fun r4 H4 a4 b4 _ hS4 e4 => ⟨_, _, rfl, rfl, _, rfl, ?_⟩⟩
        have hr4 := hr2.ext hS2 e4
        refine if2 (fun c2 => ?_) (fun c2 => ?_)
        · refine ⟨_, rfl, _, rfl, r, ys, _, .ref a, rfl, rfl, hr4.sq, atI_nat hyi, ?_⟩
          obtain ⟨acc, hA, hl, zs', l2, f1, f2, f3, f4, f5⟩ := put H4 (.ref a) d none none e4 hS4 (e_ext hS2 e4 hF) (.inr ⟨hd.symm, by rw [hd]; exact c1⟩)
          exact ⟨_, rfl, .inl ⟨rfl, _, SqL.of hA⟩, _, rfl, D, acc, _, rfl, rfl, hA, hl, _, _, zs', l2, rfl, f1, f2, f3, f4, f5⟩
        · obtain ⟨acc, hA, hl, zs', l2, f1, f2, f3, f4, f5⟩ := put H4 x e none none e4 hS4 (e_ext hS2 e4 hE) (.inl rfl)
          exact ⟨_, rfl, .inl ⟨rfl, _, SqL.of hA⟩, _, rfl, D, acc, _, rfl, rfl, hA, hl, _, _, zs', l2, rfl, f1, f2, f3, f4, f5⟩
      · obtain ⟨acc, hA, hl, zs', l2, f1, f2, f3, f4, f5⟩ := put H2 x e none none (.of (.refl _)) hS2 hE (.inl rfl)
        exact ⟨_, rfl, .inl ⟨rfl, _, SqL.of hA⟩, _, rfl, D, acc, _, rfl, rfl, hA, hl, _, _, zs', l2, rfl, f1, f2, f3, f4, f5⟩
    · rintro σ' H2 ⟨o1, o2, zs, l', rfl, e2, hS2, hD, hl', hor⟩
      exact ⟨_, rfl, k D zs l' H2 ((Ext.of s1).trans e2) hS2 hD (by omega) fun i e he => hor i e (by rw [lx]; exact (List.getElem?_eq_some_iff.mp he).1) he⟩
/-! ### _law_steps -/
def sp__law_steps (K : PySem.W.Frag) : Sp := fun vs H Q _ => ∃ (k8 : Km.Kd8) (v0 : V) (p : Addr) (xs : List V) (l : List Mt.Ev) (a : Mt.Ev), vs = [.str (nm k8), v0, .ref p] ∧ SqL K H p xs ∧ DpAll K H xs (effs l) ∧ Ef K H v0 a ∧ (∀ e ∈ a :: l, e.2.length ≤ 120 ∧ Km.pl k8 e.2 = e.2) ∧ l.length ≤ 100 ∧ ∀ r ys H', Same H H' → H r = none → H' r = some (.lst ys) → DpAll K H' ys ((Mt.sts k8 a l).map Mt.opD) → Q (.ref r) H'
theorem ok__law_steps (T : Txt P K mg A') : FnOk P w K mg base CX0 5 A'.f__law_steps A'.fd__law_steps ["_law_kind_here", "_law_begin", "_law_row_here"] (sp__law_steps K) := by
  refine Hk.okN T.F__law_steps sc__law_steps (fun vs H Q E h => ?_) (fun cdv A outer s H vs Q E hr h => ?_)
  · obtain ⟨k8, v0, p, xs, l, a, rfl, _⟩ := h
    rfl
  · obtain ⟨k8, v0, p, xs, l, a, rfl, hq, hx, h0, le, ll, k⟩ := h
    refine ⟨_, (pss_cons (ps_set (i := 3) sc__law_steps.nd rfl (Or.inl rfl) (pe_call (ok__law_normal T) (hr.mono (by decide)) rfl T.g__law_normal T.F__law_normal.kp T.b__law_normal .nil pass0 (pa_cons (pv 0) (pa_cons (pv 1) pa_nil))))
    (pss_cons (ps_set (i := 4) sc__law_steps.nd rfl (Or.inl rfl) (pe_lst pa_nil))
    (pss_cons (ps_for PassesOwn.never rfl (pi_list (pv 2)) (pg_name (i := 5) sc__law_steps.nd rfl (Or.inl rfl)) (pss_cons (ps_set (i := 6) sc__law_steps.nd rfl (Or.inl rfl) (pe_call (ok__law_normal T) (hr.mono (by decide)) rfl T.g__law_normal T.F__law_normal.kp T.b__law_normal .nil pass0 (pa_cons (pv 0) (pa_cons (pv 5) pa_nil))))
    (pss_cons (ps_expr (pe_bm PySem.F.plainAttrs_list PySem.F.slot_list_append PySem.F.type_list_append mt_append (pv 4) (pa_cons (pe_call (ok__law_step T) (hr.mono (by decide)) rfl T.g__law_step T.F__law_step.kp T.b__law_step .nil pass0 (pa_cons (pv 0) (pa_cons (pv 3) (pa_cons (pv 6) pa_nil)))) pa_nil)))
    (pss_one (ps_set (i := 3) sc__law_steps.nd rfl (Or.inl rfl) (pv 6))))))
    (pss_one (ps_ret (pv 4)))))), ?_⟩
    have lx : xs.length = l.length := by have := dpa_len hx; rwa [Mt.effs_len] at this
    refine ⟨_, rfl, _, rfl, k8, v0, a.1, a.2, rfl, h0, fun v1 H1 s1 hv1 => ?_⟩
    rw [nE_nrm (le a List.mem_cons_self).2] at hv1
    refine ⟨Nat.zero_le _, fun D nD => ?_⟩
    have sD := same_new (o := .lst []) nD
    have nDH : H D = none := by
      cases h0 : H D with
      | none => rfl
      | some o => exact absurd ((s1 _ _ h0).symm.trans nD) (fun z => by cases z)
    refine ⟨_, rfl, p, rfl, ⟨_, (s1.trans sD).seq hq⟩, for_list (K := K) (a := p) (xs := xs) (fun i σ' H' => ∃ v b o1 o2 ys, σ' = [some (.str (nm k8)), some v0, some (.ref p), some v, some (.ref D), o1, o2] ∧ Same H1 H' ∧ H' D = some (.lst ys) ∧ (i ≤ l.length → (a :: l)[i]? = some b ∧ Ef K H' v (nrm k8 b)) ∧ DpAll K H' ys (((Mt.sts k8 a l).take i).map Mt.opD)) ⟨v1, a, none, none, [], rfl, sD, upd_same, fun _ => ⟨rfl, dp_same sD hv1⟩, .nil⟩ (fun i σ' H' _ ⟨_, _, _, _, _, _, s, _⟩ => (s1.trans s).seq hq) ?_ ?_⟩
    · rintro i x σ' H' hi ⟨v, b, o1, o2, ys, rfl, s, hD, hb, hy⟩
      have hil : i < l.length := by have := (List.getElem?_eq_some_iff.mp hi).1; omega
      obtain ⟨hb, hv⟩ := hb (by omega)
      obtain ⟨e, he, hE⟩ := Mt.get_eff (dpa_same (s1.trans s) hx) hi
      obtain ⟨lb, pb⟩ := le b (List.mem_of_getElem? hb)
      obtain ⟨l2, p2⟩ := le e (List.mem_cons_of_mem _ (List.mem_of_getElem? he))
      have ly : ys.length ≤ l.length := by
        have := dpa_len hy
        rw [List.length_map, List.length_take, Mt.sts_len] at this
        omega
      refine ⟨_, rfl, _, rfl, k8, x, e.1, e.2, rfl, hE, fun v2 H2 s2 hv2 => ?_⟩
      rw [nE_nrm p2] at hv2
      have hD2 := s2 _ _ hD
      have lN : ∀ {c : Mt.Ev}, Km.pl k8 c.2 = c.2 → c.2.length ≤ 120 → (nrm k8 c).2.length ≤ 120 := fun pc lc => by show (Km.pl k8 _).length ≤ 120; rw [pc]; exact lc
      refine ⟨_, rfl, .inl ⟨rfl, _, SqL.of hD2⟩, _, rfl, _, rfl, _, rfl, k8, v, v2, _, _, rfl, dp_same s2 hv, hv2, Nrm.of k8 b, Nrm.of k8 e, lN pb lb, lN p2 l2, fun v3 H3 s3 hv3 => ?_⟩
      have hv3 := Mt.found_dp.mp hv3
      have hD3 := s3 _ _ hD2
      obtain ⟨f1, f2, f3⟩ := Mt.fillO nD s hD hy (s2.trans s3) hv3
      refine ⟨D, _, _, rfl, rfl, hD3, small1000 (by omega), ?_⟩
      refine ⟨_, rfl, v2, e, _, _, _, rfl, f1, f2, fun _ => ⟨he, ef_mut hD3 (dp_same s3 hv2)⟩, ?_⟩
      rw [Mt.sts_take hb he]
      exact f3
    · rintro σ' H' ⟨v, b, o1, o2, ys, rfl, s, hD, hb, hy⟩
      rw [lx, ← Mt.sts_len k8 a l, List.take_length] at hy
      exact ⟨_, rfl, k D ys H' (s1.trans s) nDH hD hy⟩
/-! ### _law_later -/
def sp__law_later (K : PySem.W.Frag) : Sp := fun vs H Q _ => ∃ (k8 : Km.Kd8) (p : Addr) (xs : List V) (l : List Mt.Ev), vs = [.str (nm k8), .ref p] ∧ SqL K H p xs ∧ DpAll K H xs (effs (Mt.runs k8 l)) ∧ l.length ≤ 100 ∧ (∀ i, (Mt.wh k8 (l.take i)).2.length ≤ 120 ∧ (k8 = .tails → (Mt.wh k8 (l.take i)).2.length ≤ 31)) ∧ ∀ H', Same H H' → Q (.bl true) H'
theorem ok__law_later (T : Txt P K mg A') : FnOk P w K mg base CX0 5 A'.f__law_later A'.fd__law_later ["_law_kind_here", "_law_due"] (sp__law_later K) := by
  refine Hk.okN T.F__law_later sc__law_later (fun vs H Q E h => ?_) (fun cdv A outer s H vs Q E hr h => ?_)
  · obtain ⟨k8, p, xs, l, rfl, _⟩ := h
    rfl
  · obtain ⟨k8, p, xs, l, rfl, hp, hx, ll, lw, k⟩ := h
    refine ⟨_, (pss_cons (ps_for PassesOwn.never rfl (pi_range1 (by rfl) T.z_range (pa_cons (pe_callB call_len_seq (by rfl) T.z_len (by decide +kernel) (pa_cons (pv 1) pa_nil)) pa_nil)) (pg_name (i := 2) sc__law_later.nd rfl (Or.inl rfl)) (pss_one (ps_for PassesOwn.never rfl (pi_range2 (by rfl) T.z_range (pa_cons (pv 2) (pa_cons (pe_callB call_len_seq (by rfl) T.z_len (by decide +kernel) (pa_cons (pv 1) pa_nil)) pa_nil))) (pg_name (i := 3) sc__law_later.nd rfl (Or.inl rfl)) (pss_cons (ps_set (i := 4) sc__law_later.nd rfl (Or.inl rfl) (pe_call (ok_step T) (hr.mono (by decide)) rfl T.g_step T.F_step.kp T.b_step .nil pass0 (pa_cons (pv 0) (pa_cons (pe_ix ix_list (pv 1) (pv 2) (fun _ _ => rfl)) (pa_cons (pe_ix ix_list (pv 1) (pv 3) (fun _ _ => rfl)) pa_nil)))))
    (pss_cons (ps_if (PW.pt (pw_or (pt_not (pt_val (pe_call (ok__law_is_effect T) (hr.mono (by decide)) rfl T.g__law_is_effect T.F__law_is_effect.kp T.b__law_is_effect .nil pass0 (pa_cons (pv 4) pa_nil)))) (pw_or1 (pt_cmpR (op_neD hr.units) (pe_call (ok__law_then T) (hr.mono (by decide)) rfl T.g__law_then T.F__law_then.kp T.b__law_then .nil pass0 (pa_cons (pv 0) (pa_cons (pe_ix ix_list (pv 1) (pv 2) (fun _ _ => rfl)) (pa_cons (pv 4) pa_nil)))) (pe_ix ix_list (pv 1) (pv 3) (fun _ _ => rfl)) (nomark _))))) (pss_one (ps_ret pe_bl)) pss_nil)
    (pss_one (ps_if (pt_cmpR op_ne (pe_cmpR (op_eqD hr.units) (pv 4) (pe_tup (pa_cons pe_bl (pa_cons (pe_tup pa_nil) pa_nil))) (nomark _)) (pe_cmpR (op_eqD hr.units) (pe_ix ix_list (pv 1) (pv 2) (fun _ _ => rfl)) (pe_ix ix_list (pv 1) (pv 3) (fun _ _ => rfl)) (nomark _)) (nomark _)) (pss_one (ps_ret pe_bl)) pss_nil)))))))
    (pss_one (ps_ret pe_bl))), ?_⟩
    have two : 2 ≤ sizeLine := by decide
    have lx : xs.length = l.length := by have := dpa_len hx; rwa [Mt.effs_len, Mt.runs_len] at this
    refine ⟨_, rfl, p, _, rfl, .inl hp, _, rfl, ?_⟩
    refine ⟨by omega, by omega, ?_⟩
    refine for_range (lo := 0) (n := xs.length) (fun i σ' H' => ∃ o1 o2 o3, σ' = [some (.str (nm k8)), some (.ref p), o1, o2, o3] ∧ Same H H') ⟨none, none, none, rfl, .refl _⟩ ?_ ?_
    · rintro i σ' H' hi ⟨o1, o2, o3, rfl, s⟩
      rw [Int.zero_add]
      refine ⟨_, rfl, _, rfl, p, _, rfl, .inl (s.seq hp), _, _, rfl, ⟨by omega, by omega, by omega, by omega⟩, ?_⟩
      refine for_range (lo := (i : Int)) (n := ((xs.length : Int) - (i : Int)).toNat) (fun j σ' H' => ∃ o2 o3, σ' = [some (.str (nm k8)), some (.ref p), some (.int i), o2, o3] ∧ Same H H') ⟨_, _, rfl, s⟩ ?_ ?_
      · rintro j σ' H2 hj ⟨o2, o3, rfl, s2⟩
        have ij : (i : Int) + (j : Int) = ((i + j : Nat) : Int) := by omega
        rw [ij]
        have hm : i + j < xs.length := by omega
        obtain ⟨x, hxi⟩ : ∃ x, xs[i]? = some x := ⟨_, List.getElem?_eq_getElem hi⟩
        obtain ⟨y, hyi⟩ : ∃ y, xs[i + j]? = some y := ⟨_, List.getElem?_eq_getElem hm⟩
        obtain ⟨X, hX, EX⟩ := Mt.get_eff (dpa_same s2 hx) hxi
        obtain ⟨Y, hY, EY⟩ := Mt.get_eff (dpa_same s2 hx) hyi
        obtain ⟨_, _, eX⟩ := Mt.runs_at hX
        obtain ⟨_, _, eY⟩ := Mt.runs_at hY
        have nX : Nrm k8 X := by rw [eX]; exact Mt.wh_nrm _ _
        have nY : Nrm k8 Y := by rw [eY]; exact Mt.wh_nrm _ _
        obtain ⟨lX, tX⟩ := lw (i + 1)
        obtain ⟨lY, tY⟩ := lw (i + j + 1)
        rw [← eX] at lX tX
        rw [← eY] at lY tY
        obtain ⟨pp, L⟩ := Mt.later k8 l (i + 1) (i + j + 1) (by omega)
        rw [← eX, ← eY] at L
        obtain ⟨e, hs, hle⟩ := stp_least nX nY L
        have L := stp_leads nX nY hs
        have idle := stp_idle nX nY hs
        have lsub := (stp_sub nX nY hs).length_le
        have hp2 := s2.seq hp
        refine ⟨_, rfl, _, rfl, _, rfl, p, xs, _, x, rfl, rfl, hp2, atI_nat hxi, _, rfl, _, rfl, p, xs, _, y, rfl, rfl, hp2, atI_nat hyi, k8, x, y, X, Y, rfl, EX, EY, nX.pl, nY.pl, lX, lY, fun z => ⟨tX z, tY z⟩, fun v H3 s3 fv => ?_⟩
        rw [nX.eq, nY.eq, hs] at fv
        have fv : Ef K H3 v e := fv
        refine ⟨_, rfl, v, e.1, e.2, rfl, fv, by omega, fun H4 s4 => ⟨_, rfl, ifF rfl ?_⟩⟩
        have s24 := s3.trans s4
        have hp4 := s24.seq hp2
        refine ⟨_, rfl, _, rfl, _, rfl, p, xs, _, x, rfl, rfl, hp4, atI_nat hxi, _, rfl, k8, x, v, X, e, rfl, dp_same s24 EX, dp_same s4 fv, by omega, fun v6 H6 s6 hv6 => ?_⟩
        have hv6 : Ef K H6 v6 (thE k8 X e) := hv6
        rw [L.to] at hv6
        have s26 := s24.trans s6
        have hp6 := s6.seq hp4
        refine ⟨_, rfl, _, rfl, p, xs, _, y, rfl, rfl, hp6, atI_nat hyi, _, _, hv6, dp_same s26 EY, shaped_e _ _, shaped_e _ _, _, rfl, ?_⟩
        refine ifF (by rw [eqv_self (shaped_e _ _)] <;> rfl) ?_
        refine ⟨_, rfl, Nat.zero_le _, fun z nz => ⟨two, fun q nq => ?_⟩⟩
        have szq := (same_new (o := .tup []) nz).trans (same_new (o := .tup [.bl false, .ref z]) nq)
        have hp8 := szq.seq hp6
        have s28 := s26.trans szq
        refine ⟨_, _, dp_same ((s4.trans s6).trans szq) fv, e_mk (.inl (.inl upd_same)) (dp_same (same_new nq) (w_mk (ns := []) (.inl (.inl upd_same)))), shaped_e _ _, shaped_e _ _, ?_⟩
        refine ⟨_, rfl, _, rfl, p, xs, _, x, rfl, rfl, hp8, atI_nat hxi, _, rfl, _, rfl, p, xs, _, y, rfl, rfl, hp8, atI_nat hyi, _, _, dp_same s28 EX, dp_same s28 EY, shaped_e _ _, shaped_e _ _, ?_⟩
        refine ⟨rfl, _, rfl, ?_⟩
        refine ifF ?_ ⟨_, _, rfl, s2.trans s28⟩
        rw [eqv_e, eqv_e, Mt.idle_dec, dec_pair, idle]
        simp
      · rintro σ' H2 ⟨o2, o3, rfl, s2⟩
        exact ⟨_, _, _, rfl, s2⟩
    · rintro σ' H' ⟨o1, o2, o3, rfl, s⟩
      exact k H' s
/-! ### is_plain__bad -/

theorem ok_is_plain__bad (T : Txt P K mg A') : FnOk P w K mg base (L2.CX P w) 6 A'.f_is_plain A'.fd_is_plain ["kind", "thing"] (spBad K A'.c_BadKind 1) := by
  refine Hk.okX T.F_is_plain sc_is_plain (fun vs H Q E h => ?_) (fun cdv A outer s H vs Q E hr h => ?_)
  · obtain ⟨v, d, rest, rfl, e, _⟩ := h
    exact congrArg Nat.succ e
  · obtain ⟨v, d, rest, rfl, e, hd, hs, hb, k⟩ := h
    obtain ⟨r1, rfl⟩ := Ms.len1 e
    refine ⟨_, (pss_cons (ps_set (i := 2) sc_is_plain.nd rfl (Or.inl rfl) (pe_call (ok_kind_named__bad T) (hr.mono (by decide)) rfl T.g_kind_named T.F_kind_named.kp T.b_kind_named .nil (Kc.passT (takes_of rfl rfl rfl rfl)) (pa_cons (pv 0) pa_nil)))
    (pss_one Kd.ps_dead)), ?_⟩
    exact ⟨_, rfl, v, d, [], rfl, rfl, hd, hs, hb, k⟩
/-! ### plain_word -/

theorem ok_plain_word (T : Txt P K mg A') : FnOk P w K mg base (L2.CX P w) 6 A'.f_plain_word A'.fd_plain_word ["kind", "word"] (spBad K A'.c_BadKind 1) := by
  refine Hk.okX T.F_plain_word sc_plain_word (fun vs H Q E h => ?_) (fun cdv A outer s H vs Q E hr h => ?_)
  · obtain ⟨v, d, rest, rfl, e, _⟩ := h
    exact congrArg Nat.succ e
  · obtain ⟨v, d, rest, rfl, e, hd, hs, hb, k⟩ := h
    obtain ⟨r1, rfl⟩ := Ms.len1 e
    refine ⟨_, (pss_cons (ps_set (i := 2) sc_plain_word.nd rfl (Or.inl rfl) (pe_call (ok_kind_named__bad T) (hr.mono (by decide)) rfl T.g_kind_named T.F_kind_named.kp T.b_kind_named .nil (Kc.passT (takes_of rfl rfl rfl rfl)) (pa_cons (pv 0) pa_nil)))
    (pss_one Kd.ps_dead)), ?_⟩
    exact ⟨_, rfl, v, d, [], rfl, rfl, hd, hs, hb, k⟩
/-! ### joined -/

theorem ok_joined (T : Txt P K mg A') : L2.FnR P w K mg base (L2.CX P w) 6 A'.f_joined (Kd.spStar 1 (spBad K A'.c_BadKind 1)) := by
  refine Kd.okSX (ps := ["kind"]) T.F_joined sc_joined (fun kV doc pm an cdv ct => StX.bind_star1 (B := fun us => bindArgs (PySem.W.fnOf "joined" "joined" (defArgs s_joined) (defBody s_joined) (defScope s_joined) .none kV doc pm an cdv ct) ⟨us, []⟩) (fun _ => rfl) (fun _ _ _ => rfl)) (fun cdv A outer s H vs Q E hr h => ?_)
  · obtain ⟨v, d, rest, rfl, e, hd, hs, hb, k⟩ := h
    obtain ⟨r1, rfl⟩ := Ms.len1 e
    refine ⟨_, (pss_cons (ps_set (i := 2) sc_joined.nd rfl (Or.inl rfl) (pe_call (ok_kind_named__bad T) (hr.mono (by decide)) rfl T.g_kind_named T.F_kind_named.kp T.b_kind_named .nil (Kc.passT (takes_of rfl rfl rfl rfl)) (pa_cons (pv 0) pa_nil)))
    (pss_one Kd.ps_dead)), ?_⟩
    exact ⟨_, rfl, v, d, [], rfl, rfl, hd, hs, hb, k⟩
/-! ### rest__bad -/

theorem ok_rest__bad (T : Txt P K mg A') : FnOk P w K mg base (L2.CX P w) 6 A'.f_rest A'.fd_rest ["kind", "one", "other"] (spBad K A'.c_BadKind 2) := by
  refine Hk.okX T.F_rest sc_rest (fun vs H Q E h => ?_) (fun cdv A outer s H vs Q E hr h => ?_)
  · obtain ⟨v, d, rest, rfl, e, _⟩ := h
    exact congrArg Nat.succ e
  · obtain ⟨v, d, rest, rfl, e, hd, hs, hb, k⟩ := h
    obtain ⟨r1, r2, rfl⟩ := Ms.len2 e
    refine ⟨_, (pss_one (ps_ret (Kd.pe_any fun k8 : Km.Kd8 => pe_meth (pe_call (ok_kind_named__bad T) (hr.mono (by decide)) rfl T.g_kind_named T.F_kind_named.kp T.b_kind_named .nil (Kc.passT (takes_of rfl rfl rfl rfl)) (pa_cons (pv 0) pa_nil)) (cl8 T k8) (me8_rest_between T k8) (ok8_rest_between T k8) (hr.mono (by decide)) (b8_rest_between T k8) .nil pass0 (pa_cons (pv 1) (pa_cons (pv 2) pa_nil))))), ?_⟩
    exact ⟨.list, _, rfl, v, d, [], rfl, rfl, hd, hs, hb, k⟩
/-! ### fresh_word -/

theorem ok_fresh_word (T : Txt P K mg A') : L2.FnR P w K mg base (L2.CX P w) 6 A'.f_fresh_word (Kd.spStar 1 (spBad K A'.c_BadKind 1)) := by
  refine Kd.okSX (ps := ["kind"]) T.F_fresh_word sc_fresh_word (fun kV doc pm an cdv ct => StX.bind_star1 (B := fun us => bindArgs (PySem.W.fnOf "fresh_word" "fresh_word" (defArgs s_fresh_word) (defBody s_fresh_word) (defScope s_fresh_word) .none kV doc pm an cdv ct) ⟨us, []⟩) (fun _ => rfl) (fun _ _ _ => rfl)) (fun cdv A outer s H vs Q E hr h => ?_)
  · obtain ⟨v, d, rest, rfl, e, hd, hs, hb, k⟩ := h
    obtain ⟨r1, rfl⟩ := Ms.len1 e
    refine ⟨_, (pss_cons (ps_set (i := 2) sc_fresh_word.nd rfl (Or.inl rfl) (pe_call (ok_kind_named__bad T) (hr.mono (by decide)) rfl T.g_kind_named T.F_kind_named.kp T.b_kind_named .nil (Kc.passT (takes_of rfl rfl rfl rfl)) (pa_cons (pv 0) pa_nil)))
    (pss_cons Kd.ps_dead
    (pss_cons Kd.ps_dead
    (pss_cons Kd.ps_dead
    (pss_one Kd.ps_dead))))), ?_⟩
    exact ⟨_, rfl, v, d, [], rfl, rfl, hd, hs, hb, k⟩
/-! ### parted_words -/

theorem ok_parted_words (T : Txt P K mg A') : FnOk P w K mg base (L2.CX P w) 6 A'.f_parted_words A'.fd_parted_words ["one", "other"] (spBad K A'.c_BadKind 1) := by
  refine Hk.okX T.F_parted_words sc_parted_words (fun vs H Q E h => ?_) (fun cdv A outer s H vs Q E hr h => ?_)
  · obtain ⟨v, d, rest, rfl, e, _⟩ := h
    exact congrArg Nat.succ e
  · obtain ⟨v, d, rest, rfl, e, hd, hs, hb, k⟩ := h
    obtain ⟨r1, rfl⟩ := Ms.len1 e
    refine ⟨_, (pss_cons (ps_set (i := 2) sc_parted_words.nd rfl (Or.inl rfl) (pe_call (ok_kind_named__bad T) (hr.mono (by decide)) rfl T.g_kind_named T.F_kind_named.kp T.b_kind_named .nil (Kc.passT (takes_of rfl rfl rfl rfl)) (pa_cons (pv 0) pa_nil)))
    (pss_cons Kd.ps_dead
    (pss_cons Kd.ps_dead
    (pss_one Kd.ps_dead)))), ?_⟩
    exact ⟨_, rfl, v, d, [], rfl, rfl, hd, hs, hb, k⟩
/-! ### parted_words__bad -/

theorem ok_parted_words__bad (T : Txt P K mg A') : FnOk P w K mg base (L2.CX P w) 6 A'.f_parted_words A'.fd_parted_words ["one", "other"] (spBad2 K A'.c_BadKind) := by
  refine Hk.okX T.F_parted_words sc_parted_words (fun vs H Q E h => ?_) (fun cdv A outer s H vs Q E hr h => ?_)
  · obtain ⟨k8, v, d, rfl, _⟩ := h
    rfl
  · obtain ⟨k8, v, d, rfl, hd, hs, hb, k⟩ := h
    refine ⟨_, (pss_cons (ps_set (i := 2) sc_parted_words.nd rfl (Or.inl rfl) (pe_call (ok_kind_named T) (hr.mono (by decide)) rfl T.g_kind_named T.F_kind_named.kp T.b_kind_named .nil pass0 (pa_cons (pv 0) pa_nil)))
    (pss_cons (ps_set (i := 3) sc_parted_words.nd rfl (Or.inl rfl) (pe_call (ok_kind_named__bad T) (hr.mono (by decide)) rfl T.g_kind_named T.F_kind_named.kp T.b_kind_named .nil (Kc.passT (takes_of rfl rfl rfl rfl)) (pa_cons (pv 1) pa_nil)))
    (pss_cons Kd.ps_dead
    (pss_one Kd.ps_dead)))), ?_⟩
    exact ⟨_, rfl, k8, rfl, fun x dx H1 nx s1 hx => ⟨_, rfl, v, d, [], rfl, rfl, dp_same s1 hd, hs, hb, fun dy H2 s2 h2 => k dy H2 (s1.trans s2) h2⟩⟩
/-! ### then__bad -/

theorem ok_then__bad (T : Txt P K mg A') : L2.FnR P w K mg base (L2.CX P w) 6 A'.f_then (Kd.spStar 1 (spBad K A'.c_BadKind 1)) := by
  refine Kd.okSX (ps := ["kind"]) T.F_then sc_then (fun kV doc pm an cdv ct => StX.bind_star1 (B := fun us => bindArgs (PySem.W.fnOf "then" "then" (defArgs s_then) (defBody s_then) (defScope s_then) .none kV doc pm an cdv ct) ⟨us, []⟩) (fun _ => rfl) (fun _ _ _ => rfl)) (fun cdv A outer s H vs Q E hr h => ?_)
  · obtain ⟨v, d, rest, rfl, e, hd, hs, hb, k⟩ := h
    obtain ⟨r1, rfl⟩ := Ms.len1 e
    refine ⟨_, (pss_cons (ps_set (i := 2) sc_then.nd rfl (Or.inl rfl) (pe_call (ok_kind_named__bad T) (hr.mono (by decide)) rfl T.g_kind_named T.F_kind_named.kp T.b_kind_named .nil (Kc.passT (takes_of rfl rfl rfl rfl)) (pa_cons (pv 0) pa_nil)))
    (pss_cons Kd.ps_dead
    (pss_cons Kd.ps_dead
    (pss_cons Kd.ps_dead
    (pss_one Kd.ps_dead))))), ?_⟩
    exact ⟨_, rfl, v, d, [], rfl, rfl, hd, hs, hb, k⟩
/-! ### effect_on__bad -/

theorem ok_effect_on__bad (T : Txt P K mg A') : FnOk P w K mg base (L2.CX P w) 6 A'.f_effect_on A'.fd_effect_on ["kind", "effect", "state"] (spBad K A'.c_BadKind 2) := by
  refine Hk.okX T.F_effect_on sc_effect_on (fun vs H Q E h => ?_) (fun cdv A outer s H vs Q E hr h => ?_)
  · obtain ⟨v, d, rest, rfl, e, _⟩ := h
    exact congrArg Nat.succ e
  · obtain ⟨v, d, rest, rfl, e, hd, hs, hb, k⟩ := h
    obtain ⟨r1, r2, rfl⟩ := Ms.len2 e
    refine ⟨_, (pss_cons (ps_set (i := 3) sc_effect_on.nd rfl (Or.inl rfl) (pe_call (ok_kind_named__bad T) (hr.mono (by decide)) rfl T.g_kind_named T.F_kind_named.kp T.b_kind_named .nil (Kc.passT (takes_of rfl rfl rfl rfl)) (pa_cons (pv 0) pa_nil)))
    (pss_cons Kd.ps_dead
    (pss_cons Kd.ps_dead
    (pss_one Kd.ps_dead)))), ?_⟩
    exact ⟨_, rfl, v, d, [], rfl, rfl, hd, hs, hb, k⟩
/-! ### parting_state -/

theorem ok_parting_state (T : Txt P K mg A') : FnOk P w K mg base (L2.CX P w) 6 A'.f_parting_state A'.fd_parting_state ["kind", "one", "other"] (spBad K A'.c_BadKind 2) := by
  refine Hk.okX T.F_parting_state sc_parting_state (fun vs H Q E h => ?_) (fun cdv A outer s H vs Q E hr h => ?_)
  · obtain ⟨v, d, rest, rfl, e, _⟩ := h
    exact congrArg Nat.succ e
  · obtain ⟨v, d, rest, rfl, e, hd, hs, hb, k⟩ := h
    obtain ⟨r1, r2, rfl⟩ := Ms.len2 e
    refine ⟨_, (pss_cons (ps_set (i := 3) sc_parting_state.nd rfl (Or.inl rfl) (pe_call (ok_normal__bad T) (hr.mono (by decide)) rfl T.g_normal T.F_normal.kp T.b_normal .nil (Kc.passT (takes_of rfl rfl rfl rfl)) (pa_cons (pv 0) (pa_cons (pv 1) pa_nil))))
    (pss_cons Kd.ps_dead
    (pss_cons Kd.ps_dead
    (pss_cons Kd.ps_dead
    (pss_one Kd.ps_dead))))), ?_⟩
    exact ⟨_, rfl, _, rfl, v, d, [r1], rfl, rfl, hd, hs, hb, k⟩
/-! ### narrowed_effect__bad -/

theorem ok_narrowed_effect__bad (T : Txt P K mg A') : FnOk P w K mg base (L2.CX P w) 6 A'.f_narrowed_effect A'.fd_narrowed_effect ["kind", "effect"] (spBad K A'.c_BadKind 1) := by
  refine Hk.okX T.F_narrowed_effect sc_narrowed_effect (fun vs H Q E h => ?_) (fun cdv A outer s H vs Q E hr h => ?_)
  · obtain ⟨v, d, rest, rfl, e, _⟩ := h
    exact congrArg Nat.succ e
  · obtain ⟨v, d, rest, rfl, e, hd, hs, hb, k⟩ := h
    obtain ⟨r1, rfl⟩ := Ms.len1 e
    refine ⟨_, (pss_cons (ps_set (i := 2) sc_narrowed_effect.nd rfl (Or.inl rfl) (pe_call (ok_kind_named__bad T) (hr.mono (by decide)) rfl T.g_kind_named T.F_kind_named.kp T.b_kind_named .nil (Kc.passT (takes_of rfl rfl rfl rfl)) (pa_cons (pv 0) pa_nil)))
    (pss_cons Kd.ps_dead
    (pss_one Kd.ps_dead))), ?_⟩
    exact ⟨_, rfl, v, d, [], rfl, rfl, hd, hs, hb, k⟩
/-! ### step__bad -/

theorem ok_step__bad (T : Txt P K mg A') : FnOk P w K mg base (L2.CX P w) 6 A'.f_step A'.fd_step ["kind", "one", "other"] (spBad K A'.c_BadKind 2) := by
  refine Hk.okX T.F_step sc_step (fun vs H Q E h => ?_) (fun cdv A outer s H vs Q E hr h => ?_)
  · obtain ⟨v, d, rest, rfl, e, _⟩ := h
    exact congrArg Nat.succ e
  · obtain ⟨v, d, rest, rfl, e, hd, hs, hb, k⟩ := h
    obtain ⟨r1, r2, rfl⟩ := Ms.len2 e
    refine ⟨_, (pss_cons (ps_set (i := 3) sc_step.nd rfl (Or.inl rfl) (pe_call (ok_normal__bad T) (hr.mono (by decide)) rfl T.g_normal T.F_normal.kp T.b_normal .nil (Kc.passT (takes_of rfl rfl rfl rfl)) (pa_cons (pv 0) (pa_cons (pv 1) pa_nil))))
    (pss_cons Kd.ps_dead
    (pss_cons Kd.ps_dead
    (pss_cons Kd.ps_dead
    (pss_cons Kd.ps_dead
    (pss_cons Kd.ps_dead
    (pss_one Kd.ps_dead))))))), ?_⟩
    exact ⟨_, rfl, _, rfl, v, d, [r1], rfl, rfl, hd, hs, hb, k⟩
/-! ### running -/
def sp_running (K : PySem.W.Frag) (A' : Ad) : Sp := fun vs H Q E => ∃ (k8 : Km.Kd8) (p : Addr) (xs : List V) (ds : List PyData), vs = [.str (nm k8), .ref p] ∧ Sq K H p xs ∧ DpAll K H xs ds ∧ (∀ d ∈ ds, ∀ a b, d = .tuple [a, b] → few b) ∧
  (badE k8 ds = none → ∃ l, ds = effs l ∧ (∀ e ∈ l, e.2.length ≤ 120) ∧ (∀ i, (Mt.wh k8 (l.take i)).2.length ≤ 120) ∧ l.length ≤ 100 ∧ ∀ r ys H', Same H H' → H r = none → H' r = some (.lst ys) → DpAll K H' ys (effs (Mt.runs k8 l)) → Q (.ref r) H') ∧
  (∀ i : Nat, badE k8 ds = some i → ∀ dx H', Same H H' → H' dx = some (.xd [("place", .int i)]) → E (.ref A'.c_BadEffect) (some dx) H')
theorem ok_running (T : Txt P K mg A') : FnOk P w K mg base (L2.CX P w) 6 A'.f_running A'.fd_running ["kind", "row"] (sp_running K A') := by
  refine Hk.okX T.F_running sc_running (fun vs H Q E h => ?_) (fun cdv A outer s H vs Q E hr h => ?_)
  · obtain ⟨k8, p, xs, ds, rfl, _⟩ := h
    rfl
  · obtain ⟨k8, p, xs, ds, rfl, hq, hx, hf, k1, k2⟩ := h
    refine ⟨_, (pss_cons (ps_expr (pe_call (ok_check_effects T) (hr.mono (by decide)) rfl T.g_check_effects T.F_check_effects.kp T.b_check_effects .nil (Kc.passT (takes_of rfl rfl rfl rfl)) (pa_cons (pv 0) (pa_cons (pv 1) pa_nil))))
    (pss_cons (ps_set (i := 2) sc_running.nd rfl (Or.inl rfl) (pe_lst pa_nil))
    (pss_cons (ps_set (i := 3) sc_running.nd rfl (Or.inl rfl) (pe_glob (v := .ref A'.k_IDLE) rfl T.mk_IDLE rfl))
    (pss_cons (ps_for (passes_of rfl) rfl (Kd.pi_or (pi_list (pv 1)) (pi_tup (pv 1))) (pg_name (i := 4) sc_running.nd rfl (Or.inl rfl)) (pss_cons (ps_set (i := 3) sc_running.nd rfl (Or.inl rfl) (Kd.pe_callR (ok_then T) (hr.mono (by decide)) rfl T.g_then T.F_then.kp pass0 (pa_cons (pv 0) (pa_cons (pv 3) (pa_cons (pv 4) pa_nil)))))
    (pss_one (ps_expr (pe_bm PySem.F.plainAttrs_list PySem.F.slot_list_append PySem.F.type_list_append mt_append (pv 2) (pa_cons (pv 3) pa_nil))))))
    (pss_one (ps_ret (pv 2))))))), ?_⟩
    refine ⟨_, rfl, _, rfl, k8, p, xs, ds, rfl, hq, hx, hf, fun hb H1 s1 => ?_, fun i hb dx H1 s h => k2 i hb dx H1 s h⟩
    obtain ⟨l, rfl, le, lw, ll, k⟩ := k1 hb
    refine ⟨Nat.zero_le _, fun D nD => ?_⟩
    have sD := same_new (o := .lst []) nD
    obtain ⟨pI, hI⟩ := T.ke_IDLE
    have lx : xs.length = l.length := by have := dpa_len hx; rwa [Mt.effs_len] at this
    have nDH : H D = none := by
      cases h0 : H D with
      | none => rfl
      | some o => exact absurd ((s1 _ _ h0).symm.trans nD) (fun z => by cases z)
    refine Mt.forB (xs := xs) (by rfl) (sq_same s1 hq) sD (fun i σ' H' => ∃ v o1 ys, σ' = [some (.str (nm k8)), some (.ref p), some (.ref D), some v, o1] ∧ Same H1 H' ∧ H' D = some (.lst ys) ∧ Ef K H' v (Mt.wh k8 (l.take i)) ∧ DpAll K H' ys (effs ((Mt.runs k8 l).take i))) ⟨_, none, [], rfl, sD, upd_same, e_mk (hI _).1 (w_mk (ns := []) (hI _).2), .nil⟩ (fun i σ' H' ⟨_, _, _, _, s, _⟩ => s) ?_ ?_
    · rintro i x σ' H' hi ⟨v, o1, ys, rfl, s, hD, hv, hy⟩
      obtain ⟨e, he, hE⟩ := Mt.get_eff (dpa_same (s1.trans s) hx) hi
      refine ⟨_, rfl, _, rfl, _, rfl, thenN (l := [Mt.wh k8 (l.take i), e]) (.cons hv (.cons hE .nil)) (by simp) (fun u hu => ?_) fun v2 H2 s2 hv2 => ?_⟩
      · rcases List.mem_cons.mp hu with rfl | hu
        · have := lw i; omega
        · rw [List.mem_singleton.mp hu]; have := le e (List.mem_of_getElem? he); omega
      rw [prod2] at hv2
      have hD2 := s2 _ _ hD
      have ly : ys.length ≤ l.length := by
        have := dpa_len hy
        rw [Mt.effs_len, List.length_take, Mt.runs_len] at this
        omega
      obtain ⟨f1, f2, f3⟩ := Mt.fillE nD s hD hy s2 hv2
      refine ⟨_, rfl, .inl ⟨rfl, _, SqL.of hD2⟩, _, rfl, D, _, _, rfl, rfl, hD2, small1000 (by omega), ?_⟩
      refine ⟨v2, _, _, rfl, f1, f2, ?_, ?_⟩
      · rw [Mt.wh_snoc he]
        exact ef_mut hD2 hv2
      · rw [Mt.runs_take he]
        exact f3
    · rintro σ' H' ⟨v, o1, ys, rfl, s, hD, hv, hy⟩
      rw [lx, ← Mt.runs_len k8 l, List.take_length] at hy
      exact ⟨_, rfl, k D ys H' (s1.trans s) nDH hD hy⟩
theorem badE_good {k : Km.Kd8} {m : List Mt.Ev} (g : ∀ e ∈ m, Km.pl k e.2 = e.2 ∧ e.2.length ≤ 120 ∧ ∀ z ∈ e.2, 0 ≤ z ∧ z ≤ 999999999) : badE k (effs m) = none := by
  unfold badE
  rw [List.findIdx?_eq_none_iff]
  intro d hd
  unfold effs at hd
  obtain ⟨e, he, rfl⟩ := List.mem_map.mp hd
  obtain ⟨h1, _, h2⟩ := g e he
  have z : isEf k (eD e.1 e.2) = true := Mt.isEf_good h1 h2
  rw [z] <;> rfl
theorem few_good {m : List Mt.Ev} (g : ∀ e ∈ m, e.2.length ≤ 120) : ∀ d ∈ effs m, ∀ a b, d = .tuple [a, b] → few b := by
  intro d hd a b e
  unfold effs at hd
  obtain ⟨x, hx, rfl⟩ := List.mem_map.mp hd
  unfold eD at e
  injection e with e
  injection e with _ e
  injection e with e _
  subst e
  intro ds e
  cases e
  rw [List.length_map]
  have := g x hx
  omega
theorem running_ok {K : PySem.W.Frag} {A' : Ad} {H : Hp} {k8 : Km.Kd8} {p : Addr} {xs : List V} {m : List Mt.Ev} {Q : VK} {E : XK} (hq : Sq K H p xs) (hx : DpAll K H xs (effs m)) (g : ∀ e ∈ m, Km.pl k8 e.2 = e.2 ∧ e.2.length ≤ 120 ∧ ∀ z ∈ e.2, 0 ≤ z ∧ z ≤ 999999999)
    (lw : ∀ i, (Mt.wh k8 (m.take i)).2.length ≤ 120) (ll : m.length ≤ 100) (k : ∀ r ys H', Same H H' → H r = none → H' r = some (.lst ys) → DpAll K H' ys (effs (Mt.runs k8 m)) → Q (.ref r) H') : sp_running K A' [.str (nm k8), .ref p] H Q E :=
  ⟨k8, p, xs, effs m, rfl, hq, hx, few_good fun e he => (g e he).2.1, fun _ => ⟨m, rfl, fun e he => (g e he).2.1, lw, ll, k⟩, fun i hb => by rw [badE_good g] at hb; cases hb⟩
theorem no_bad {k : Km.Kd8} {m : List Mt.Ev} {P : Nat → Prop} (g : ∀ e ∈ m, Km.pl k e.2 = e.2 ∧ e.2.length ≤ 120 ∧ ∀ z ∈ e.2, 0 ≤ z ∧ z ≤ 999999999) (i : Nat) (h : badE k (effs m) = some i) : P i := by
  rw [badE_good g] at h
  cases h
theorem few_g {k : Km.Kd8} {m : List Mt.Ev} (g : ∀ e ∈ m, Km.pl k e.2 = e.2 ∧ e.2.length ≤ 120 ∧ ∀ z ∈ e.2, 0 ≤ z ∧ z ≤ 999999999) : ∀ d ∈ effs m, ∀ a b, d = .tuple [a, b] → few b := few_good fun e he => (g e he).2.1
/-! ### running__bad -/

theorem ok_running__bad (T : Txt P K mg A') : FnOk P w K mg base (L2.CX P w) 6 A'.f_running A'.fd_running ["kind", "row"] (spBad K A'.c_BadKind 1) := by
  refine Hk.okX T.F_running sc_running (fun vs H Q E h => ?_) (fun cdv A outer s H vs Q E hr h => ?_)
  · obtain ⟨v, d, rest, rfl, e, _⟩ := h
    exact congrArg Nat.succ e
  · obtain ⟨v, d, rest, rfl, e, hd, hs, hb, k⟩ := h
    obtain ⟨r1, rfl⟩ := Ms.len1 e
    refine ⟨_, (pss_cons (ps_expr (pe_call (ok_check_effects__bad T) (hr.mono (by decide)) rfl T.g_check_effects T.F_check_effects.kp T.b_check_effects .nil (Kc.passT (takes_of rfl rfl rfl rfl)) (pa_cons (pv 0) (pa_cons (pv 1) pa_nil))))
    (pss_cons Kd.ps_dead
    (pss_cons Kd.ps_dead
    (pss_cons Kd.ps_dead
    (pss_one Kd.ps_dead))))), ?_⟩
    exact ⟨_, rfl, _, rfl, v, d, [r1], rfl, rfl, hd, hs, hb, k⟩
/-! ### steps_between -/
def sp_steps_between (K : PySem.W.Frag) (A' : Ad) : Sp := fun vs H Q E => ∃ (k8 : Km.Kd8) (p : Addr) (v0 : V) (xs : List V) (ds : List PyData), vs = [.str (nm k8), .ref p, v0] ∧ Sq K H p xs ∧ DpAll K H xs ds ∧ (∀ d ∈ ds, ∀ a b, d = .tuple [a, b] → few b) ∧
  (badE k8 ds = none → ∃ (l : List Mt.Ev) (a : Mt.Ev), ds = effs l ∧ Ef K H v0 a ∧ (∀ e ∈ a :: l, e.2.length ≤ 120 ∧ Km.pl k8 e.2 = e.2 ∧ (k8 = .tails → e.2.length ≤ 31)) ∧ l.length ≤ 100 ∧ ∀ r ys H', Same H H' → H r = none → H' r = some (.lst ys) → DpAll K H' ys ((Mt.sts k8 a l).map Mt.opD) → Q (.ref r) H') ∧
  (∀ i : Nat, badE k8 ds = some i → ∀ dx H', Same H H' → H' dx = some (.xd [("place", .int i)]) → E (.ref A'.c_BadEffect) (some dx) H')
theorem ok_steps_between (T : Txt P K mg A') : FnOk P w K mg base (L2.CX P w) 6 A'.f_steps_between A'.fd_steps_between ["kind", "row", "start"] (sp_steps_between K A') := by
  refine Ms.okX T.F_steps_between sc_steps_between (fun vs H Q E h => ?_) (fun cdv A outer s H vs Q E hr h => ?_)
  · obtain ⟨k8, p, v0, xs, ds, rfl, _⟩ := h
    rfl
  · obtain ⟨k8, p, v0, xs, ds, rfl, hq, hx, hf, k1, k2⟩ := h
    refine ⟨_, (pss_cons (ps_expr (pe_call (ok_check_effects T) (hr.mono (by decide)) rfl T.g_check_effects T.F_check_effects.kp T.b_check_effects .nil (Kc.passT (takes_of rfl rfl rfl rfl)) (pa_cons (pv 0) (pa_cons (pv 1) pa_nil))))
    (pss_cons (ps_set (i := 3) sc_steps_between.nd rfl (Or.inl rfl) (pe_lst pa_nil))
    (pss_cons (ps_set (i := 4) sc_steps_between.nd rfl (Or.inl rfl) (pv 2))
    (pss_cons (ps_for (passes_of rfl) rfl (Kd.pi_or (pi_list (pv 1)) (pi_tup (pv 1))) (pg_name (i := 5) sc_steps_between.nd rfl (Or.inl rfl)) (pss_cons (ps_expr (pe_bm PySem.F.plainAttrs_list PySem.F.slot_list_append PySem.F.type_list_append mt_append (pv 3) (pa_cons (pe_call (ok_step T) (hr.mono (by decide)) rfl T.g_step T.F_step.kp T.b_step .nil pass0 (pa_cons (pv 0) (pa_cons (pv 4) (pa_cons (pv 5) pa_nil)))) pa_nil)))
    (pss_one (ps_set (i := 4) sc_steps_between.nd rfl (Or.inl rfl) (pv 5)))))
    (pss_one (ps_ret (pv 3))))))), ?_⟩
    refine ⟨_, rfl, _, rfl, k8, p, xs, ds, rfl, hq, hx, hf, fun hb H1 s1 => ?_, fun i hb dx H1 s h => k2 i hb dx H1 s h⟩
    obtain ⟨l, a, rfl, h0, le, ll, k⟩ := k1 hb
    refine ⟨Nat.zero_le _, fun D nD => ?_⟩
    have sD := same_new (o := .lst []) nD
    have lx : xs.length = l.length := by have := dpa_len hx; rwa [Mt.effs_len] at this
    have nDH : H D = none := by
      cases h0 : H D with
      | none => rfl
      | some o => exact absurd ((s1 _ _ h0).symm.trans nD) (fun z => by cases z)
    refine ⟨_, rfl, ?_⟩
    refine Mt.forB (xs := xs) (by rfl) (sq_same s1 hq) sD (fun i σ' H' => ∃ v b o1 ys, σ' = [some (.str (nm k8)), some (.ref p), some v0, some (.ref D), some v, o1] ∧ Same H1 H' ∧ H' D = some (.lst ys) ∧ (i ≤ l.length → (a :: l)[i]? = some b ∧ Ef K H' v b) ∧ DpAll K H' ys (((Mt.sts k8 a l).take i).map Mt.opD)) ⟨v0, a, none, [], rfl, sD, upd_same, fun _ => ⟨rfl, dp_same (s1.trans sD) h0⟩, .nil⟩ (fun i σ' H' ⟨_, _, _, _, _, s, _⟩ => s) ?_ ?_
    · rintro i x σ' H' hi ⟨v, b, o1, ys, rfl, s, hD, hb, hy⟩
      have hil : i < l.length := by have := (List.getElem?_eq_some_iff.mp hi).1; omega
      obtain ⟨hb, hv⟩ := hb (by omega)
      obtain ⟨e, he, hE⟩ := Mt.get_eff (dpa_same (s1.trans s) hx) hi
      obtain ⟨lb, pb, tb⟩ := le b (List.mem_of_getElem? hb)
      obtain ⟨l2, p2, t2⟩ := le e (List.mem_cons_of_mem _ (List.mem_of_getElem? he))
      have ly : ys.length ≤ l.length := by
        have := dpa_len hy
        rw [List.length_map, List.length_take, Mt.sts_len] at this
        omega
      refine ⟨_, rfl, .inl ⟨rfl, _, SqL.of hD⟩, _, rfl, _, rfl, _, rfl, k8, v, x, b, e, rfl, hv, hE, pb, p2, lb, l2, fun z => ⟨tb z, t2 z⟩, fun v2 H2 s2 hv2 => ?_⟩
      have hv2 := Mt.found_dp.mp hv2
      have hD2 := s2 _ _ hD
      obtain ⟨f1, f2, f3⟩ := Mt.fillO nD s hD hy s2 hv2
      refine ⟨D, _, _, rfl, rfl, hD2, small1000 (by omega), ?_⟩
      refine ⟨_, rfl, x, e, _, _, rfl, f1, f2, fun _ => ⟨he, ef_mut hD2 (dp_same s2 hE)⟩, ?_⟩
      rw [Mt.sts_take hb he]
      exact f3
    · rintro σ' H' ⟨v, b, o1, ys, rfl, s, hD, hb, hy⟩
      rw [lx, ← Mt.sts_len k8 a l, List.take_length] at hy
      exact ⟨_, rfl, k D ys H' (s1.trans s) nDH hD hy⟩
theorem steps_ok {K : PySem.W.Frag} {A' : Ad} {H : Hp} {k8 : Km.Kd8} {p : Addr} {v0 : V} {xs : List V} {m : List Mt.Ev} {a : Mt.Ev} {Q : VK} {E : XK} (hq : Sq K H p xs) (hx : DpAll K H xs (effs m)) (h0 : Ef K H v0 a)
    (g : ∀ e ∈ a :: m, Km.pl k8 e.2 = e.2 ∧ e.2.length ≤ 120 ∧ ∀ z ∈ e.2, 0 ≤ z ∧ z ≤ 999999999) (tl : k8 = .tails → ∀ e ∈ a :: m, e.2.length ≤ 31) (ll : m.length ≤ 100)
    (k : ∀ r ys H', Same H H' → H r = none → H' r = some (.lst ys) → DpAll K H' ys ((Mt.sts k8 a m).map Mt.opD) → Q (.ref r) H') : sp_steps_between K A' [.str (nm k8), .ref p, v0] H Q E :=
  ⟨k8, p, v0, xs, effs m, rfl, hq, hx, few_good fun e he => (g e (List.mem_cons_of_mem _ he)).2.1, fun _ => ⟨m, a, rfl, h0, fun e he => ⟨(g e he).2.1, (g e he).1, fun z => tl z e he⟩, ll, k⟩, fun i hb => by rw [badE_good fun e he => g e (List.mem_cons_of_mem _ he)] at hb; cases hb⟩
/-! ### steps_between__bad -/

theorem ok_steps_between__bad (T : Txt P K mg A') : FnOk P w K mg base (L2.CX P w) 6 A'.f_steps_between A'.fd_steps_between ["kind", "row", "start"] (spBad K A'.c_BadKind 2) := by
  refine Ms.okX T.F_steps_between sc_steps_between (fun vs H Q E h => ?_) (fun cdv A outer s H vs Q E hr h => ?_)
  · obtain ⟨v, d, rest, rfl, e, _⟩ := h
    exact congrArg Nat.succ e
  · obtain ⟨v, d, rest, rfl, e, hd, hs, hb, k⟩ := h
    obtain ⟨r1, r2, rfl⟩ := Ms.len2 e
    refine ⟨_, (pss_cons (ps_expr (pe_call (ok_check_effects__bad T) (hr.mono (by decide)) rfl T.g_check_effects T.F_check_effects.kp T.b_check_effects .nil (Kc.passT (takes_of rfl rfl rfl rfl)) (pa_cons (pv 0) (pa_cons (pv 1) pa_nil))))
    (pss_cons Kd.ps_dead
    (pss_cons Kd.ps_dead
    (pss_cons Kd.ps_dead
    (pss_one Kd.ps_dead))))), ?_⟩
    exact ⟨_, rfl, _, rfl, v, d, [r1], rfl, rfl, hd, hs, hb, k⟩
/-! ### parting_word -/

theorem ok_parting_word (T : Txt P K mg A') : FnOk P w K mg base (L2.CX P w) 6 A'.f_parting_word A'.fd_parting_word ["kind", "small", "large"] (spBad K A'.c_BadKind 2) := by
  refine Hk.okX T.F_parting_word sc_parting_word (fun vs H Q E h => ?_) (fun cdv A outer s H vs Q E hr h => ?_)
  · obtain ⟨v, d, rest, rfl, e, _⟩ := h
    exact congrArg Nat.succ e
  · obtain ⟨v, d, rest, rfl, e, hd, hs, hb, k⟩ := h
    obtain ⟨r1, r2, rfl⟩ := Ms.len2 e
    refine ⟨_, (pss_cons (ps_if (pt_val (pe_call (ok_swallowed T) (hr.mono (by decide)) rfl T.g_swallowed T.F_swallowed.kp T.b_swallowed .nil (Kc.passT (takes_of rfl rfl rfl rfl)) (pa_cons (pv 0) (pa_cons (pv 1) (pa_cons (pv 2) pa_nil))))) (pss_one (ps_ret pe_non)) pss_nil)
    (pss_cons Kd.ps_dead
    (pss_one Kd.ps_dead))), ?_⟩
    exact ⟨_, rfl, _, rfl, _, rfl, v, d, [r1, r2], rfl, rfl, hd, hs, hb, k⟩
/-! ### _law_row -/
/-- a drawn row: plain effects of at most eight letters out of gs -/
def RowG (k : Km.Kd8) (gs : List Int) (l : List Mt.Ev) : Prop := l.length ≤ 8 ∧ ∀ e ∈ l, Km.pl k e.2 = e.2 ∧ e.2.length ≤ 8 ∧ ∀ x ∈ e.2, x ∈ gs
def sp__law_row (K : PySem.W.Frag) : Sp := fun vs H Q _ => ∃ (S c : Addr) (k8 : Km.Kd8) (G : Addr) (gs : List Int), vs = [.ref S, .str (nm k8), .ref G] ∧ Stm S c H ∧ Lets S c G gs H ∧
  ∀ r xs l H', Ext S H H' → Stm S c H' → Mt.RowL K S r xs l H' → H r = none → RowG k8 gs l → Q (.ref r) H'
def sizes8 : List Int := [0, 1, 2, 3, 4, 5, 1, 2, 3, 8]
theorem sizes8_at : ∀ n : Nat, n < 10 → ∃ m : Nat, sizes8[n]? = some (m : Int) ∧ m ≤ 8
  | 0, _ => ⟨0, rfl, by decide⟩
  | 1, _ => ⟨1, rfl, by decide⟩
  | 2, _ => ⟨2, rfl, by decide⟩
  | 3, _ => ⟨3, rfl, by decide⟩
  | 4, _ => ⟨4, rfl, by decide⟩
  | 5, _ => ⟨5, rfl, by decide⟩
  | 6, _ => ⟨1, rfl, by decide⟩
  | 7, _ => ⟨2, rfl, by decide⟩
  | 8, _ => ⟨3, rfl, by decide⟩
  | 9, _ => ⟨8, rfl, by decide⟩
  | n + 10, h => absurd h (by omega)
theorem ok__law_row (T : Txt P K mg A') : FnOk P w K mg base CX0 6 A'.f__law_row A'.fd__law_row ["_law_stream_here", "_law_kind_here", "_law_letters_here"] (sp__law_row K) := by
  refine Hk.okN T.F__law_row sc__law_row (fun vs H Q E h => ?_) (fun cdv A outer s H vs Q E hr h => ?_)
  · obtain ⟨S, c, k8, G, gs, rfl, _⟩ := h
    rfl
  · obtain ⟨S, c, k8, G, gs, rfl, hS, hG, k⟩ := h
    refine ⟨_, (pss_cons (ps_set (i := 3) sc__law_row.nd rfl (Or.inl rfl) (pe_lst pa_nil))
    (pss_cons (ps_set (i := 4) sc__law_row.nd rfl (Or.inl rfl) (pe_tup pa_nil))
    (pss_cons (ps_for PassesOwn.never rfl (pi_range1 (by rfl) T.z_range (pa_cons (pe_ix ix_tup (pe_tup (pa_cons pe_int (pa_cons pe_int (pa_cons pe_int (pa_cons pe_int (pa_cons pe_int (pa_cons pe_int (pa_cons pe_int (pa_cons pe_int (pa_cons pe_int (pa_cons pe_int pa_nil))))))))))) (pe_call (ok__law_pick T) (hr.mono (by decide)) rfl T.g__law_pick T.F__law_pick.kp T.b__law_pick .nil pass0 (pa_cons (pv 0) (pa_cons pe_int pa_nil))) (fun _ _ => rfl)) pa_nil)) (pg_name (i := 5) sc__law_row.nd rfl (Or.inl rfl)) (pss_cons (ps_set (i := 6) sc__law_row.nd rfl (Or.inl rfl) (pe_cmpR op_gt (pe_call (ok__law_pick T) (hr.mono (by decide)) rfl T.g__law_pick T.F__law_pick.kp T.b__law_pick .nil pass0 (pa_cons (pv 0) (pa_cons pe_int pa_nil))) pe_int (nomark _)))
    (Evl.pss_cut (ps_if (pt_cmpR op_eq (pv 5) pe_int (nomark _)) (pss_one (ps_set (i := 4) sc__law_row.nd rfl (Or.inl rfl) (pe_call (ok__law_raw T) (hr.mono (by decide)) rfl T.g__law_raw T.F__law_raw.kp T.b__law_raw .nil pass0 (pa_cons (pv 0) (pa_cons (pv 2) pa_nil))))) (pss_one (ps_set (i := 4) sc__law_row.nd rfl (Or.inl rfl) (pe_slice sl_tupA (pe_call (ok__law_near T) (hr.mono (by decide)) rfl T.g__law_near T.F__law_near.kp T.b__law_near .nil pass0 (pa_cons (pv 0) (pa_cons (pv 2) (pa_cons (pv 4) pa_nil)))) po_none (po_some pe_int)))))
    (pss_cons (ps_set (i := 4) sc__law_row.nd rfl (Or.inl rfl) (pe_call (ok__law_plain T) (hr.mono (by decide)) rfl T.g__law_plain T.F__law_plain.kp T.b__law_plain .nil pass0 (pa_cons (pv 1) (pa_cons (pv 4) pa_nil))))
    (pss_one (ps_expr (pe_bm PySem.F.plainAttrs_list PySem.F.slot_list_append PySem.F.type_list_append mt_append (pv 3) (pa_cons (pe_tup (pa_cons (pv 6) (pa_cons (pv 4) pa_nil))) pa_nil))))))))
    (pss_one (ps_ret (pv 3)))))), ?_⟩
    have two : 2 ≤ sizeLine := by decide
    refine ⟨Nat.zero_le _, fun D nD => ?_⟩
    have nDS : D ≠ S := ext_ne hS nD
    have nDc : D ≠ c := ext_nc hS nD
    refine ⟨Nat.zero_le _, fun z nz => ?_⟩
    have hS2 := stm_new (o := .tup []) (stm_new (o := .lst []) hS nD) nz
    have hG2 := (hG.ext (.of (same_new (o := .lst []) nD))).ext (.of (same_new (o := .tup []) nz))
    have e02 : Ext S H (upd (upd H D (.lst [])) z (.tup [])) := (Ext.of (same_new nD)).trans (.of (same_new nz))
    have hD2 : (upd (upd H D (.lst [])) z (.tup [])) D = some (.lst []) := same_new nz _ _ upd_same
    have hz2 : Dp K (upd (upd H D (.lst [])) z (.tup [])) (.ref z) (wD []) := w_mk (ns := []) (.inl (.inl upd_same))
    generalize upd (upd H D (.lst [])) z (.tup []) = H2 at *
    refine ⟨(by show 10 ≤ sizeLine; decide), fun t nt => ⟨_, rfl, S, c, 10, rfl, stm_new hS2 nt, by decide, fun r H3 h0 h1 _ hS3 e3 => ?_⟩⟩
    obtain ⟨n, rfl⟩ := Int.eq_ofNat_of_zero_le h0
    obtain ⟨m, hm, hm8⟩ := sizes8_at n (by omega)
    have e23 : Ext S H2 H3 := (Ext.new nt).trans e3
    refine ⟨t, sizes8.map V.int, _, .int m, rfl, rfl, sqt_ext (stm_new hS2 nt) e3 (.inl (.inl upd_same)), atI_nat (by rw [List.getElem?_map, hm] <;> rfl), ?_⟩
    have hG3 := hG2.ext e23
    refine ⟨_, rfl, by omega, by omega, ?_⟩
    refine for_range (lo := 0) (n := m) (fun i σ' H' => ∃ v ns o1 o2 xs l, σ' = [some (.ref S), some (.str (nm k8)), some (.ref G), some (.ref D), some v, o1, o2] ∧ Ext S H H' ∧ Stm S c H' ∧ Lets S c G gs H' ∧ Dp K H' v (wD ns) ∧ ns.length ≤ 8 ∧ (∀ x ∈ ns, x ∈ gs) ∧ Mt.RowL K S D xs l H' ∧ l.length = i ∧ RowG k8 gs l) ⟨.ref z, [], none, none, [], [], rfl, e02.trans e23, hS3, hG3, w_ext hS2 e23 hz2, Nat.zero_le _, (fun x hx => by cases hx), ⟨nDS, e23 _ _ nDS hD2, .nil⟩, rfl, Nat.zero_le _, fun e he => by cases he⟩ ?_ ?_
    · rintro i σ' H4 hi ⟨v, ns, o1, o2, xs, l, rfl, e4, hS4, hG4, hv4, ln, ig, hD4, hl, hR⟩
      rw [Int.zero_add]
      refine ⟨_, rfl, S, c, 10, rfl, hS4, by decide, fun r5 H5 a5 b5 _ hS5 e5 => ⟨_, _, rfl, rfl, ?_⟩⟩
      refine ⟨fun σ7 H7 => ∃ v7 ns7, σ7 = [some (.ref S), some (.str (nm k8)), some (.ref G), some (.ref D), some v7, some (.int (i : Int)), some (.bl (decide ((6 : Int) < r5)))] ∧ Ext S H5 H7 ∧ Stm S c H7 ∧ Dp K H7 v7 (wD ns7) ∧ ns7.length ≤ 7 ∧ ∀ x ∈ ns7, x ∈ gs, ?_, ?_⟩
      · have hG5 := hG4.ext e5
        have hv5 := w_ext hS4 e5 hv4
        refine ⟨_, rfl, rfl, _, rfl, ?_⟩
        refine if2 (fun c0 => ?_) (fun c0 => ?_)
        · exact ⟨_, rfl, _, rfl, S, c, G, gs, rfl, hS5, hG5, fun v7 ns7 H7 e7 hS7 hv7 l7 i7 => ⟨v7, ns7, rfl, e7, hS7, hv7, l7, i7⟩⟩
        · refine ⟨_, rfl, _, rfl, _, rfl, S, c, G, v, gs, ns, rfl, hS5, hG5, hv5, by omega, ig, fun u ms H7 e7 hS7 hu lu iu => ?_⟩
          obtain ⟨t7, rfl, ht7⟩ := w_inv hu
          refine ⟨7, rfl, ?_⟩
          dsimp only [tNoPart]
          refine slA_fin ht7 fun q7 H8 s8 h8 => ?_
          refine ⟨_, _, rfl, e7.trans (.of s8), stm_same hS7 s8, w_mk h8, ?_, fun x hx => iu x ((cut_sub ms _ _).2 x hx)⟩
          rw [show (7 : Int) = ((7 : Nat) : Int) from rfl, cut_to, List.length_take]
          omega
      · rintro σ7 H7 ⟨v7, ns7, rfl, e7, hS7, hv7, l7, i7⟩
        obtain ⟨t7, rfl, ht7⟩ := w_inv hv7
        refine ⟨_, rfl, _, rfl, k8, t7, ns7, rfl, ht7, by omega, fun v8 H8 s8 hv8 => ?_⟩
        have e48 := (e5.trans e7).trans (.of s8)
        have hD8 := hD4.ext hS4 e48
        have lx := hD8.len
        refine ⟨_, rfl, .inl ⟨rfl, _, SqL.of hD8.at_⟩, _, rfl, _, rfl, two, fun q nq => ?_⟩
        have sq := same_new (o := .tup [.bl (decide ((6 : Int) < r5)), v8]) nq
        have hE : Ef K (upd H8 q (.tup [.bl (decide ((6 : Int) < r5)), v8])) (.ref q) (decide ((6 : Int) < r5), Km.pl k8 ns7) := by
          obtain ⟨t8, rfl, ht8⟩ := w_inv hv8
          exact e_mk (.inl (.inl upd_same)) (dp_same sq (w_mk ht8))
        have hD9 := hD8.same sq
        have hv9 := dp_same sq hv8
        have hS9 := stm_same (stm_same hS7 s8) sq
        have e49 := e48.trans (.of sq)
        generalize upd H8 q (.tup [.bl (decide ((6 : Int) < r5)), v8]) = H9 at *
        have hR1 := hR.1
        have l8 : (Km.pl k8 ns7).length ≤ 8 := Nat.le_trans (Km.pl_len k8 ns7) (by omega)
        have ig8 : ∀ x ∈ Km.pl k8 ns7, x ∈ gs := fun x hx => i7 x (Km.mem_pl hx)
        have e410 : Ext S H (upd H9 D (.lst (xs ++ [.ref q]))) := ext_mut (e4.trans e49) nD
        have hS10 : Stm S c (upd H9 D (.lst (xs ++ [.ref q]))) := stm_put hS9 nDS nDc
        refine ⟨D, _, _, rfl, rfl, hD9.at_, small1000 (by omega), v8, Km.pl k8 ns7, _, _, xs ++ [.ref q], l ++ [(decide ((6 : Int) < r5), Km.pl k8 ns7)], rfl, e410, hS10, hG.ext e410, w_mut hD9.at_ hv9, l8, ig8, ⟨nDS, upd_same, ?_⟩, by rw [List.length_append, hl] <;> rfl, ?_, fun e he => ?_⟩
        · rw [Mt.effs_snoc]
          exact dpa_snoc (Mr.effs_mut hD9.at_ hD9.dat) (ef_mut hD9.at_ hE)
        · rw [List.length_append, hl]
          show i + 1 ≤ 8
          omega
        · rcases List.mem_append.mp he with h | h
          · exact hR.2 e h
          · rw [List.mem_singleton.mp h]
            exact ⟨Km.pl_idem k8 ns7, l8, ig8⟩
    · rintro σ' H4 ⟨v, ns, o1, o2, xs, l, rfl, e4, hS4, hG4, hv4, ln, ig, hD4, hl, hR⟩
      exact ⟨_, rfl, k D xs l H4 e4 hS4 hD4 nD hR⟩
/-! ### change_places -/

theorem ok_change_places (T : Txt P K mg A') : FnOk P w K mg base (L2.CX P w) 7 A'.f_change_places A'.fd_change_places ["kind", "one", "other"] (spBad K A'.c_BadKind 2) := by
  refine Hk.okX T.F_change_places sc_change_places (fun vs H Q E h => ?_) (fun cdv A outer s H vs Q E hr h => ?_)
  · obtain ⟨v, d, rest, rfl, e, _⟩ := h
    exact congrArg Nat.succ e
  · obtain ⟨v, d, rest, rfl, e, hd, hs, hb, k⟩ := h
    obtain ⟨r1, r2, rfl⟩ := Ms.len2 e
    refine ⟨_, (pss_one (ps_ret (pe_cmpR op_eq (Kd.pe_callR (ok_then__bad T) (hr.mono (by decide)) rfl T.g_then T.F_then.kp (Kc.passT (takes_of rfl rfl rfl rfl)) (pa_cons (pv 0) (pa_cons (pv 1) (pa_cons (pv 2) pa_nil)))) (Kd.pe_callR (ok_then__bad T) (hr.mono (by decide)) rfl T.g_then T.F_then.kp (Kc.passT (takes_of rfl rfl rfl rfl)) (pa_cons (pv 0) (pa_cons (pv 2) (pa_cons (pv 1) pa_nil)))) (nomark _)))), ?_⟩
    exact ⟨_, rfl, _, rfl, _, rfl, [v], [r1, r2], rfl, rfl, (by show 2 ≤ sizeLine; decide), fun p np => ⟨v, d, [.ref p], rfl, rfl, dp_same (same_new np) hd, hs, hb, fun dx H' s h => k dx H' ((same_new np).trans s) h⟩⟩
/-! ### parting_swap -/

theorem ok_parting_swap (T : Txt P K mg A') : FnOk P w K mg base (L2.CX P w) 7 A'.f_parting_swap A'.fd_parting_swap ["kind", "one", "other"] (spBad K A'.c_BadKind 2) := by
  refine Hk.okX T.F_parting_swap sc_parting_swap (fun vs H Q E h => ?_) (fun cdv A outer s H vs Q E hr h => ?_)
  · obtain ⟨v, d, rest, rfl, e, _⟩ := h
    exact congrArg Nat.succ e
  · obtain ⟨v, d, rest, rfl, e, hd, hs, hb, k⟩ := h
    obtain ⟨r1, r2, rfl⟩ := Ms.len2 e
    refine ⟨_, (pss_one (ps_ret (pe_call (ok_parting_state T) (hr.mono (by decide)) rfl T.g_parting_state T.F_parting_state.kp T.b_parting_state .nil (Kc.passT (takes_of rfl rfl rfl rfl)) (pa_cons (pv 0) (pa_cons (Kd.pe_callR (ok_then__bad T) (hr.mono (by decide)) rfl T.g_then T.F_then.kp (Kc.passT (takes_of rfl rfl rfl rfl)) (pa_cons (pv 0) (pa_cons (pv 1) (pa_cons (pv 2) pa_nil)))) (pa_cons (Kd.pe_callR (ok_then__bad T) (hr.mono (by decide)) rfl T.g_then T.F_then.kp (Kc.passT (takes_of rfl rfl rfl rfl)) (pa_cons (pv 0) (pa_cons (pv 2) (pa_cons (pv 1) pa_nil)))) pa_nil)))))), ?_⟩
    exact ⟨_, rfl, _, rfl, _, rfl, _, rfl, [v], [r1, r2], rfl, rfl, (by show 2 ≤ sizeLine; decide), fun p np => ⟨v, d, [.ref p], rfl, rfl, dp_same (same_new np) hd, hs, hb, fun dx H' s h => k dx H' ((same_new np).trans s) h⟩⟩
/-! ### _law_along -/
def sp__law_along (K : PySem.W.Frag) : Sp := fun vs H Q _ => ∃ (k8 : Km.Kd8) (p q : Addr) (xs zs : List V) (l l2 : List Mt.Ev) (gs : List Int), vs = [.str (nm k8), .ref p, .ref q] ∧ SqL K H p xs ∧ SqL K H q zs ∧ DpAll K H xs (effs l) ∧ DpAll K H zs (effs l2) ∧ gs.length ≤ 10 ∧ (∀ x ∈ gs, 0 ≤ x ∧ x ≤ 999999999) ∧
  RowG k8 gs l ∧ Mt.SameW k8 l l2 ∧ (∀ e ∈ l2, Km.pl k8 e.2 = e.2 ∧ e.2.length ≤ 120) ∧ ∀ H', Same H H' → Q (.bl true) H'
theorem same_call {K : PySem.W.Frag} {H : Hp} {p q : Addr} {xs ys : List V} {m : List Mt.Ev} {Q : VK} {E : XK} (hp : SqL K H p xs) (hq : SqL K H q ys) (hx : DpAll K H xs (effs m)) (hy : DpAll K H ys (effs m)) (ll : m.length ≤ 100) (le : ∀ e ∈ m, e.2.length ≤ 900)
    (k : ∀ H', Same H H' → Q (.bl true) H') : sp__law_same_row K [.ref p, .ref q] H Q E := by
  rw [Mt.effs_op] at hx hy
  exact ⟨p, q, xs, ys, m.map some, rfl, hp, hq, hx, hy, by rw [List.length_map]; exact ll, fun e he => by obtain ⟨f, hf, z⟩ := List.mem_map.mp he; cases z; exact le e hf, k⟩
theorem sm_row {K : PySem.W.Frag} {H : Hp} {xs : List V} {m : List Mt.Ev} (h : DpAll K H xs (effs m)) : DpAll K H xs ((m.map some).map Mt.opD) := by rw [← Mt.effs_op]; exact h
theorem sm_len {m : List Mt.Ev} (h : m.length ≤ 100) : (m.map some).length ≤ 100 := by rw [List.length_map]; exact h
theorem sm_let {m : List Mt.Ev} (h : ∀ e ∈ m, e.2.length ≤ 120) : ∀ e, some e ∈ m.map some → e.2.length ≤ 900 := fun e he => by obtain ⟨f, hf, z⟩ := List.mem_map.mp he; cases z; have := h e hf; omega
theorem ok__law_along (T : Txt P K mg A') : FnOk P w K mg base CX0 7 A'.f__law_along A'.fd__law_along ["_law_kind_here", "_law_row_here", "_law_twin"] (sp__law_along K) := by
  refine Hk.okN T.F__law_along sc__law_along (fun vs H Q E h => ?_) (fun cdv A outer s H vs Q E hr h => ?_)
  · obtain ⟨k8, p, q, xs, zs, l, l2, gs, rfl, _⟩ := h
    rfl
  · obtain ⟨ds, hbd, hvd⟩ := T.dd1_steps_between
    obtain ⟨k8, p, q, xs, zs, l, l2, gs, rfl, hp, hq, hx, hz, lg, rg, hG, hW, g2, k⟩ := h
    refine ⟨_, (pss_cons (ps_set (i := 3) sc__law_along.nd rfl (Or.inl rfl) (pe_call (ok__law_running T) (hr.mono (by decide)) rfl T.g__law_running T.F__law_running.kp T.b__law_running .nil pass0 (pa_cons (pv 0) (pa_cons (pv 1) pa_nil))))
    (pss_cons (ps_set (i := 4) sc__law_along.nd rfl (Or.inl rfl) (pe_callTy call_list_of (by rfl) T.z_list (by decide +kernel) (pa_cons (pv 1) pa_nil)))
    (pss_cons (ps_set (i := 5) sc__law_along.nd rfl (Or.inl rfl) (pe_call (ok_running T) (hr.mono (by decide)) rfl T.g_running T.F_running.kp T.b_running .nil passL (pa_cons (pv 0) (pa_cons (pv 1) pa_nil))))
    (pss_cons (ps_if (PW.pt (pw_or (pt_cmpR (op_neD hr.units) (pv 1) (pv 4) (nomark _)) (pw_or (pt_not (pt_val (pe_call (ok__law_same_row T) (hr.mono (by decide)) rfl T.g__law_same_row T.F__law_same_row.kp T.b__law_same_row .nil pass0 (pa_cons (pv 5) (pa_cons (pv 3) pa_nil))))) (pw_or1 (pt_not (pt_val (pe_call (ok__law_same_row T) (hr.mono (by decide)) rfl T.g__law_same_row T.F__law_same_row.kp T.b__law_same_row .nil pass0 (pa_cons (pe_call (ok_running T) (hr.mono (by decide)) rfl T.g_running T.F_running.kp T.b_running .nil passL (pa_cons (pv 0) (pa_cons (pe_callTy call_tuple_of (by rfl) T.z_tuple (by decide +kernel) (pa_cons (pv 1) pa_nil)) pa_nil))) (pa_cons (pv 3) pa_nil))))))))) (pss_one (ps_ret pe_bl)) pss_nil)
    (pss_cons (ps_expr (pe_bm PySem.F.plainAttrs_list PySem.F.slot_list_append PySem.F.type_list_append mt_append (pv 5) (pa_cons pe_non pa_nil)))
    (pss_cons (ps_if (pt_not (pt_val (pe_call (ok__law_same_row T) (hr.mono (by decide)) rfl T.g__law_same_row T.F__law_same_row.kp T.b__law_same_row .nil pass0 (pa_cons (pe_call (ok_running T) (hr.mono (by decide)) rfl T.g_running T.F_running.kp T.b_running .nil passL (pa_cons (pv 0) (pa_cons (pv 1) pa_nil))) (pa_cons (pv 3) pa_nil))))) (pss_one (ps_ret pe_bl)) pss_nil)
    (pss_cons (ps_set (i := 5) sc__law_along.nd rfl (Or.inl rfl) (pe_call (ok_steps_between T) (hr.mono (by decide)) rfl T.g_steps_between T.F_steps_between.kp hbd hvd passL (pa_cons (pv 0) (pa_cons (pv 3) pa_nil))))
    (pss_cons (ps_if (PW.pt (pw_or (pt_not (pt_val (pe_call (ok__law_same_row T) (hr.mono (by decide)) rfl T.g__law_same_row T.F__law_same_row.kp T.b__law_same_row .nil pass0 (pa_cons (pv 5) (pa_cons (pe_call (ok__law_steps T) (hr.mono (by decide)) rfl T.g__law_steps T.F__law_steps.kp T.b__law_steps .nil pass0 (pa_cons (pv 0) (pa_cons (pe_tup (pa_cons pe_bl (pa_cons (pe_tup pa_nil) pa_nil))) (pa_cons (pv 3) pa_nil)))) pa_nil))))) (pw_or1 (pt_not (pt_val (pe_call (ok__law_same_row T) (hr.mono (by decide)) rfl T.g__law_same_row T.F__law_same_row.kp T.b__law_same_row .nil pass0 (pa_cons (pe_call (ok_running T) (hr.mono (by decide)) rfl T.g_running T.F_running.kp T.b_running .nil passL (pa_cons (pv 0) (pa_cons (pv 5) pa_nil))) (pa_cons (pv 3) pa_nil)))))))) (pss_one (ps_ret pe_bl)) pss_nil)
    (pss_cons (ps_for PassesOwn.never rfl (pi_tup (pe_tup (pa_cons (pv 1) (pa_cons (pv 2) pa_nil)))) (pg_name (i := 6) sc__law_along.nd rfl (Or.inl rfl)) (pss_cons (ps_set (i := 7) sc__law_along.nd rfl (Or.inl rfl) (pe_lst (pa_cons (pe_call (ok_row_letters T) (hr.mono (by decide)) rfl T.g_row_letters T.F_row_letters.kp T.b_row_letters .nil pass0 (pa_cons (pv 6) pa_nil)) (pa_cons (pe_call (ok_row_count T) (hr.mono (by decide)) rfl T.g_row_count T.F_row_count.kp T.b_row_count .nil pass0 (pa_cons (pv 6) pa_nil)) pa_nil))))
    (pss_cons (ps_if (PW.pt (pw_or (pt_not (pt_val (pe_call (ok__law_is_number T) (hr.mono (by decide)) rfl T.g__law_is_number T.F__law_is_number.kp T.b__law_is_number .nil pass0 (pa_cons (pe_ix ix_list (pv 7) pe_int (fun _ _ => rfl)) pa_nil)))) (pw_or (pt_not (pt_val (pe_call (ok__law_is_number T) (hr.mono (by decide)) rfl T.g__law_is_number T.F__law_is_number.kp T.b__law_is_number .nil pass0 (pa_cons (pe_ix ix_list (pv 7) pe_int (fun _ _ => rfl)) pa_nil)))) (pw_or1 (pt_cmpR (op_neD hr.units) (pv 7) (pe_call (ok__law_sums T) (hr.mono (by decide)) rfl T.g__law_sums T.F__law_sums.kp T.b__law_sums .nil pass0 (pa_cons (pv 6) pa_nil)) (nomark _)))))) (pss_one (ps_ret pe_bl)) pss_nil)
    (pss_cons (ps_if (pt_cmpR (op_neD hr.units) (pe_lst (pa_cons (pe_call (ok_row_letters T) (hr.mono (by decide)) rfl T.g_row_letters T.F_row_letters.kp T.b_row_letters .nil pass0 (pa_cons (pe_callTy call_tuple_of (by rfl) T.z_tuple (by decide +kernel) (pa_cons (pv 6) pa_nil)) pa_nil)) (pa_cons (pe_call (ok_row_count T) (hr.mono (by decide)) rfl T.g_row_count T.F_row_count.kp T.b_row_count .nil pass0 (pa_cons (pe_callTy call_tuple_of (by rfl) T.z_tuple (by decide +kernel) (pa_cons (pv 6) pa_nil)) pa_nil)) pa_nil))) (pv 7) (nomark _)) (pss_one (ps_ret pe_bl)) pss_nil)
    (pss_one (ps_if (PW.pt (pw_or (pt_cmpR op_gt (pe_call (ok_row_letters T) (hr.mono (by decide)) rfl T.g_row_letters T.F_row_letters.kp T.b_row_letters .nil pass0 (pa_cons (pv 5) pa_nil)) (pe_ix ix_list (pv 7) pe_int (fun _ _ => rfl)) (nomark _)) (pw_or1 (pt_cmpR op_gt (pe_call (ok_row_count T) (hr.mono (by decide)) rfl T.g_row_count T.F_row_count.kp T.b_row_count .nil pass0 (pa_cons (pv 5) pa_nil)) (pe_ix ix_list (pv 7) pe_int (fun _ _ => rfl)) (nomark _))))) (pss_one (ps_ret pe_bl)) pss_nil))))))
    (pss_one (ps_ret pe_bl))))))))))), ?_⟩
    have two : 2 ≤ sizeLine := by decide
    have ll := hG.1
    have gl : ∀ e ∈ l, Km.pl k8 e.2 = e.2 ∧ e.2.length ≤ 120 ∧ ∀ z ∈ e.2, 0 ≤ z ∧ z ≤ 999999999 := fun e he => ⟨(hG.2 e he).1, by have := (hG.2 e he).2.1; omega, fun z hz => rg z ((hG.2 e he).2.2 z hz)⟩
    have pl : ∀ e ∈ l, Km.pl k8 e.2 = e.2 := fun e he => (gl e he).1
    have lw : ∀ i, (Mt.wh k8 (l.take i)).2.length ≤ 120 := fun i => by
      have h1 := Mt.wh_len (k := k8) (l := l.take i) (n := 8) fun e he => (hG.2 e (List.mem_of_mem_take he)).2.1
      have h2 : (l.take i).length ≤ 8 := by rw [List.length_take]; omega
      have h3 : (l.take i).length * (8 + 1) ≤ 8 * 9 := Nat.mul_le_mul_right _ h2
      omega
    have mw : ∀ i, ∀ z ∈ (Mt.wh k8 (l.take i)).2, z ∈ gs := fun i => Mt.wh_mem fun e he => (hG.2 e (List.mem_of_mem_take he)).2.2
    have tw : k8 = .tails → ∀ i, (Mt.wh k8 (l.take i)).2.length ≤ 31 := fun z i => by
      subst z
      have := Mt.wh_tails (l := l.take i) (gs := gs) fun e he => (hG.2 e (List.mem_of_mem_take he)).2.2
      omega
    have gr : ∀ e ∈ Mt.runs k8 l, Km.pl k8 e.2 = e.2 ∧ e.2.length ≤ 120 ∧ ∀ z ∈ e.2, 0 ≤ z ∧ z ≤ 999999999 := fun e he => by
      obtain ⟨i, hi⟩ := List.mem_iff_getElem?.mp he
      obtain ⟨_, _, rfl⟩ := Mt.runs_at hi
      exact ⟨(Mt.wh_nrm _ _).pl, lw _, fun z hz => rg z (mw _ z hz)⟩
    have gs8 : ∀ e ∈ Mt.stE k8 l, Km.pl k8 e.2 = e.2 ∧ e.2.length ≤ 120 ∧ ∀ z ∈ e.2, 0 ≤ z ∧ z ≤ 999999999 := fun e he => by
      obtain ⟨i, hi⟩ := Mt.stE_sub pl e he
      exact ⟨Mt.stE_pl pl e he, Nat.le_trans hi.length_le (lw i), fun z hz => rg z (mw i z (hi.subset hz))⟩
    have lr : (Mt.runs k8 l).length = l.length := Mt.runs_len k8 l
    have lx : xs.length = l.length := by have := dpa_len hx; rwa [Mt.effs_len] at this
    have lz : zs.length = l2.length := by have := dpa_len hz; rwa [Mt.effs_len] at this
    have l22 : l2.length = l.length := hW.1
    -- due, kept, told
    refine ⟨_, rfl, _, rfl, k8, p, xs, l, rfl, hp, hx, fun e he => ⟨(gl e he).2.1, (gl e he).1⟩, lw, by omega, fun R ys H1 s1 nR hR hy => ?_⟩
    refine ⟨_, rfl, p, _, rfl, .inl (s1.seq hp), fun L nL => ?_⟩
    have sL := same_new (o := .lst xs) nL
    have hL0 : (upd H1 L (.lst xs)) L = some (.lst xs) := upd_same
    have s2 := s1.trans sL
    have hR2 := sL _ _ hR
    have hy2 := dpa_same sL hy
    generalize upd H1 L (.lst xs) = H2 at *
    refine ⟨_, rfl, _, rfl, ⟨k8, _, _, effs (l), rfl, .inl (s2.seq hp), dpa_same s2 hx, few_g gl, fun _ => ⟨l, rfl, fun e he => (gl e he).2.1, lw, by omega, fun t ts H3 s3 nt ht hts => ?_⟩, no_bad gl⟩⟩
    have s03 := s2.trans s3
    have hL3 := s3 _ _ hL0
    have hR3 := s3 _ _ hR2
    have hy3 := dpa_same s3 hy2
    -- if 1
    refine ⟨_, rfl, _, rfl, _, _, .lst (s03.seq hp) (dpa_same s03 hx), .lst (SqL.of hL3) (dpa_same s03 hx), Mt.shaped_effs _, Mt.shaped_effs _, _, rfl, ?_⟩
    refine ifF (by rw [eqv_self (Mt.shaped_effs _)] <;> rfl) ?_
    refine ⟨_, rfl, _, rfl, ⟨_, _, _, _, (Mt.runs k8 l).map some, rfl, SqL.of ht, SqL.of hR3, sm_row hts, sm_row hy3, sm_len (by omega), sm_let fun e he => (gr e he).2.1, fun H4 s4 => ⟨_, rfl, ifF rfl ?_⟩⟩⟩
    have s04 := s03.trans s4
    refine ⟨_, rfl, _, rfl, p, _, rfl, .inl ⟨s04.seq hp, fun T4 nT => ?_⟩⟩
    have sT := same_new (o := .tup xs) nT
    have s05 := s04.trans sT
    refine ⟨k8, _, _, effs (l), rfl, .inr (.inl (.inl upd_same)), dpa_same s05 hx, few_g gl, fun _ => ⟨l, rfl, fun e he => (gl e he).2.1, lw, by omega, fun r6 y6 H6 s6 n6 h6 d6 => ?_⟩, no_bad gl⟩
    have s46 := (s4.trans sT).trans s6
    refine ⟨_, rfl, ⟨_, _, _, _, (Mt.runs k8 l).map some, rfl, SqL.of h6, SqL.of (s46 _ _ hR3), sm_row d6, sm_row (dpa_same s46 hy3), sm_len (by omega), sm_let fun e he => (gr e he).2.1, fun H7 s7 => ⟨_, rfl, ifF rfl ?_⟩⟩⟩
    have s37 := s46.trans s7
    -- told.append(None)
    refine ⟨_, rfl, .inl ⟨rfl, _, SqL.of (s37 _ _ ht)⟩, t, _, _, rfl, rfl, s37 _ _ ht, ?_, ?_⟩
    · have := dpa_len hts
      rw [Mt.effs_len] at this
      exact small1000 (by omega)
    have s28 : Same H2 (upd H7 t (.lst (ts ++ [.non]))) := same_mut (s3.trans s37) nt
    generalize upd H7 t (.lst (ts ++ [.non])) = H8 at *
    have s08 := s2.trans s28
    refine ⟨_, rfl, _, rfl, ⟨k8, _, _, effs (l), rfl, .inl (s08.seq hp), dpa_same s08 hx, few_g gl, fun _ => ⟨l, rfl, fun e he => (gl e he).2.1, lw, by omega, fun r9 y9 H9 s9 n9 h9 d9 => ?_⟩, no_bad gl⟩⟩
    refine ⟨_, rfl, ⟨_, _, _, _, (Mt.runs k8 l).map some, rfl, SqL.of h9, SqL.of ((s28.trans s9) _ _ hR2), sm_row (d9), sm_row (dpa_same (s28.trans s9) hy2), sm_len (by omega), sm_let fun e he => (gr e he).2.1, fun H10 s10 => ⟨_, rfl, ifF rfl ?_⟩⟩⟩
    have s210 := (s28.trans s9).trans s10
    have hR10 := s210 _ _ hR2
    have hy10 := dpa_same s210 hy2
    have s010 := s2.trans s210
    -- steps
    obtain ⟨pI, hI⟩ := T.ke_IDLE
    have gx : ∀ e ∈ ((false, []) : Mt.Ev) :: Mt.runs k8 l, e.2.length ≤ 120 ∧ Km.pl k8 e.2 = e.2 ∧ (k8 = .tails → e.2.length ≤ 31) := fun e he => by
      rcases List.mem_cons.mp he with rfl | he
      · exact ⟨Nat.zero_le _, pl_nil0 k8, fun _ => Nat.zero_le _⟩
      · obtain ⟨i, hi⟩ := List.mem_iff_getElem?.mp he
        obtain ⟨_, _, rfl⟩ := Mt.runs_at hi
        exact ⟨lw _, (Mt.wh_nrm _ _).pl, fun z => tw z _⟩
    refine ⟨_, rfl, _, rfl, k8, R, .ref A'.k_IDLE, ys, effs (Mt.runs k8 l), rfl, .inl (SqL.of hR10), hy10, few_g gr, fun _ => ⟨Mt.runs k8 l, (false, []), rfl, e_mk (hI _).1 (w_mk (ns := []) (hI _).2), gx, by omega, fun W ws H11 s11 nW hW11 d11 => ?_⟩, no_bad gr⟩
    rw [Mt.sts_stE pl, ← Mt.effs_op] at d11
    have lst : (Mt.stE k8 l).length = l.length := Mt.stE_len
    have hR11 := s11 _ _ hR10
    have hy11 := dpa_same s11 hy10
    refine ⟨_, rfl, _, rfl, Nat.zero_le _, fun z nz => ⟨two, fun q1 n1 => ?_⟩⟩
    have sz := (same_new (o := .tup []) nz).trans (same_new (o := .tup [.bl false, .ref z]) n1)
    have hq1 : Ef K (upd (upd H11 z (.tup [])) q1 (.tup [.bl false, .ref z])) (.ref q1) (false, []) := e_mk (.inl (.inl upd_same)) (dp_same (same_new n1) (w_mk (ns := []) (.inl (.inl upd_same))))
    generalize upd (upd H11 z (.tup [])) q1 (.tup [.bl false, .ref z]) = H12 at *
    refine ⟨_, rfl, k8, .ref q1, R, ys, Mt.runs k8 l, (false, []), rfl, SqL.of (sz _ _ hR11), dpa_same sz hy11, hq1, fun e he => ⟨(gx e he).1, (gx e he).2.1⟩, by omega, fun W2 ws2 H14 s14 nW2 hW14 d14 => ?_⟩
    rw [Mt.sts_stE pl, ← Mt.effs_op] at d14
    have s1114 := sz.trans s14
    refine ⟨_, _, _, _, (Mt.stE k8 l).map some, rfl, SqL.of (s1114 _ _ hW11), SqL.of hW14, sm_row (dpa_same s1114 d11), sm_row (d14), sm_len (by omega), sm_let fun e he => (gs8 e he).2.1, fun H15 s15 => ⟨_, rfl, ifF rfl ?_⟩⟩
    have s1115 := s1114.trans s15
    refine ⟨_, rfl, _, rfl, ⟨k8, _, _, effs (Mt.stE k8 l), rfl, .inl (SqL.of (s1115 _ _ hW11)), dpa_same s1115 d11, few_g gs8, fun _ => ⟨Mt.stE k8 l, rfl, fun e he => (gs8 e he).2.1, fun i => by rw [(Mt.stE_same pl).2 i]; exact lw i, by omega, fun r16 y16 H16 s16 n16 h16 d16 => ?_⟩, no_bad gs8⟩⟩
    rw [(Mt.stE_same pl).runs] at d16
    have s1116 := s1115.trans s16
    refine ⟨_, rfl, ⟨_, _, _, _, (Mt.runs k8 l).map some, rfl, SqL.of h16, SqL.of (s1116 _ _ hR11), sm_row (d16), sm_row (dpa_same s1116 hy11), sm_len (by omega), sm_let fun e he => (gr e he).2.1, fun H17 s17 => ⟨_, rfl, ifF rfl ?_⟩⟩⟩
    have s1117 := s1116.trans s17
    have s017 := (s010.trans s11).trans s1117
    have hW17 := s1117 _ _ hW11
    have d17 := dpa_same s1117 d11
    -- both rows
    refine ⟨_, rfl, _, rfl, two, fun T5 nT5 => ?_⟩
    have s5 := same_new (o := .tup [.ref p, .ref q]) nT5
    have qT5 : SqT K (upd H17 T5 (.tup [.ref p, .ref q])) T5 [.ref p, .ref q] := .inl (.inl upd_same)
    have s018 := s017.trans s5
    have hW18 := s5 _ _ hW17
    have d18 := dpa_same s5 d17
    generalize upd H17 T5 (.tup [.ref p, .ref q]) = H18 at *
    have two_rows : ∀ (i : Nat) (v : V), ([.ref p, .ref q] : List V)[i]? = some v → ∃ pp ps m, v = .ref pp ∧ SqL K H pp ps ∧ DpAll K H ps (effs m) ∧ Mt.SameW k8 l m ∧ ∀ e ∈ m, Km.pl k8 e.2 = e.2 := fun i v hi => by
      match i, hi with
      | 0, hi => cases hi; exact ⟨p, xs, l, rfl, hp, hx, Mt.SameW.self, pl⟩
      | 1, hi => cases hi; exact ⟨q, zs, l2, rfl, hq, hz, hW, fun e he => (g2 e he).1⟩
    refine ⟨T5, rfl, ⟨_, qT5⟩, for_tup (K := K) (a := T5) (xs := [.ref p, .ref q]) (fun i σ' H' => ∃ o1 o2, σ' = [some (.str (nm k8)), some (.ref p), some (.ref q), some (.ref R), some (.ref L), some (.ref W), o1, o2] ∧ Same H18 H') ⟨none, none, rfl, .refl _⟩ (fun i σ' H' _ ⟨_, _, _, s⟩ => seqT_same s qT5) ?_ ?_⟩
    rotate_left
    · rintro σ' H' ⟨o1, o2, rfl, s⟩
      exact k H' (s018.trans s)
    rintro i v σ' J hi ⟨o1, o2, rfl, sJ⟩
    obtain ⟨pp, ps, m, rfl, hpp, hps, hm, pm⟩ := two_rows i v hi
    have s0J := s018.trans sJ
    have lm : m.length = l.length := hm.1
    have dm : DpAll K H ps ((m.map some).map Mt.opD) := sm_row hps
    have l1 := Mt.stE_lets pl hm pm
    have l2' := Mt.stE_busy pl hm pm
    have hWJ := sJ _ _ hW18
    have dWJ := sm_row (dpa_same sJ d18)
    have lm1 : (m.map some).length ≤ 100 := by rw [List.length_map]; omega
    have ls1 : ((Mt.stE k8 l).map some).length ≤ 100 := by rw [List.length_map]; omega
    obtain ⟨a, ea⟩ : ∃ a, a = (Mt.lets (m.map some)).sum := ⟨_, rfl⟩
    obtain ⟨b, eb⟩ : ∃ b : Int, b = ((Mt.busy (m.map some)).length : Nat) := ⟨_, rfl⟩
    refine ⟨_, rfl, pp, ps, m.map some, rfl, .inl (s0J.seq hpp), dpa_same s0J dm, lm1, fun J1 j1 => ?_⟩
    refine ⟨_, rfl, pp, ps, m.map some, rfl, .inl ((s0J.trans j1).seq hpp), dpa_same (s0J.trans j1) dm, lm1, fun J2 j2 => ⟨two, fun N nN => ?_⟩⟩
    rw [← ea, ← eb]
    have j3 := (j1.trans j2).trans (same_new (o := .lst [.int a, .int b]) nN)
    have qN : (upd J2 N (.lst [.int a, .int b])) N = some (.lst [.int a, .int b]) := upd_same
    generalize upd J2 N (.lst [.int a, .int b]) = J3 at *
    have s0J3 := s0J.trans j3
    have dN : ∀ {J' : Hp}, Same J3 J' → Dp K J' (.ref N) (lD [a, b]) := fun s => l_mk (ns := [a, b]) (SqL.of (s _ _ qN))
    -- the sums are numbers, and right
    refine ⟨_, rfl, N, _, _, _, rfl, rfl, SqL.of qN, rfl, _, .int a, rfl, .int a, ?_⟩
    rw [isW_int]
    refine ⟨_, rfl, ifF rfl ?_⟩
    refine ⟨_, rfl, N, _, _, _, rfl, rfl, SqL.of qN, rfl, _, .int b, rfl, .int b, ?_⟩
    rw [isW_int]
    refine ⟨_, rfl, ifF rfl ?_⟩
    refine ⟨_, rfl, _, rfl, pp, ps, m, rfl, s0J3.seq hpp, dpa_same s0J3 hps, by omega, fun r4 J4 j4 h4 => ?_⟩
    rw [← ea, ← eb] at h4
    refine ⟨_, _, dN j4, l_mk (ns := [a, b]) h4, shaped_l _, shaped_l _, _, rfl, ?_⟩
    refine ifF (by rw [eqv_self (shaped_l _)] <;> rfl) ?_
    have s0J4 := s0J3.trans j4
    -- as tuples
    refine ⟨_, rfl, pp, _, rfl, .inl ⟨s0J4.seq hpp, fun t5 nt5 => ?_⟩⟩
    have st5 := same_new (o := .tup ps) nt5
    refine ⟨t5, ps, m.map some, rfl, .inr (.inl (.inl upd_same)), dpa_same (s0J4.trans st5) dm, lm1, fun J5 j5 => ?_⟩
    rw [← ea]
    have s0J5 := (s0J4.trans st5).trans j5
    refine ⟨_, rfl, pp, _, rfl, .inl ⟨s0J5.seq hpp, fun t6 nt6 => ?_⟩⟩
    have st6 := same_new (o := .tup ps) nt6
    refine ⟨t6, ps, m.map some, rfl, .inr (.inl (.inl upd_same)), dpa_same (s0J5.trans st6) dm, lm1, fun J6 j6 => ⟨two, fun N2 nN2 => ?_⟩⟩
    rw [← eb]
    have sn2 := same_new (o := .lst [.int a, .int b]) nN2
    have j36 := (((j4.trans st5).trans j5).trans (st6.trans j6)).trans sn2
    refine ⟨_, rfl, _, _, l_mk (ns := [a, b]) (SqL.of upd_same), dN j36, shaped_l _, shaped_l _, _, rfl, ?_⟩
    refine ifF (by rw [eqv_self (shaped_l _)] <;> rfl) ?_
    generalize upd J6 N2 (.lst [.int a, .int b]) = J7 at *
    have sJ7 := j3.trans j36
    refine ⟨_, rfl, W, ws, (Mt.stE k8 l).map some, rfl, .inl (SqL.of (sJ7 _ _ hWJ)), dpa_same sJ7 dWJ, ls1, fun J8 j8 => ?_⟩
    refine ⟨_, rfl, N, _, _, _, rfl, rfl, SqL.of ((j36.trans j8) _ _ qN), rfl, _, _, rfl, rfl, _, rfl, ?_⟩
    refine ifF (decide_eq_false (by omega)) ?_
    refine ⟨_, rfl, W, ws, (Mt.stE k8 l).map some, rfl, .inl (SqL.of ((sJ7.trans j8) _ _ hWJ)), dpa_same (sJ7.trans j8) dWJ, ls1, fun J9 j9 => ?_⟩
    refine ⟨_, rfl, N, _, _, _, rfl, rfl, SqL.of (((j36.trans j8).trans j9) _ _ qN), rfl, _, _, rfl, rfl, _, rfl, ?_⟩
    refine ifF (decide_eq_false (by omega)) ?_
    exact ⟨_, _, rfl, sJ.trans ((sJ7.trans j8).trans j9)⟩
/-! ### _law_refused_row -/
theorem kit5 {K : PySem.W.Frag} {t a b c d e : Value} (h1 : PySem.W.kitOne K t a = some false) (h2 : PySem.W.kitOne K t b = some false) (h3 : PySem.W.kitOne K t c = some false) (h4 : PySem.W.kitOne K t d = some false) (h5 : PySem.W.kitOne K t e = some false) : PySem.W.kitAny K t [a, b, c, d, e] = some false :=
  kitAny_cons h1 (fun _ => kitAny_cons h2 (fun _ => kit3 h3 h4 h5) (fun z => Bool.noConfusion z)) (fun z => Bool.noConfusion z)
def sp__law_refused_row (K : PySem.W.Frag) : Sp := fun vs H Q _ => ∃ (k8 : Km.Kd8) (p : Addr) (way : Int) (xs : List V) (ds : List PyData) (i : Nat), vs = [.str (nm k8), .ref p, .int way] ∧ SqL K H p xs ∧ DpAll K H xs ds ∧ (∀ d ∈ ds, ∀ a b, d = .tuple [a, b] → few b) ∧ badE k8 ds = some i ∧
  ∀ t H', Same H H' → SqT K H' t [.int i, .bl true, .bl false] → Q (.ref t) H'
theorem ok__law_refused_row (T : Txt P K mg A') : FnOk P w K mg base CX0 7 A'.f__law_refused_row A'.fd__law_refused_row ["_law_kind_here", "_law_row_here", "_law_way"] (sp__law_refused_row K) := by
  refine Hk.okN T.F__law_refused_row sc__law_refused_row (fun vs H Q E h => ?_) (fun cdv A outer s H vs Q E hr h => ?_)
  · obtain ⟨k8, p, way, xs, ds, i, rfl, _⟩ := h
    rfl
  · obtain ⟨k8, p, way, xs, ds, i, rfl, hp, hx, hf, hb, k⟩ := h
    refine ⟨_, (pss_cons (ps_set (i := 3) sc__law_refused_row.nd rfl (Or.inl rfl) pe_non)
    (Evl.pss_cut (ps_try_as (i := 4) (Wout := fun _ _ _ _ => False) rfl rfl sc__law_refused_row.nd rfl rfl ⟨rfl, by decide, Or.inl T.m_BadEffect⟩ takes0
    (fun W pn xe tk _ => (pss_one (ps_if (pt_cmpR op_eq (pv 2) pe_int (nomark _)) (pss_one (ps_expr (pe_callS (ok_running T) (hr.mono (by decide)) rfl T.g_running T.F_running.kp T.b_running (fun σ => passAt tk σ) (pa_cons (pv 0) (pa_cons (pv 1) pa_nil))))) (pss_one (ps_expr (Ms.pe_callNS (ok_steps_between T) (hr.mono (by decide)) rfl T.g_steps_between T.F_steps_between.kp T.bk_steps_between (fun σ => passAt tk σ) (pa_cons (pv 0) (pa_cons (pv 1) pa_nil)) (pk_cons (pe_tup (pa_cons pe_bl (pa_cons (pe_tup pa_nil) pa_nil))) pk_nil)))))))
    (fun a oe cls d pn hz hf => (pss_cons (ps_set (i := 5) sc__law_refused_row.nd rfl (Or.inl rfl) (pe_callB (Lk.call_isXT T.x_BadEffect hz hf) (by rfl) T.z_isinstance (by decide +kernel) (pa_cons (pv 4) (pa_cons (pe_tup (pa_cons (pe_glob (v := .ref A'.c_BadBatch) rfl T.m_BadBatch rfl) (pa_cons (pe_glob (v := .ref A'.c_BadField) rfl T.m_BadField rfl) (pa_cons (pe_glob (v := .ref A'.c_BadKind) rfl T.m_BadKind rfl) (pa_cons (pe_glob (v := .ref A'.c_BadStretch) rfl T.m_BadStretch rfl) (pa_cons (pe_glob (v := .ref A'.c_BadWord) rfl T.m_BadWord rfl) pa_nil)))))) pa_nil))))
    (pss_one (ps_set (i := 3) sc__law_refused_row.nd rfl (Or.inl rfl) (pe_tup (pa_cons (pe_xf T.y_BadEffect T.s_BadEffect.nf hz hf (pv 4)) (pa_cons (pe_callB (Lk.call_isX T.x_BadEffect hz hf) (by rfl) T.z_isinstance (by decide +kernel) (pa_cons (pv 4) (pa_cons (pe_glob (v := .ref A'.c_StoreError) rfl T.m_StoreError rfl) pa_nil))) (pa_cons (pv 5) pa_nil)))))))))
    (pss_cons (ps_if (PW.pt (pw_and (pt_cmpR op_notN (pv 3) pe_non (nomark _)) (pw_and1 (pt_not (pt_val (pe_call (ok__law_is_number T) (hr.mono (by decide)) rfl T.g__law_is_number T.F__law_is_number.kp T.b__law_is_number .nil pass0 (pa_cons (pe_ix ix_tup (pv 3) pe_int (fun _ _ => rfl)) pa_nil))))))) (pss_one (ps_ret pe_non)) pss_nil)
    (pss_one (ps_ret (pv 3)))))), ?_⟩
    refine ⟨fun σ' H' => ∃ t o1 o2, σ' = [some (.str (nm k8)), some (.ref p), some (.int way), some (.ref t), o1, o2] ∧ Same H H' ∧ H' t = some (.tup [.int i, .bl true, .bl false]), ?_, ?_⟩
    · refine ⟨_, rfl, rfl, _, rfl, ?_⟩
      have fin : ∀ (dx : Addr) (H1 : Hp), Same H H1 → H1 dx = some (.xd [("place", .int i)]) → True := fun _ _ _ _ => trivial
      refine if2 (fun c => ?_) (fun c => ?_)
      · refine ⟨_, rfl, _, rfl, k8, p, xs, ds, rfl, .inl hp, hx, hf, (fun z => by rw [hb] at z; cases z), fun j hj dx H1 e1 hx1 => ?_⟩
        rw [hb] at hj
        cases hj
        refine ⟨true, T.e_BadEffect, fun _ a _ => ?_, fun q => Bool.noConfusion q⟩
        refine ⟨_, rfl, (by show 5 ≤ sizeLine; decide), fun tp ntp => ?_⟩
        have hx' : (upd H1 tp (.tup [.ref A'.c_BadBatch, .ref A'.c_BadField, .ref A'.c_BadKind, .ref A'.c_BadStretch, .ref A'.c_BadWord])) dx = some (.xd [("place", .int i)]) := by rw [upd_ne (ne_of_none hx1 ntp)]; exact hx1
        refine ⟨tp, _, _, _, dx, _, rfl, upd_same, .cons (.own _) (.cons (.own _) (.cons (.own _) (.cons (.own _) (.cons (.own _) .nil)))), rfl, rfl, hx', kit5 T.k_BadEffect_BadBatch T.k_BadEffect_BadField T.k_BadEffect_BadKind T.k_BadEffect_BadStretch T.k_BadEffect_BadWord, ?_⟩
        refine ⟨_, rfl, rfl, rfl, dx, _, _, rfl, hx', lk1, _, rfl, _, _, _, dx, _, rfl, .own _, rfl, rfl, hx', T.k_BadEffect_StoreError, _, rfl, (by show 3 ≤ sizeLine; decide), fun t nt => ?_⟩
        exact ⟨t, _, _, rfl, (e1.trans (same_new ntp)).trans (same_new nt), upd_same⟩
      · refine ⟨_, rfl, _, rfl, Nat.zero_le _, fun z nz => ⟨(by show 2 ≤ sizeLine; decide), fun q1 n1 => ?_⟩⟩
        have sz := (same_new (o := .tup []) nz).trans (same_new (o := .tup [.bl true, .ref z]) n1)
        refine ⟨rfl, rfl, k8, p, .ref q1, xs, ds, rfl, .inl (sz.seq hp), dpa_same sz hx, hf, (fun z => by rw [hb] at z; cases z), fun j hj dx H1 e0 hx1 => ?_⟩
        have e1 := sz.trans e0
        rw [hb] at hj
        cases hj
        refine ⟨true, T.e_BadEffect, fun _ a _ => ?_, fun q => Bool.noConfusion q⟩
        refine ⟨_, rfl, (by show 5 ≤ sizeLine; decide), fun tp ntp => ?_⟩
        have hx' : (upd H1 tp (.tup [.ref A'.c_BadBatch, .ref A'.c_BadField, .ref A'.c_BadKind, .ref A'.c_BadStretch, .ref A'.c_BadWord])) dx = some (.xd [("place", .int i)]) := by rw [upd_ne (ne_of_none hx1 ntp)]; exact hx1
        refine ⟨tp, _, _, _, dx, _, rfl, upd_same, .cons (.own _) (.cons (.own _) (.cons (.own _) (.cons (.own _) (.cons (.own _) .nil)))), rfl, rfl, hx', kit5 T.k_BadEffect_BadBatch T.k_BadEffect_BadField T.k_BadEffect_BadKind T.k_BadEffect_BadStretch T.k_BadEffect_BadWord, ?_⟩
        refine ⟨_, rfl, rfl, rfl, dx, _, _, rfl, hx', lk1, _, rfl, _, _, _, dx, _, rfl, .own _, rfl, rfl, hx', T.k_BadEffect_StoreError, _, rfl, (by show 3 ≤ sizeLine; decide), fun t nt => ?_⟩
        exact ⟨t, _, _, rfl, (e1.trans (same_new ntp)).trans (same_new nt), upd_same⟩
    rintro σ' H1 ⟨t, o1, o2, rfl, s, ht⟩
    have htq : SqT K H1 t [.int i, .bl true, .bl false] := .inl (.inl ht)
    refine ⟨_, rfl, rfl, _, rfl, ?_⟩
    refine ifT rfl ?_
    refine ⟨_, rfl, t, _, _, _, rfl, rfl, htq, rfl, _, .int i, rfl, .int i, ?_⟩
    rw [isW_int]
    refine ⟨_, rfl, ?_⟩
    refine ifF rfl ?_
    exact ⟨_, rfl, k t H1 s htq⟩
/-! ### _law_word_door -/
def sp__law_word_door (K : PySem.W.Frag) (C : Addr) : Sp := fun vs H Q E => ∃ (i : Int) (v : V) (d : PyData) (w : V), vs = [.int i, v, w] ∧ Dp K H v d ∧ shOk d ∧ Ms.badK d = true ∧ ∀ dx H', Same H H' → H' dx = some (.xd [("name", v)]) → E (.ref C) (some dx) H'
theorem ok__law_word_door (T : Txt P K mg A') : FnOk P w K mg base (L2.CX P w) 7 A'.f__law_word_door A'.fd__law_word_door ["_law_at", "_law_name", "_law_word"] (sp__law_word_door K A'.c_BadKind) := by
  refine Hk.okX T.F__law_word_door sc__law_word_door (fun vs H Q E h => ?_) (fun cdv A outer s H vs Q E hr h => ?_)
  · obtain ⟨i, v, d, w, rfl, _⟩ := h
    rfl
  · obtain ⟨i, v, d, w, rfl, hd, hs, hb, k⟩ := h
    have two : 2 ≤ sizeLine := by decide
    refine ⟨_, (pss_one (ps_if (pt_cmpR op_eq (pv 0) pe_int (nomark _)) (pss_one (ps_expr (pe_call (ok_plain_word T) (hr.mono (by decide)) rfl T.g_plain_word T.F_plain_word.kp T.b_plain_word .nil (Kc.passT (takes_of rfl rfl rfl rfl)) (pa_cons (pv 1) (pa_cons (pv 2) pa_nil))))) (pss_one (ps_if (pt_cmpR op_eq (pv 0) pe_int (nomark _)) (pss_one (ps_expr (Kd.pe_callR (ok_joined T) (hr.mono (by decide)) rfl T.g_joined T.F_joined.kp (Kc.passT (takes_of rfl rfl rfl rfl)) (pa_cons (pv 1) (pa_cons (pv 2) pa_nil))))) (pss_one (ps_if (pt_cmpR op_eq (pv 0) pe_int (nomark _)) (pss_one (ps_expr (Kd.pe_callR (ok_fresh_word T) (hr.mono (by decide)) rfl T.g_fresh_word T.F_fresh_word.kp (Kc.passT (takes_of rfl rfl rfl rfl)) (pa_cons (pv 1) (pa_cons (pv 2) pa_nil))))) (pss_one (ps_if (pt_cmpR op_eq (pv 0) pe_int (nomark _)) (pss_one (ps_expr (pe_call (ok_is_plain__bad T) (hr.mono (by decide)) rfl T.g_is_plain T.F_is_plain.kp T.b_is_plain .nil (Kc.passT (takes_of rfl rfl rfl rfl)) (pa_cons (pv 1) (pa_cons (pv 2) pa_nil))))) (pss_one (ps_if (pt_cmpR op_eq (pv 0) pe_int (nomark _)) (pss_one (ps_expr (pe_call (ok_twice_at_once T) (hr.mono (by decide)) rfl T.g_twice_at_once T.F_twice_at_once.kp T.b_twice_at_once .nil (Kc.passT (takes_of rfl rfl rfl rfl)) (pa_cons (pv 1) (pa_cons (pv 2) pa_nil))))) (pss_one (ps_if (pt_cmpR op_eq (pv 0) pe_int (nomark _)) (pss_one (ps_expr (pe_call (ok_twice_later T) (hr.mono (by decide)) rfl T.g_twice_later T.F_twice_later.kp T.b_twice_later .nil (Kc.passT (takes_of rfl rfl rfl rfl)) (pa_cons (pv 1) (pa_cons (pv 2) pa_nil))))) (pss_one (ps_if (pt_cmpR op_eq (pv 0) pe_int (nomark _)) (pss_one (ps_expr (pe_call (ok_twice_earlier T) (hr.mono (by decide)) rfl T.g_twice_earlier T.F_twice_earlier.kp T.b_twice_earlier .nil (Kc.passT (takes_of rfl rfl rfl rfl)) (pa_cons (pv 1) (pa_cons (pv 2) pa_nil))))) (pss_one (ps_if (pt_cmpR op_eq (pv 0) pe_int (nomark _)) (pss_one (ps_expr (pe_call (ok_rest__bad T) (hr.mono (by decide)) rfl T.g_rest T.F_rest.kp T.b_rest .nil (Kc.passT (takes_of rfl rfl rfl rfl)) (pa_cons (pv 1) (pa_cons (pv 2) (pa_cons (pv 2) pa_nil)))))) (pss_one (ps_if (pt_cmpR op_eq (pv 0) pe_int (nomark _)) (pss_one (ps_expr (pe_call (ok_swallowed T) (hr.mono (by decide)) rfl T.g_swallowed T.F_swallowed.kp T.b_swallowed .nil (Kc.passT (takes_of rfl rfl rfl rfl)) (pa_cons (pv 1) (pa_cons (pv 2) (pa_cons (pv 2) pa_nil)))))) (pss_one (ps_if (pt_cmpR op_eq (pv 0) pe_int (nomark _)) (pss_one (ps_expr (pe_call (ok_parting_word T) (hr.mono (by decide)) rfl T.g_parting_word T.F_parting_word.kp T.b_parting_word .nil (Kc.passT (takes_of rfl rfl rfl rfl)) (pa_cons (pv 1) (pa_cons (pv 2) (pa_cons (pv 2) pa_nil)))))) (pss_one (ps_if (pt_cmpR op_eq (pv 0) pe_int (nomark _)) (pss_one (ps_expr (pe_call (ok_under T) (hr.mono (by decide)) rfl T.g_under T.F_under.kp T.b_under .nil (Kc.passT (takes_of rfl rfl rfl rfl)) (pa_cons (pv 1) (pa_cons (pv 2) pa_nil))))) (pss_one (ps_if (pt_cmpR op_eq (pv 0) pe_int (nomark _)) (pss_one (ps_expr (pe_call (ok_parted_words T) (hr.mono (by decide)) rfl T.g_parted_words T.F_parted_words.kp T.b_parted_words .nil (Kc.passT (takes_of rfl rfl rfl rfl)) (pa_cons (pv 1) (pa_cons (pv 2) pa_nil))))) (pss_one (ps_if (pt_cmpR op_eq (pv 0) pe_int (nomark _)) (pss_one (ps_expr (pe_call (ok_kind_named__bad T) (hr.mono (by decide)) rfl T.g_kind_named T.F_kind_named.kp T.b_kind_named .nil (Kc.passT (takes_of rfl rfl rfl rfl)) (pa_cons (pv 1) pa_nil)))) (pss_one (ps_if (pt_cmpR op_eq (pv 0) pe_int (nomark _)) (pss_one (ps_expr (pe_call (ok_under__bad T) (hr.mono (by decide)) rfl T.g_under T.F_under.kp T.b_under .nil (Kc.passT (takes_of rfl rfl rfl rfl)) (pa_cons pe_str (pa_cons (pv 1) pa_nil))))) (pss_one (ps_expr (pe_call (ok_parted_words__bad T) (hr.mono (by decide)) rfl T.g_parted_words T.F_parted_words.kp T.b_parted_words .nil (Kc.passT (takes_of rfl rfl rfl rfl)) (pa_cons pe_str (pa_cons (pv 1) pa_nil))))))))))))))))))))))))))))))))), ?_⟩
    refine ⟨_, rfl, rfl, _, rfl, if2 (fun _ => ⟨_, rfl, _, rfl, v, d, [w], rfl, rfl, hd, hs, hb, k⟩) (fun _ => ?_)⟩
    refine ⟨_, rfl, rfl, _, rfl, if2 (fun _ => ⟨_, rfl, _, rfl, [v], [w], rfl, rfl, (by show 1 ≤ sizeLine; decide), fun p np => ⟨v, d, [.ref p], rfl, rfl, dp_same (same_new np) hd, hs, hb, fun dx H' s h => k dx H' ((same_new np).trans s) h⟩⟩) (fun _ => ?_)⟩
    refine ⟨_, rfl, rfl, _, rfl, if2 (fun _ => ⟨_, rfl, _, rfl, [v], [w], rfl, rfl, (by show 1 ≤ sizeLine; decide), fun p np => ⟨v, d, [.ref p], rfl, rfl, dp_same (same_new np) hd, hs, hb, fun dx H' s h => k dx H' ((same_new np).trans s) h⟩⟩) (fun _ => ?_)⟩
    refine ⟨_, rfl, rfl, _, rfl, if2 (fun _ => ⟨_, rfl, _, rfl, v, d, [w], rfl, rfl, hd, hs, hb, k⟩) (fun _ => ?_)⟩
    refine ⟨_, rfl, rfl, _, rfl, if2 (fun _ => ⟨_, rfl, _, rfl, v, d, [w], rfl, rfl, hd, hs, hb, k⟩) (fun _ => ?_)⟩
    refine ⟨_, rfl, rfl, _, rfl, if2 (fun _ => ⟨_, rfl, _, rfl, v, d, [w], rfl, rfl, hd, hs, hb, k⟩) (fun _ => ?_)⟩
    refine ⟨_, rfl, rfl, _, rfl, if2 (fun _ => ⟨_, rfl, _, rfl, v, d, [w], rfl, rfl, hd, hs, hb, k⟩) (fun _ => ?_)⟩
    refine ⟨_, rfl, rfl, _, rfl, if2 (fun _ => ⟨_, rfl, _, rfl, _, rfl, v, d, [w, w], rfl, rfl, hd, hs, hb, k⟩) (fun _ => ?_)⟩
    refine ⟨_, rfl, rfl, _, rfl, if2 (fun _ => ⟨_, rfl, _, rfl, _, rfl, v, d, [w, w], rfl, rfl, hd, hs, hb, k⟩) (fun _ => ?_)⟩
    refine ⟨_, rfl, rfl, _, rfl, if2 (fun _ => ⟨_, rfl, _, rfl, _, rfl, v, d, [w, w], rfl, rfl, hd, hs, hb, k⟩) (fun _ => ?_)⟩
    refine ⟨_, rfl, rfl, _, rfl, if2 (fun _ => ⟨_, rfl, _, rfl, v, d, [w], rfl, rfl, hd, hs, hb, k⟩) (fun _ => ?_)⟩
    refine ⟨_, rfl, rfl, _, rfl, if2 (fun _ => ⟨_, rfl, _, rfl, v, d, [w], rfl, rfl, hd, hs, hb, k⟩) (fun _ => ?_)⟩
    refine ⟨_, rfl, rfl, _, rfl, if2 (fun _ => ⟨_, rfl, v, d, [], rfl, rfl, hd, hs, hb, k⟩) (fun _ => ?_)⟩
    refine ⟨_, rfl, rfl, _, rfl, if2 (fun _ => ⟨_, rfl, .bag, v, d, rfl, hd, hs, hb, k⟩) (fun _ => ?_)⟩
    exact ⟨_, rfl, .bag, v, d, rfl, hd, hs, hb, k⟩
/-! ### _law_effect_door -/
def sp__law_effect_door (K : PySem.W.Frag) (C : Addr) : Sp := fun vs H Q E => ∃ (i : Int) (v : V) (d : PyData) (w : V) (e : V), vs = [.int i, v, w, e] ∧ Dp K H v d ∧ shOk d ∧ Ms.badK d = true ∧ ∀ dx H', Same H H' → H' dx = some (.xd [("name", v)]) → E (.ref C) (some dx) H'
theorem ok__law_effect_door (T : Txt P K mg A') : FnOk P w K mg base (L2.CX P w) 8 A'.f__law_effect_door A'.fd__law_effect_door ["_law_at", "_law_name", "_law_word", "_law_effect"] (sp__law_effect_door K A'.c_BadKind) := by
  refine Hk.okX T.F__law_effect_door sc__law_effect_door (fun vs H Q E h => ?_) (fun cdv A outer s H vs Q E hr h => ?_)
  · obtain ⟨i, v, d, w, e, rfl, _⟩ := h
    rfl
  · obtain ⟨ds, hbd, hvd⟩ := T.dd1_steps_between
    obtain ⟨i, v, d, w, e, rfl, hd, hs, hb, k⟩ := h
    have two : 2 ≤ sizeLine := by decide
    refine ⟨_, (pss_one (ps_if (pt_cmpR op_eq (pv 0) pe_int (nomark _)) (pss_one (ps_expr (pe_call (ok_is_effect__bad T) (hr.mono (by decide)) rfl T.g_is_effect T.F_is_effect.kp T.b_is_effect .nil (Kc.passT (takes_of rfl rfl rfl rfl)) (pa_cons (pv 1) (pa_cons (pv 3) pa_nil))))) (pss_one (ps_if (pt_cmpR op_eq (pv 0) pe_int (nomark _)) (pss_one (ps_expr (pe_call (ok_normal__bad T) (hr.mono (by decide)) rfl T.g_normal T.F_normal.kp T.b_normal .nil (Kc.passT (takes_of rfl rfl rfl rfl)) (pa_cons (pv 1) (pa_cons (pv 3) pa_nil))))) (pss_one (ps_if (pt_cmpR op_eq (pv 0) pe_int (nomark _)) (pss_one (ps_expr (Kd.pe_callR (ok_then__bad T) (hr.mono (by decide)) rfl T.g_then T.F_then.kp (Kc.passT (takes_of rfl rfl rfl rfl)) (pa_cons (pv 1) (pa_cons (pv 3) (pa_cons (pv 3) pa_nil)))))) (pss_one (ps_if (pt_cmpR op_eq (pv 0) pe_int (nomark _)) (pss_one (ps_expr (pe_call (ok_narrowed_effect__bad T) (hr.mono (by decide)) rfl T.g_narrowed_effect T.F_narrowed_effect.kp T.b_narrowed_effect .nil (Kc.passT (takes_of rfl rfl rfl rfl)) (pa_cons (pv 1) (pa_cons (pv 3) pa_nil))))) (pss_one (ps_if (pt_cmpR op_eq (pv 0) pe_int (nomark _)) (pss_one (ps_expr (pe_call (ok_parting_state T) (hr.mono (by decide)) rfl T.g_parting_state T.F_parting_state.kp T.b_parting_state .nil (Kc.passT (takes_of rfl rfl rfl rfl)) (pa_cons (pv 1) (pa_cons (pv 3) (pa_cons (pv 3) pa_nil)))))) (pss_one (ps_if (pt_cmpR op_eq (pv 0) pe_int (nomark _)) (pss_one (ps_expr (pe_call (ok_step__bad T) (hr.mono (by decide)) rfl T.g_step T.F_step.kp T.b_step .nil (Kc.passT (takes_of rfl rfl rfl rfl)) (pa_cons (pv 1) (pa_cons (pv 3) (pa_cons (pv 3) pa_nil)))))) (pss_one (ps_if (pt_cmpR op_eq (pv 0) pe_int (nomark _)) (pss_one (ps_expr (pe_call (ok_change_places T) (hr.mono (by decide)) rfl T.g_change_places T.F_change_places.kp T.b_change_places .nil (Kc.passT (takes_of rfl rfl rfl rfl)) (pa_cons (pv 1) (pa_cons (pv 3) (pa_cons (pv 3) pa_nil)))))) (pss_one (ps_if (pt_cmpR op_eq (pv 0) pe_int (nomark _)) (pss_one (ps_expr (pe_call (ok_parting_swap T) (hr.mono (by decide)) rfl T.g_parting_swap T.F_parting_swap.kp T.b_parting_swap .nil (Kc.passT (takes_of rfl rfl rfl rfl)) (pa_cons (pv 1) (pa_cons (pv 3) (pa_cons (pv 3) pa_nil)))))) (pss_one (ps_if (pt_cmpR op_eq (pv 0) pe_int (nomark _)) (pss_one (ps_expr (pe_call (ok_effect_on__bad T) (hr.mono (by decide)) rfl T.g_effect_on T.F_effect_on.kp T.b_effect_on .nil (Kc.passT (takes_of rfl rfl rfl rfl)) (pa_cons (pv 1) (pa_cons (pv 3) (pa_cons (pv 2) pa_nil)))))) (pss_one (ps_if (pt_cmpR op_eq (pv 0) pe_int (nomark _)) (pss_one (ps_expr (pe_call (ok_running__bad T) (hr.mono (by decide)) rfl T.g_running T.F_running.kp T.b_running .nil (Kc.passT (takes_of rfl rfl rfl rfl)) (pa_cons (pv 1) (pa_cons (pe_lst (pa_cons (pv 3) pa_nil)) pa_nil))))) (pss_one (ps_expr (pe_call (ok_steps_between__bad T) (hr.mono (by decide)) rfl T.g_steps_between T.F_steps_between.kp hbd hvd (Kc.passT (takes_of rfl rfl rfl rfl)) (pa_cons (pv 1) (pa_cons (pe_lst (pa_cons (pv 3) pa_nil)) pa_nil))))))))))))))))))))))))), ?_⟩
    refine ⟨_, rfl, rfl, _, rfl, if2 (fun _ => ⟨_, rfl, _, rfl, v, d, [e], rfl, rfl, hd, hs, hb, k⟩) (fun _ => ?_)⟩
    refine ⟨_, rfl, rfl, _, rfl, if2 (fun _ => ⟨_, rfl, _, rfl, v, d, [e], rfl, rfl, hd, hs, hb, k⟩) (fun _ => ?_)⟩
    refine ⟨_, rfl, rfl, _, rfl, if2 (fun _ => ⟨_, rfl, _, rfl, _, rfl, [v], [e, e], rfl, rfl, (by show 2 ≤ sizeLine; decide), fun p np => ⟨v, d, [.ref p], rfl, rfl, dp_same (same_new np) hd, hs, hb, fun dx H' s h => k dx H' ((same_new np).trans s) h⟩⟩) (fun _ => ?_)⟩
    refine ⟨_, rfl, rfl, _, rfl, if2 (fun _ => ⟨_, rfl, _, rfl, v, d, [e], rfl, rfl, hd, hs, hb, k⟩) (fun _ => ?_)⟩
    refine ⟨_, rfl, rfl, _, rfl, if2 (fun _ => ⟨_, rfl, _, rfl, _, rfl, v, d, [e, e], rfl, rfl, hd, hs, hb, k⟩) (fun _ => ?_)⟩
    refine ⟨_, rfl, rfl, _, rfl, if2 (fun _ => ⟨_, rfl, _, rfl, _, rfl, v, d, [e, e], rfl, rfl, hd, hs, hb, k⟩) (fun _ => ?_)⟩
    refine ⟨_, rfl, rfl, _, rfl, if2 (fun _ => ⟨_, rfl, _, rfl, _, rfl, v, d, [e, e], rfl, rfl, hd, hs, hb, k⟩) (fun _ => ?_)⟩
    refine ⟨_, rfl, rfl, _, rfl, if2 (fun _ => ⟨_, rfl, _, rfl, _, rfl, v, d, [e, e], rfl, rfl, hd, hs, hb, k⟩) (fun _ => ?_)⟩
    refine ⟨_, rfl, rfl, _, rfl, if2 (fun _ => ⟨_, rfl, _, rfl, _, rfl, v, d, [e, w], rfl, rfl, hd, hs, hb, k⟩) (fun _ => ?_)⟩
    refine ⟨_, rfl, rfl, _, rfl, if2 (fun _ => ⟨_, rfl, _, rfl, (by show 1 ≤ sizeLine; decide), fun p np => ⟨v, d, [.ref p], rfl, rfl, dp_same (same_new np) hd, hs, hb, fun dx H' s h => k dx H' ((same_new np).trans s) h⟩⟩) (fun _ => ?_)⟩
    exact ⟨_, rfl, _, rfl, (by show 1 ≤ sizeLine; decide), fun p np => ⟨v, d, [.ref p, .ref A'.k_IDLE], rfl, rfl, dp_same (same_new np) hd, hs, hb, fun dx H' s h => k dx H' ((same_new np).trans s) h⟩⟩
/-! ### _law_refused_kind -/
def plainD (d : PyData) : Prop := d.canLay0 = true ∧ d.depth ≤ 10
theorem shaped3 {d : PyData} (h : plainD d) : SeqAt.shaped (.list [d, .bool true, .bool false]) = true := by
  obtain ⟨h1, h2⟩ := h
  unfold SeqAt.shaped
  simp only [PyData.canLay0, PyData.canLayAll0, PyData.depth, PyData.depthAll, h1]
  simp
  omega
def sp__law_refused_kind (K : PySem.W.Frag) : Sp := fun vs H Q _ => ∃ (i : Int) (v w e : V) (d : PyData), vs = [.int i, v, w, e] ∧ Dp K H v d ∧ shOk d ∧ Ms.badK d = true ∧ plainD d ∧ ∀ H', Same H H' → Q (.bl true) H'
theorem ok__law_refused_kind (T : Txt P K mg A') : FnOk P w K mg base CX0 9 A'.f__law_refused_kind A'.fd__law_refused_kind ["_law_at", "_law_name", "_law_word", "_law_effect"] (sp__law_refused_kind K) := by
  refine Hk.okN T.F__law_refused_kind sc__law_refused_kind (fun vs H Q E h => ?_) (fun cdv A outer s H vs Q E hr h => ?_)
  · obtain ⟨i, v, w, e, d, rfl, _⟩ := h
    rfl
  · obtain ⟨i, v, w, e, d, rfl, hd, hs, hb, hp, k⟩ := h
    refine ⟨_, (pss_cons (ps_set (i := 4) sc__law_refused_kind.nd rfl (Or.inl rfl) pe_non)
    (Evl.pss_cut (ps_try_as (i := 5) (Wout := fun _ _ _ _ => False) rfl rfl sc__law_refused_kind.nd rfl rfl ⟨rfl, by decide, Or.inl T.m_BadKind⟩ takes0
    (fun W pn xe tk _ => (pss_one (ps_if (pt_cmpR op_lt (pv 0) pe_int (nomark _)) (pss_one (ps_expr (pe_callS (ok__law_word_door T) (hr.mono (by decide)) rfl T.g__law_word_door T.F__law_word_door.kp T.b__law_word_door (fun σ => passAt tk σ) (pa_cons (pv 0) (pa_cons (pv 1) (pa_cons (pv 2) pa_nil)))))) (pss_one (ps_expr (pe_callS (ok__law_effect_door T) (hr.mono (by decide)) rfl T.g__law_effect_door T.F__law_effect_door.kp T.b__law_effect_door (fun σ => passAt tk σ) (pa_cons (pv 0) (pa_cons (pv 1) (pa_cons (pv 2) (pa_cons (pv 3) pa_nil))))))))))
    (fun a oe cls d pn hz hf => (pss_one (ps_set (i := 4) sc__law_refused_kind.nd rfl (Or.inl rfl) (pe_lst (pa_cons (pe_xf T.y_BadKind T.s_BadKind.nf hz hf (pv 5)) (pa_cons (pe_callB (Lk.call_isX T.x_BadKind hz hf) (by rfl) T.z_isinstance (by decide +kernel) (pa_cons (pv 5) (pa_cons (pe_glob (v := .ref A'.c_StoreError) rfl T.m_StoreError rfl) pa_nil))) (pa_cons (pe_callB (Lk.call_isXT T.x_BadKind hz hf) (by rfl) T.z_isinstance (by decide +kernel) (pa_cons (pv 5) (pa_cons (pe_tup (pa_cons (pe_glob (v := .ref A'.c_BadEffect) rfl T.m_BadEffect rfl) (pa_cons (pe_glob (v := .ref A'.c_BadName) rfl T.m_BadName rfl) (pa_cons (pe_glob (v := .ref A'.c_BadWord) rfl T.m_BadWord rfl) pa_nil)))) pa_nil))) pa_nil))))))))
    (pss_one (ps_ret (pe_cmpR (op_eqD hr.units) (pv 4) (pe_lst (pa_cons (pv 1) (pa_cons pe_bl (pa_cons pe_bl pa_nil)))) (nomark _)))))), ?_⟩
    have three : 3 ≤ sizeLine := by decide
    refine ⟨fun σ' H' => ∃ t o1, σ' = [some (.int i), some v, some w, some e, some (.ref t), o1] ∧ Same H H' ∧ H' t = some (.lst [v, .bl true, .bl false]), ?_, ?_⟩
    · refine ⟨_, rfl, _, _, rfl, rfl, _, rfl, ?_⟩
      refine if2 (fun c => ?_) (fun c => ?_)
      · refine ⟨_, rfl, _, rfl, _, rfl, i, v, d, w, rfl, hd, hs, hb, fun dx H1 e1 hx => ?_⟩
        refine ⟨true, T.e_BadKind, fun _ a _ => ?_, fun q => Bool.noConfusion q⟩
        refine ⟨_, rfl, rfl, rfl, dx, _, _, rfl, hx, lk1, _, rfl, _, _, _, dx, _, rfl, .own _, rfl, rfl, hx, T.k_BadKind_StoreError, _, rfl, three, fun tp ntp => ?_⟩
        have hx' : (upd H1 tp (.tup [.ref A'.c_BadEffect, .ref A'.c_BadName, .ref A'.c_BadWord])) dx = some (.xd [("name", v)]) := by rw [upd_ne (ne_of_none hx ntp)]; exact hx
        refine ⟨tp, _, _, _, dx, _, rfl, upd_same, .cons (.own _) (.cons (.own _) (.cons (.own _) .nil)), rfl, rfl, hx', kit3 T.k_BadKind_BadEffect T.k_BadKind_BadName T.k_BadKind_BadWord, three, fun t nt => ?_⟩
        exact ⟨t, _, rfl, (e1.trans (same_new ntp)).trans (same_new nt), upd_same⟩
      · refine ⟨_, rfl, _, rfl, _, rfl, _, rfl, i, v, d, w, e, rfl, hd, hs, hb, fun dx H1 e1 hx => ?_⟩
        refine ⟨true, T.e_BadKind, fun _ a _ => ?_, fun q => Bool.noConfusion q⟩
        refine ⟨_, rfl, rfl, rfl, dx, _, _, rfl, hx, lk1, _, rfl, _, _, _, dx, _, rfl, .own _, rfl, rfl, hx, T.k_BadKind_StoreError, _, rfl, three, fun tp ntp => ?_⟩
        have hx' : (upd H1 tp (.tup [.ref A'.c_BadEffect, .ref A'.c_BadName, .ref A'.c_BadWord])) dx = some (.xd [("name", v)]) := by rw [upd_ne (ne_of_none hx ntp)]; exact hx
        refine ⟨tp, _, _, _, dx, _, rfl, upd_same, .cons (.own _) (.cons (.own _) (.cons (.own _) .nil)), rfl, rfl, hx', kit3 T.k_BadKind_BadEffect T.k_BadKind_BadName T.k_BadKind_BadWord, three, fun t nt => ?_⟩
        exact ⟨t, _, rfl, (e1.trans (same_new ntp)).trans (same_new nt), upd_same⟩
    rintro σ' H1 ⟨t, o1, rfl, s, ht⟩
    have hd1 := dp_same s hd
    refine ⟨_, rfl, _, rfl, three, fun u nu => ?_⟩
    have su := same_new (o := .lst [v, .bl true, .bl false]) nu
    refine ⟨_, _, .lst (SqL.of (su _ _ ht)) (.cons (dp_same su hd1) (.cons (.bl true) (.cons (.bl false) .nil))), .lst (SqL.of upd_same) (.cons (dp_same su hd1) (.cons (.bl true) (.cons (.bl false) .nil))), shaped3 hp, shaped3 hp, ?_⟩
    rw [eqv_self (shaped3 hp)]
    exact k _ (s.trans su)
/-! ### _law_refusals -/
def oddE : List PyData := [.none, .int (5), .tuple [], .tuple [.bool true], .tuple [.int (1), .tuple []], .list [.bool true, .tuple []], .tuple [.bool true, .list [.int (1)]], .tuple [.bool false, .tuple [.int (-1)]], .str "effect", .tuple [.none, .tuple []]]
def nmD : List PyData := [.str "", .str "lists", .str "List", .none, .int (0), .bool true, .tuple [.str "list"], .list [.str "bag"], .str "end", .str " set"]
theorem oddE_bad (k : Km.Kd8) : ∀ d ∈ oddE, isEf k d = false := by cases k <;> decide +kernel
theorem oddE_few : ∀ d ∈ oddE, ∀ a b, d = .tuple [a, b] → few b := fun d hd a b e => by
  simp only [oddE, List.mem_cons, List.not_mem_nil, or_false] at hd
  rcases hd with rfl | rfl | rfl | rfl | rfl | rfl | rfl | rfl | rfl | rfl <;> first | (cases e; done) | (cases e; intro ds e; cases e; simp) | (cases e; intro ds e; cases e)
theorem nmD_bad : ∀ d ∈ nmD, Ms.badK d = true := by decide +kernel
theorem nmD_plain : ∀ d ∈ nmD, plainD d := by
  intro d hd
  simp only [nmD, List.mem_cons, List.not_mem_nil, or_false] at hd
  rcases hd with rfl | rfl | rfl | rfl | rfl | rfl | rfl | rfl | rfl | rfl <;> exact ⟨by decide +kernel, by decide +kernel⟩
theorem nmD_sh : ∀ d ∈ nmD, shOk d := by
  intro d hd
  simp only [nmD, List.mem_cons, List.not_mem_nil, or_false] at hd
  rcases hd with rfl | rfl | rfl | rfl | rfl | rfl | rfl | rfl | rfl | rfl <;> exact ⟨fun x e => by cases e <;> (intro _; decide +kernel), fun x e => by cases e <;> exact Nat.le_of_lt (small1000 (by decide +kernel))⟩
theorem dpa_app8 {K : PySem.W.Frag} {H : Hp} : ∀ {vs ws : List V} {ds es : List PyData}, DpAll K H vs ds → DpAll K H ws es → DpAll K H (vs ++ ws) (ds ++ es)
  | _, _, _, _, .nil, h => h
  | _ :: _, _, _ :: _, _, .cons h1 h2, h => .cons h1 (dpa_app8 h2 h)
theorem dpa_tk {K : PySem.W.Frag} {H : Hp} : ∀ (n : Nat) {vs : List V} {ds : List PyData}, DpAll K H vs ds → DpAll K H (vs.take n) (ds.take n)
  | 0, _, _, _ => .nil
  | n + 1, _, _, .nil => .nil
  | n + 1, _ :: _, _ :: _, .cons h1 h2 => .cons h1 (dpa_tk n h2)
theorem dpa_dr {K : PySem.W.Frag} {H : Hp} : ∀ (n : Nat) {vs : List V} {ds : List PyData}, DpAll K H vs ds → DpAll K H (vs.drop n) (ds.drop n)
  | 0, _, _, h => h
  | n + 1, _, _, .nil => .nil
  | n + 1, _ :: _, _ :: _, .cons h1 h2 => dpa_dr n h2
theorem cut_tk {xs : List V} {n : Nat} (h : n ≤ xs.length) : cutV xs none (some (n : Int)) = xs.take n := by
  unfold cutV
  rw [HT.sIx_nat, HT.sIx_none, List.drop_zero, Nat.sub_zero, Nat.min_eq_left h]
theorem cut_dr {xs : List V} {n : Nat} (h : n ≤ xs.length) : cutV xs (some (n : Int)) none = xs.drop n := by
  unfold cutV
  rw [HT.sIx_nat, HT.sIx_none, Nat.min_eq_left h]
  exact List.take_of_length_le (by rw [List.length_drop]; omega)
theorem badE_mid {k : Km.Kd8} {m : List Mt.Ev} {d : PyData} {post : List PyData} (g : ∀ e ∈ m, Km.pl k e.2 = e.2 ∧ e.2.length ≤ 120 ∧ ∀ z ∈ e.2, 0 ≤ z ∧ z ≤ 999999999) (h : isEf k d = false) : badE k (effs m ++ d :: post) = some m.length := by
  have g0 := badE_good g
  unfold badE at g0 ⊢
  rw [List.findIdx?_append, g0, List.findIdx?_cons, h, Mt.effs_len]
  simp
def tD8 (i : Int) : PyData := .tuple [.int i, .bool true, .bool false]
theorem shaped_t8 (i : Int) : SeqAt.shaped (tD8 i) = true := rfl
theorem dp_t8 {K : PySem.W.Frag} {H : Hp} {t : Addr} {i : Int} (h : SqT K H t [.int i, .bl true, .bl false]) : Dp K H (.ref t) (tD8 i) := .tup h (.cons (.int i) (.cons (.bl true) (.cons (.bl false) .nil)))
def sp__law_refusals (K : PySem.W.Frag) : Sp := fun vs H Q _ => ∃ (S c : Addr) (k8 : Km.Kd8) (p : Addr) (xs : List V) (l : List Mt.Ev), vs = [.ref S, .str (nm k8), .ref p] ∧ Stm S c H ∧ Mt.RowL K S p xs l H ∧ l.length ≤ 8 ∧ (∀ e ∈ l, Km.pl k8 e.2 = e.2 ∧ e.2.length ≤ 120 ∧ ∀ z ∈ e.2, 0 ≤ z ∧ z ≤ 999999999) ∧ ∀ H', Q (.bl true) H'
theorem ok__law_refusals (T : Txt P K mg A') : FnOk P w K mg base CX0 10 A'.f__law_refusals A'.fd__law_refusals ["_law_stream_here", "_law_kind_here", "_law_row_here"] (sp__law_refusals K) := by
  refine Hk.okN T.F__law_refusals sc__law_refusals (fun vs H Q E h => ?_) (fun cdv A outer s H vs Q E hr h => ?_)
  · obtain ⟨S, c, k8, p, xs, l, rfl, _⟩ := h
    rfl
  · obtain ⟨S, c, k8, p, xs, l, rfl, hS, hp, ll, gl, k⟩ := h
    refine ⟨_, (pss_cons (ps_set (i := 3) sc__law_refusals.nd rfl (Or.inl rfl) (pe_tup (pa_cons pe_non (pa_cons pe_int (pa_cons (pe_tup pa_nil) (pa_cons (pe_tup (pa_cons pe_bl pa_nil)) (pa_cons (pe_tup (pa_cons pe_int (pa_cons (pe_tup pa_nil) pa_nil))) (pa_cons (pe_lst (pa_cons pe_bl (pa_cons (pe_tup pa_nil) pa_nil))) (pa_cons (pe_tup (pa_cons pe_bl (pa_cons (pe_lst (pa_cons pe_int pa_nil)) pa_nil))) (pa_cons (pe_tup (pa_cons pe_bl (pa_cons (pe_tup (pa_cons (pe_un un_neg pe_int) pa_nil)) pa_nil))) (pa_cons pe_str (pa_cons (pe_tup (pa_cons pe_non (pa_cons (pe_tup pa_nil) pa_nil))) pa_nil))))))))))))
    (pss_cons (ps_set (i := 4) sc__law_refusals.nd rfl (Or.inl rfl) (pe_ix ix_tup (pv 3) (pe_call (ok__law_pick T) (hr.mono (by decide)) rfl T.g__law_pick T.F__law_pick.kp T.b__law_pick .nil pass0 (pa_cons (pv 0) (pa_cons pe_int pa_nil))) (fun _ _ => rfl)))
    (pss_cons (ps_set (i := 5) sc__law_refusals.nd rfl (Or.inl rfl) (pe_call (ok__law_pick T) (hr.mono (by decide)) rfl T.g__law_pick T.F__law_pick.kp T.b__law_pick .nil pass0 (pa_cons (pv 0) (pa_cons (pe_op op_add (pe_callB call_len_seq (by rfl) T.z_len (by decide +kernel) (pa_cons (pv 2) pa_nil)) pe_int) pa_nil))))
    (pss_cons (ps_set (i := 6) sc__law_refusals.nd rfl (Or.inl rfl) (pe_op op_cat (pe_op op_cat (pe_slice sl_list (pv 2) po_none (po_some (pv 5))) (pe_lst (pa_cons (pv 4) pa_nil))) (pe_slice sl_list (pv 2) (po_some (pv 5)) po_none)))
    (Evl.pss_cut (ps_for PassesOwn.never rfl (pi_range1 (by rfl) T.z_range (pa_cons pe_int pa_nil)) (pg_name (i := 7) sc__law_refusals.nd rfl (Or.inl rfl)) (pss_one (ps_for PassesOwn.never rfl (pi_tup (pe_tup (pa_cons (pe_lst pa_nil) (pa_cons (pe_lst (pa_cons pe_non pa_nil)) pa_nil)))) (pg_name (i := 8) sc__law_refusals.nd rfl (Or.inl rfl)) (pss_one (ps_if (pt_cmpR (op_neD hr.units) (pe_call (ok__law_refused_row T) (hr.mono (by decide)) rfl T.g__law_refused_row T.F__law_refused_row.kp T.b__law_refused_row .nil pass0 (pa_cons (pv 1) (pa_cons (pe_op op_cat (pv 6) (pv 8)) (pa_cons (pv 7) pa_nil)))) (pe_tup (pa_cons (pv 5) (pa_cons pe_bl (pa_cons pe_bl pa_nil)))) (nomark _)) (pss_one (ps_ret pe_bl)) pss_nil)))))
    (pss_cons (ps_set (i := 9) sc__law_refusals.nd rfl (Or.inl rfl) (pe_op op_mod (pe_callTy call_int1 (by rfl) T.z_int (by decide +kernel) (pa_cons (pe_call (ok__law_draw T) (hr.mono (by decide)) rfl T.g__law_draw T.F__law_draw.kp T.b__law_draw .nil pass0 (pa_cons (pv 0) (pa_cons pe_int pa_nil))) pa_nil)) pe_int))
    (pss_cons (ps_set (i := 10) sc__law_refusals.nd rfl (Or.inl rfl) (pe_ix ix_tup (pe_tup (pa_cons pe_str (pa_cons pe_str (pa_cons pe_str (pa_cons pe_non (pa_cons pe_int (pa_cons pe_bl (pa_cons (pe_tup (pa_cons pe_str pa_nil)) (pa_cons (pe_lst (pa_cons pe_str pa_nil)) (pa_cons pe_str (pa_cons pe_str pa_nil))))))))))) (pe_call (ok__law_pick T) (hr.mono (by decide)) rfl T.g__law_pick T.F__law_pick.kp T.b__law_pick .nil pass0 (pa_cons (pv 0) (pa_cons pe_int pa_nil))) (fun _ _ => rfl)))
    (pss_cons (ps_set (i := 11) sc__law_refusals.nd rfl (Or.inl rfl) pe_non)
    (pss_cons (ps_set (i := 12) sc__law_refusals.nd rfl (Or.inl rfl) pe_non)
    (Evl.pss_cut (ps_if (pt_cmpR op_gt (pe_call (ok__law_pick T) (hr.mono (by decide)) rfl T.g__law_pick T.F__law_pick.kp T.b__law_pick .nil pass0 (pa_cons (pv 0) (pa_cons pe_int pa_nil))) pe_int (nomark _)) (pss_cons (ps_set (i := 11) sc__law_refusals.nd rfl (Or.inl rfl) (pe_tup pa_nil))
    (pss_one (ps_set (i := 12) sc__law_refusals.nd rfl (Or.inl rfl) (pe_tup (pa_cons pe_bl (pa_cons (pe_tup pa_nil) pa_nil)))))) pss_nil)
    (pss_one (ps_ret (pe_call (ok__law_refused_kind T) (hr.mono (by decide)) rfl T.g__law_refused_kind T.F__law_refused_kind.kp T.b__law_refused_kind .nil pass0 (pa_cons (pv 9) (pa_cons (pv 10) (pa_cons (pv 11) (pa_cons (pv 12) pa_nil))))))))))))))))), ?_⟩
    have one : 1 ≤ sizeLine := by decide
    have two : 2 ≤ sizeLine := by decide
    have three : 3 ≤ sizeLine := by decide
    have lx := hp.len
    have al : DpAll K (hid S H) [] [] := .nil
    have sm := Same.refl H
    have al := dpa_snoc al (Dp.non : Dp K _ (.non) (.none))
    have al := dpa_snoc al (Dp.int (5) : Dp K _ (.int (5)) (.int (5)))
    refine ⟨(by show 0 ≤ sizeLine; decide), fun q1 nq1 => ?_⟩
    have fq1 := new_tupS (K := K) (xs := []) hS nq1 .nil
    have al := dpa_same (hid_same (same_new (o := (.tup [])) nq1)) al
    have hS := stm_new (o := (.tup [])) hS nq1
    have sm := sm.trans (same_new (o := (.tup [])) nq1)
    generalize upd _ q1 (.tup []) = Wq1 at *
    have al := dpa_snoc al fq1
    refine ⟨(by show 1 ≤ sizeLine; decide), fun q2 nq2 => ?_⟩
    have fq2 := new_tupS (K := K) (xs := [.bl true]) hS nq2 (.cons (.bl true) .nil)
    have al := dpa_same (hid_same (same_new (o := (.tup [.bl true])) nq2)) al
    have hS := stm_new (o := (.tup [.bl true])) hS nq2
    have sm := sm.trans (same_new (o := (.tup [.bl true])) nq2)
    generalize upd _ q2 (.tup [.bl true]) = Wq2 at *
    have al := dpa_snoc al fq2
    refine ⟨(by show 0 ≤ sizeLine; decide), fun q3 nq3 => ?_⟩
    have fq3 := new_tupS (K := K) (xs := []) hS nq3 .nil
    have al := dpa_same (hid_same (same_new (o := (.tup [])) nq3)) al
    have hS := stm_new (o := (.tup [])) hS nq3
    have sm := sm.trans (same_new (o := (.tup [])) nq3)
    generalize upd _ q3 (.tup []) = Wq3 at *
    refine ⟨(by show 2 ≤ sizeLine; decide), fun q4 nq4 => ?_⟩
    have fq4 := new_tupS (K := K) (xs := [.int (1), .ref q3]) hS nq4 (.cons (.int (1)) (.cons fq3 .nil))
    have al := dpa_same (hid_same (same_new (o := (.tup [.int (1), .ref q3])) nq4)) al
    have hS := stm_new (o := (.tup [.int (1), .ref q3])) hS nq4
    have sm := sm.trans (same_new (o := (.tup [.int (1), .ref q3])) nq4)
    generalize upd _ q4 (.tup [.int (1), .ref q3]) = Wq4 at *
    have al := dpa_snoc al fq4
    refine ⟨(by show 0 ≤ sizeLine; decide), fun q5 nq5 => ?_⟩
    have fq5 := new_tupS (K := K) (xs := []) hS nq5 .nil
    have al := dpa_same (hid_same (same_new (o := (.tup [])) nq5)) al
    have hS := stm_new (o := (.tup [])) hS nq5
    have sm := sm.trans (same_new (o := (.tup [])) nq5)
    generalize upd _ q5 (.tup []) = Wq5 at *
    refine ⟨(by show 2 ≤ sizeLine; decide), fun q6 nq6 => ?_⟩
    have fq6 := new_lstS (K := K) (xs := [.bl true, .ref q5]) hS nq6 (.cons (.bl true) (.cons fq5 .nil))
    have al := dpa_same (hid_same (same_new (o := (.lst [.bl true, .ref q5])) nq6)) al
    have hS := stm_new (o := (.lst [.bl true, .ref q5])) hS nq6
    have sm := sm.trans (same_new (o := (.lst [.bl true, .ref q5])) nq6)
    generalize upd _ q6 (.lst [.bl true, .ref q5]) = Wq6 at *
    have al := dpa_snoc al fq6
    refine ⟨(by show 1 ≤ sizeLine; decide), fun q7 nq7 => ?_⟩
    have fq7 := new_lstS (K := K) (xs := [.int (1)]) hS nq7 (.cons (.int (1)) .nil)
    have al := dpa_same (hid_same (same_new (o := (.lst [.int (1)])) nq7)) al
    have hS := stm_new (o := (.lst [.int (1)])) hS nq7
    have sm := sm.trans (same_new (o := (.lst [.int (1)])) nq7)
    generalize upd _ q7 (.lst [.int (1)]) = Wq7 at *
    refine ⟨(by show 2 ≤ sizeLine; decide), fun q8 nq8 => ?_⟩
    have fq8 := new_tupS (K := K) (xs := [.bl true, .ref q7]) hS nq8 (.cons (.bl true) (.cons fq7 .nil))
    have al := dpa_same (hid_same (same_new (o := (.tup [.bl true, .ref q7])) nq8)) al
    have hS := stm_new (o := (.tup [.bl true, .ref q7])) hS nq8
    have sm := sm.trans (same_new (o := (.tup [.bl true, .ref q7])) nq8)
    generalize upd _ q8 (.tup [.bl true, .ref q7]) = Wq8 at *
    have al := dpa_snoc al fq8
    refine ⟨_, rfl, (by show 1 ≤ sizeLine; decide), fun q9 nq9 => ?_⟩
    have fq9 := new_tupS (K := K) (xs := [.int (-1)]) hS nq9 (.cons (.int (-1)) .nil)
    have al := dpa_same (hid_same (same_new (o := (.tup [.int (-1)])) nq9)) al
    have hS := stm_new (o := (.tup [.int (-1)])) hS nq9
    have sm := sm.trans (same_new (o := (.tup [.int (-1)])) nq9)
    generalize upd _ q9 (.tup [.int (-1)]) = Wq9 at *
    refine ⟨(by show 2 ≤ sizeLine; decide), fun q10 nq10 => ?_⟩
    have fq10 := new_tupS (K := K) (xs := [.bl false, .ref q9]) hS nq10 (.cons (.bl false) (.cons fq9 .nil))
    have al := dpa_same (hid_same (same_new (o := (.tup [.bl false, .ref q9])) nq10)) al
    have hS := stm_new (o := (.tup [.bl false, .ref q9])) hS nq10
    have sm := sm.trans (same_new (o := (.tup [.bl false, .ref q9])) nq10)
    generalize upd _ q10 (.tup [.bl false, .ref q9]) = Wq10 at *
    have al := dpa_snoc al fq10
    have al := dpa_snoc al (Dp.str "effect" : Dp K _ (.str "effect") (.str "effect"))
    refine ⟨(by show 0 ≤ sizeLine; decide), fun q11 nq11 => ?_⟩
    have fq11 := new_tupS (K := K) (xs := []) hS nq11 .nil
    have al := dpa_same (hid_same (same_new (o := (.tup [])) nq11)) al
    have hS := stm_new (o := (.tup [])) hS nq11
    have sm := sm.trans (same_new (o := (.tup [])) nq11)
    generalize upd _ q11 (.tup []) = Wq11 at *
    refine ⟨(by show 2 ≤ sizeLine; decide), fun q12 nq12 => ?_⟩
    have fq12 := new_tupS (K := K) (xs := [.non, .ref q11]) hS nq12 (.cons (Dp.non) (.cons fq11 .nil))
    have al := dpa_same (hid_same (same_new (o := (.tup [.non, .ref q11])) nq12)) al
    have hS := stm_new (o := (.tup [.non, .ref q11])) hS nq12
    have sm := sm.trans (same_new (o := (.tup [.non, .ref q11])) nq12)
    generalize upd _ q12 (.tup [.non, .ref q11]) = Wq12 at *
    have al := dpa_snoc al fq12
    refine ⟨(by show 10 ≤ sizeLine; decide), fun t nt => ?_⟩
    have nO := same_new (o := .tup ([.non, .int (5), .ref q1, .ref q2, .ref q4, .ref q6, .ref q8, .ref q10, .str "effect", .ref q12] : List V)) nt
    have hS0 := stm_new (o := .tup ([.non, .int (5), .ref q1, .ref q2, .ref q4, .ref q6, .ref q8, .ref q10, .str "effect", .ref q12] : List V)) hS nt
    have ht : SqT K (hid S (upd Wq12 t (.tup ([.non, .int (5), .ref q1, .ref q2, .ref q4, .ref q6, .ref q8, .ref q10, .str "effect", .ref q12] : List V)))) t ([.non, .int (5), .ref q1, .ref q2, .ref q4, .ref q6, .ref q8, .ref q10, .str "effect", .ref q12] : List V) := sqt_hid hS0 (.inl (.inl upd_same))
    have hds : DpAll K (hid S (upd Wq12 t (.tup ([.non, .int (5), .ref q1, .ref q2, .ref q4, .ref q6, .ref q8, .ref q10, .str "effect", .ref q12] : List V)))) ([.non, .int (5), .ref q1, .ref q2, .ref q4, .ref q6, .ref q8, .ref q10, .str "effect", .ref q12] : List V) oddE := dpa_same (hid_same nO) al
    have hp0 := hp.same (sm.trans nO)
    clear al nO sm hS hp
    generalize upd Wq12 t (.tup ([.non, .int (5), .ref q1, .ref q2, .ref q4, .ref q6, .ref q8, .ref q10, .str "effect", .ref q12] : List V)) = H0 at *
    generalize ([.non, .int (5), .ref q1, .ref q2, .ref q4, .ref q6, .ref q8, .ref q10, .str "effect", .ref q12] : List V) = vo at *
    refine ⟨_, rfl, _, rfl, S, c, 10, rfl, hS0, by decide, fun r H1 a1 b1 _ hS1 e1 => ?_⟩
    obtain ⟨n, rfl⟩ := Int.eq_ofNat_of_zero_le a1
    have hlen : vo.length = 10 := dpa_len hds
    have hn : n < vo.length := by omega
    obtain ⟨d, hd, hx⟩ := dpa_get (i := n) (v := vo[n]) hds (List.getElem?_eq_getElem hn)
    have hmem : d ∈ oddE := List.mem_of_getElem? hd
    have ht1 := seqT_same hid_le (seqT_same (hid_ext e1) ht)
    have hx1 := dp_ext e1 hx
    have hp1 := hp0.ext hS0 e1
    refine ⟨t, vo, _, vo[n], rfl, rfl, ht1, atI_nat (List.getElem?_eq_getElem hn), ?_⟩
    have nw := oddE_bad k8 d hmem
    have hfw := oddE_few d hmem
    generalize vo[n] = bv at *
    clear hds ht hx hp0 ht1
    -- place
    refine ⟨_, rfl, _, rfl, p, _, rfl, .inl hp1.sq, _, _, rfl, rfl, S, c, _, rfl, hS1, (by omega), fun r2 H2 a2 b2 _ hS2 e2 => ?_⟩
    obtain ⟨m, rfl⟩ := Int.eq_ofNat_of_zero_le a2
    have hm : m ≤ xs.length := by omega
    have hx2 := dp_hid (dp_ext e2 hx1)
    have hp2 := hp1.ext hS1 e2
    clear hx1 hp1
    -- spoilt
    refine ⟨_, rfl, _, rfl, _, rfl, p, xs, rfl, hp2.sq, fun q1 n1 => ?_⟩
    have t1 := same_new (o := .lst (cutV xs none (some (m : Int)))) n1
    refine ⟨_, rfl, one, fun q2 n2 => ?_⟩
    have t2 := same_new (o := .lst [bv]) n2
    refine ⟨q1, q2, _, _, rfl, rfl, t2 _ _ upd_same, upd_same, ?_, fun q3 n3 => ?_⟩
    · rw [cut_tk hm, List.length_take]
      exact Nat.le_of_lt (small1000 (show min m xs.length + 1 ≤ 1000 by omega))
    rw [cut_tk hm] at *
    have t3 := same_new (o := .lst (xs.take m ++ [bv])) n3
    have t13 := (t1.trans t2).trans t3
    have h3 : (upd (upd (upd H2 q1 (.lst (xs.take m))) q2 (.lst [bv])) q3 (.lst (xs.take m ++ [bv]))) q3 = some (.lst (xs.take m ++ [bv])) := upd_same
    generalize upd (upd (upd H2 q1 (.lst (xs.take m))) q2 (.lst [bv])) q3 (.lst (xs.take m ++ [bv])) = J3 at *
    refine ⟨_, rfl, _, rfl, _, rfl, p, xs, rfl, (hp2.same t13).sq, fun q4 n4 => ?_⟩
    have t4 := same_new (o := .lst (cutV xs (some (m : Int)) none)) n4
    refine ⟨q3, q4, _, _, rfl, rfl, t4 _ _ h3, upd_same, ?_, fun q5 n5 => ?_⟩
    · rw [cut_dr hm, List.length_drop, List.length_append, List.length_take]
      exact Nat.le_of_lt (small1000 (show min m xs.length + 1 + (xs.length - m) ≤ 1000 by omega))
    rw [cut_dr hm] at *
    have t5 := same_new (o := .lst (xs.take m ++ [bv] ++ xs.drop m)) n5
    have h5 : (upd (upd J3 q4 (.lst (xs.drop m))) q5 (.lst (xs.take m ++ [bv] ++ xs.drop m))) q5 = some (.lst (xs.take m ++ [bv] ++ xs.drop m)) := upd_same
    have t25 := t13.trans (t4.trans t5)
    generalize upd (upd J3 q4 (.lst (xs.drop m))) q5 (.lst (xs.take m ++ [bv] ++ xs.drop m)) = J4 at *
    have hS4 := stm_same hS2 t25
    have hp4 := hp2.same t25
    have hx4 := dp_same t25 hx2
    have dat : ∀ {J : Hp}, Same J4 J → DpAll K J (xs.take m ++ [bv] ++ xs.drop m) (effs (l.take m) ++ d :: effs (l.drop m)) := fun s => by
      have h1 := dpa_same s hp4.dat
      have a := dpa_tk m h1
      have b := dpa_dr m h1
      have ea : (effs l).take m = effs (l.take m) := by unfold effs; rw [List.map_take]
      have eb : (effs l).drop m = effs (l.drop m) := by unfold effs; rw [List.map_drop]
      rw [ea] at a
      rw [eb] at b
      have := dpa_app8 (dpa_snoc a (dp_same s hx4)) b
      have e2 : effs (l.take m) ++ [d] ++ effs (l.drop m) = effs (l.take m) ++ d :: effs (l.drop m) := by rw [List.append_assoc] <;> rfl
      rw [e2] at this
      exact this
    have lsp : (xs.take m ++ [bv] ++ xs.drop m).length ≤ 9 := by
      rw [List.length_append, List.length_append, List.length_take, List.length_drop]
      show min m xs.length + 1 + (xs.length - m) ≤ 9
      omega
    have ltk : (l.take m).length = m := by rw [List.length_take]; omega
    have bd : ∀ post, badE k8 (effs (l.take m) ++ d :: post) = some m := fun post => by
      rw [badE_mid (fun e he => gl e (List.mem_of_mem_take he)) nw, ltk]
    have fw : ∀ post, (∀ x ∈ post, x ∈ effs l ∨ x = .none) → ∀ y ∈ effs (l.take m) ++ d :: post, ∀ a b, y = .tuple [a, b] → few b := fun post hpost y hy => by
      have fl : ∀ y ∈ effs l, ∀ a b, y = .tuple [a, b] → few b := few_g gl
      rcases List.mem_append.mp hy with h | h
      · exact few_g (fun e he => gl e (List.mem_of_mem_take he)) y h
      · rcases List.mem_cons.mp h with rfl | h
        · exact hfw
        · rcases hpost y h with h | rfl
          · exact fl y h
          · intro a b e; cases e
    generalize xs.take m ++ [bv] ++ xs.drop m = sp at *
    clear h3 t13 t4 t5 t25 hx2 hp2 n1 n2 n3 n4 n5
    have dmem : ∀ x ∈ effs (l.drop m), x ∈ effs l := fun x hx => by
      unfold effs at hx ⊢
      obtain ⟨e, he, rfl⟩ := List.mem_map.mp hx
      exact List.mem_map.mpr ⟨e, List.mem_of_mem_drop he, rfl⟩
    refine ⟨fun σ' H' => ∃ o1 o2, σ' = [some (.ref S), some (.str (nm k8)), some (.ref p), some (.ref t), some bv, some (.int (m : Int)), some (.ref q5), o1, o2, none, none, none, none] ∧ Same J4 H', ?_, ?_⟩
    · refine ⟨2, rfl, by decide, by decide, ?_⟩
      refine for_range (lo := 0) (n := 2) (fun i σ' H' => ∃ o1 o2, σ' = [some (.ref S), some (.str (nm k8)), some (.ref p), some (.ref t), some bv, some (.int (m : Int)), some (.ref q5), o1, o2, none, none, none, none] ∧ Same J4 H') ⟨none, none, rfl, .refl _⟩ ?_ ?_
      rotate_left
      · rintro σ' H' ⟨o1, o2, rfl, s⟩
        exact ⟨o1, o2, rfl, s⟩
      rintro i σ' H5 hi ⟨o1, o2, rfl, s5⟩
      refine ⟨Nat.zero_le _, fun u1 m1 => ⟨one, fun u2 m2 => ⟨two, fun u3 m3 => ?_⟩⟩⟩
      have v1 := same_new (o := .lst []) m1
      have v2 := same_new (o := .lst [.non]) m2
      have v3 := same_new (o := .tup [.ref u1, .ref u2]) m3
      have g1 := (v2.trans v3) u1 _ (upd_same (H := H5) (o := .lst []))
      have g2 := v3 u2 _ (upd_same (o := .lst [.non]))
      have g3 : SqT K (upd (upd (upd H5 u1 (.lst [])) u2 (.lst [.non])) u3 (.tup [.ref u1, .ref u2])) u3 [.ref u1, .ref u2] := .inl (.inl upd_same)
      have s6 := s5.trans ((v1.trans v2).trans v3)
      generalize upd (upd (upd H5 u1 (.lst [])) u2 (.lst [.non])) u3 (.tup [.ref u1, .ref u2]) = H6 at *
      refine ⟨u3, rfl, ⟨_, g3⟩, for_tup (K := K) (a := u3) (xs := [.ref u1, .ref u2]) (fun j σ' H' => ∃ o2, σ' = [some (.ref S), some (.str (nm k8)), some (.ref p), some (.ref t), some bv, some (.int (m : Int)), some (.ref q5), some (.int (0 + (i : Int))), o2, none, none, none, none] ∧ Same H6 H') ⟨_, rfl, .refl _⟩ (fun i σ' H' _ ⟨_, _, s⟩ => seqT_same s g3) ?_ ?_⟩
      rotate_left
      · rintro σ' H' ⟨o2, rfl, s⟩
        exact ⟨_, _, rfl, s6.trans s⟩
      rintro j v σ' H7 hj ⟨o2, rfl, s7⟩
      obtain ⟨ub, tl, dl, rfl, hub, htl, hdl, hll⟩ : ∃ ub tl dl, v = .ref ub ∧ H7 ub = some (.lst tl) ∧ DpAll K H7 tl dl ∧ (∀ x ∈ dl, x = .none) ∧ tl.length ≤ 1 := by
        match j, hj with
        | 0, hj => cases hj; exact ⟨u1, [], [], rfl, s7 _ _ g1, .nil, fun x h => (by cases h), by decide⟩
        | 1, hj => cases hj; exact ⟨u2, [.non], [.none], rfl, s7 _ _ g2, .cons .non .nil, fun x h => List.mem_singleton.mp h, by decide⟩
      have s47 := s6.trans s7
      refine ⟨_, rfl, _, rfl, _, rfl, q5, ub, sp, tl, rfl, rfl, s47 _ _ h5, hub, ?_, fun z nz => ?_⟩
      · exact Nat.le_of_lt (small1000 (by omega))
      have sz := same_new (o := .lst (sp ++ tl)) nz
      have dz := dpa_app8 (dat (s47.trans sz)) (dpa_same sz htl)
      rw [List.append_assoc, List.cons_append] at dz
      refine ⟨_, rfl, k8, z, _, sp ++ tl, _, m, rfl, SqL.of upd_same, dz, fw _ ?_, bd _, fun t8 H8 s8 h8 => ?_⟩
      · intro x hx
        rcases List.mem_append.mp hx with h | h
        · exact .inl (dmem x h)
        · exact .inr (hdl x h)
      refine ⟨_, rfl, three, fun w8 nw8 => ?_⟩
      have sw := same_new (o := .tup [.int (m : Int), .bl true, .bl false]) nw8
      refine ⟨_, _, dp_same sw (dp_t8 h8), dp_t8 (.inl (.inl upd_same)), shaped_t8 _, shaped_t8 _, _, rfl, ?_⟩
      refine ifF (by rw [eqv_self (shaped_t8 _)] <;> rfl) ?_
      exact ⟨_, rfl, ((s7.trans sz).trans s8).trans sw⟩
    rintro σ' H5 ⟨o1, o2, rfl, s5⟩
    have hS5 := stm_same hS4 s5
    clear dat bd fw hx4 hp4 h5 hS4 hS2 hS1
    refine ⟨_, rfl, S, c, 100, rfl, hS5, by decide, by decide, fun r6 J5 h06 h16 hS6 e6 => .inl ⟨_, rfl, _, _, rfl, rfl, (show (0 : Int) < 26 by decide), ?_⟩⟩
    have hS := hS6
    clear hS5 s5
    have al : DpAll K (hid S J5) [] [] := .nil
    have sm := Same.refl J5
    have al := dpa_snoc al (Dp.str "" : Dp K _ (.str "") (.str ""))
    have al := dpa_snoc al (Dp.str "lists" : Dp K _ (.str "lists") (.str "lists"))
    have al := dpa_snoc al (Dp.str "List" : Dp K _ (.str "List") (.str "List"))
    have al := dpa_snoc al (Dp.non : Dp K _ (.non) (.none))
    have al := dpa_snoc al (Dp.int (0) : Dp K _ (.int (0)) (.int (0)))
    have al := dpa_snoc al (Dp.bl true : Dp K _ (.bl true) (.bool true))
    refine ⟨(by show 1 ≤ sizeLine; decide), fun n1 nn1 => ?_⟩
    have fn1 := new_tupS (K := K) (xs := [.str "list"]) hS nn1 (.cons (.str "list") .nil)
    have al := dpa_same (hid_same (same_new (o := (.tup [.str "list"])) nn1)) al
    have hS := stm_new (o := (.tup [.str "list"])) hS nn1
    have sm := sm.trans (same_new (o := (.tup [.str "list"])) nn1)
    generalize upd _ n1 (.tup [.str "list"]) = Wn1 at *
    have al := dpa_snoc al fn1
    refine ⟨(by show 1 ≤ sizeLine; decide), fun n2 nn2 => ?_⟩
    have fn2 := new_lstS (K := K) (xs := [.str "bag"]) hS nn2 (.cons (.str "bag") .nil)
    have al := dpa_same (hid_same (same_new (o := (.lst [.str "bag"])) nn2)) al
    have hS := stm_new (o := (.lst [.str "bag"])) hS nn2
    have sm := sm.trans (same_new (o := (.lst [.str "bag"])) nn2)
    generalize upd _ n2 (.lst [.str "bag"]) = Wn2 at *
    have al := dpa_snoc al fn2
    have al := dpa_snoc al (Dp.str "end" : Dp K _ (.str "end") (.str "end"))
    have al := dpa_snoc al (Dp.str " set" : Dp K _ (.str " set") (.str " set"))
    refine ⟨(by show 10 ≤ sizeLine; decide), fun t9 nt9 => ?_⟩
    have nO := same_new (o := .tup ([.str "", .str "lists", .str "List", .non, .int (0), .bl true, .ref n1, .ref n2, .str "end", .str " set"] : List V)) nt9
    have hS9 := stm_new (o := .tup ([.str "", .str "lists", .str "List", .non, .int (0), .bl true, .ref n1, .ref n2, .str "end", .str " set"] : List V)) hS nt9
    have ht : SqT K (hid S (upd Wn2 t9 (.tup ([.str "", .str "lists", .str "List", .non, .int (0), .bl true, .ref n1, .ref n2, .str "end", .str " set"] : List V)))) t9 ([.str "", .str "lists", .str "List", .non, .int (0), .bl true, .ref n1, .ref n2, .str "end", .str " set"] : List V) := sqt_hid hS9 (.inl (.inl upd_same))
    have hds : DpAll K (hid S (upd Wn2 t9 (.tup ([.str "", .str "lists", .str "List", .non, .int (0), .bl true, .ref n1, .ref n2, .str "end", .str " set"] : List V)))) ([.str "", .str "lists", .str "List", .non, .int (0), .bl true, .ref n1, .ref n2, .str "end", .str " set"] : List V) nmD := dpa_same (hid_same nO) al
    clear al nO sm hS
    generalize upd Wn2 t9 (.tup ([.str "", .str "lists", .str "List", .non, .int (0), .bl true, .ref n1, .ref n2, .str "end", .str " set"] : List V)) = H9 at *
    generalize ([.str "", .str "lists", .str "List", .non, .int (0), .bl true, .ref n1, .ref n2, .str "end", .str " set"] : List V) = vn at *
    refine ⟨_, rfl, S, c, 10, rfl, hS9, by decide, fun r7 H7 a7 b7 _ hS7 e7 => ?_⟩
    obtain ⟨j, rfl⟩ := Int.eq_ofNat_of_zero_le a7
    have hlen : vn.length = 10 := dpa_len hds
    have hj : j < vn.length := by omega
    obtain ⟨dn, hd, hx⟩ := dpa_get (i := j) (v := vn[j]) hds (List.getElem?_eq_getElem hj)
    have hmem : dn ∈ nmD := List.mem_of_getElem? hd
    have hxn := dp_ext e7 hx
    refine ⟨t9, vn, _, vn[j], rfl, rfl, seqT_same hid_le (seqT_same (hid_ext e7) ht), atI_nat (List.getElem?_eq_getElem hj), ?_⟩
    generalize vn[j] = nv at *
    refine ⟨fun σ' H' => ∃ w e, σ' = [some (.ref S), some (.str (nm k8)), some (.ref p), some (.ref t), some bv, some (.int (m : Int)), some (.ref q5), o1, o2, some (.int (r6 % 26)), some nv, some w, some e] ∧ Dp K H' nv dn, ?_, ?_⟩
    · refine ⟨_, rfl, S, c, 10, rfl, hS7, by decide, fun r8 H8 a8 b8 _ hS8 e8 => ⟨_, _, rfl, rfl, _, rfl, ?_⟩⟩
      have hx8 := dp_hid (dp_ext e8 hxn)
      refine if2 (fun _ => ?_) (fun _ => ⟨_, _, rfl, hx8⟩)
      exact ⟨Nat.zero_le _, fun z nz => ⟨Nat.zero_le _, fun z2 nz2 => ⟨two, fun q nq => ⟨_, _, rfl, dp_same (((same_new nz).trans (same_new nz2)).trans (same_new nq)) hx8⟩⟩⟩⟩
    rintro σ' H8 ⟨w, e, rfl, hx8⟩
    exact ⟨_, rfl, _, rfl, _, rfl, _, rfl, (r6 % 26), nv, w, e, dn, rfl, hx8, nmD_sh dn hmem, nmD_bad dn hmem, nmD_plain dn hmem, fun H9 _ => k H9⟩
end
end Kx

set_option Elab.async false
set_option linter.all false
set_option maxRecDepth 100000
set_option maxHeartbeats 4000000
namespace Kx
open PySem PySem.Spec PyProof.Rows L2 Lk
section
variable {P : Program} {w : World} {K : PySem.W.Frag} {mg : Str → Option Value} {base : Heap} {A' : Ad}
/-! ### law -/
def sp_law (K : PySem.W.Frag) : Sp := fun vs H Q _ => ∃ (a : Addr) (ns : List Int), vs = [.ref a] ∧ SqL K H a (ns.map V.int) ∧ ns.length ≤ 63 ∧ ∀ H', Q (.bl true) H'
theorem wh_narrow {n w : Km.Kd8} (h : Km.undB n w = true) : ∀ (l : List Mt.Ev), Mt.wh n (l.map (nrm n)) = nrm n (Mt.wh w l) := by
  have key : ∀ (l : List Mt.Ev) (a : Mt.Ev), (l.map (nrm n)).foldl (fun a e => nrm n (mulE a e)) (nrm n a) = nrm n (l.foldl (fun a e => nrm w (mulE a e)) a) := by
    intro l
    induction l with
    | nil => exact fun a => rfl
    | cons e r ih =>
      intro a
      rw [List.map_cons, List.foldl_cons, List.foldl_cons, under_then h]
      exact ih _
  intro l
  have := key l (false, [])
  have e0 : nrm n (false, []) = (false, []) := (show Nrm n (false, []) from ⟨pl_nil0 n, nF_idle n false⟩).eq
  rw [e0] at this
  exact this
theorem runs_narrow {n w : Km.Kd8} (h : Km.undB n w = true) (l : List Mt.Ev) : Mt.runs n (l.map (nrm n)) = (Mt.runs w l).map (nrm n) := by
  unfold Mt.runs
  rw [List.length_map, List.map_map]
  refine List.map_congr_left fun i _ => ?_
  rw [← List.map_take]
  exact wh_narrow h _
theorem ok_law (T : Txt P K mg A') : FnOk P w K mg base CX0 11 A'.f_law A'.fd_law ["_law_script"] (sp_law K) := by
  refine Hk.okN T.F_law sc_law (fun vs H Q E h => ?_) (fun cdv A outer s H vs Q E hr h => ?_)
  · obtain ⟨a, ns, rfl, _⟩ := h
    rfl
  · obtain ⟨a, ns, rfl, ha, hn, k⟩ := h
    refine ⟨_, (pss_cons (ps_set (i := 1) sc_law.nd rfl (Or.inl rfl) (pe_call (ok__law_stream T) (hr.mono (by decide)) rfl T.g__law_stream T.F__law_stream.kp T.b__law_stream .nil pass0 (pa_cons (pv 0) pa_nil)))
    (pss_cons (ps_set (i := 2) sc_law.nd rfl (Or.inl rfl) (pe_call (ok__law_kind T) (hr.mono (by decide)) rfl T.g__law_kind T.F__law_kind.kp T.b__law_kind .nil pass0 (pa_cons (pv 1) pa_nil)))
    (pss_cons (ps_set (i := 3) sc_law.nd rfl (Or.inl rfl) (pe_call (ok__law_letters T) (hr.mono (by decide)) rfl T.g__law_letters T.F__law_letters.kp T.b__law_letters .nil pass0 (pa_cons (pv 1) pa_nil)))
    (pss_cons (ps_set (i := 4) sc_law.nd rfl (Or.inl rfl) (pe_call (ok__law_row T) (hr.mono (by decide)) rfl T.g__law_row T.F__law_row.kp T.b__law_row .nil pass0 (pa_cons (pv 1) (pa_cons (pv 2) (pa_cons (pv 3) pa_nil)))))
    (pss_cons (ps_set (i := 5) sc_law.nd rfl (Or.inl rfl) (pe_call (ok__law_twin_row T) (hr.mono (by decide)) rfl T.g__law_twin_row T.F__law_twin_row.kp T.b__law_twin_row .nil pass0 (pa_cons (pv 1) (pa_cons (pv 2) (pa_cons (pv 4) pa_nil)))))
    (pss_cons (ps_set (i := 6) sc_law.nd rfl (Or.inl rfl) (pe_tup (pa_cons (pe_cmpR op_gt (pe_call (ok__law_pick T) (hr.mono (by decide)) rfl T.g__law_pick T.F__law_pick.kp T.b__law_pick .nil pass0 (pa_cons (pv 1) (pa_cons pe_int pa_nil))) pe_int (nomark _)) (pa_cons (pe_call (ok__law_plain T) (hr.mono (by decide)) rfl T.g__law_plain T.F__law_plain.kp T.b__law_plain .nil pass0 (pa_cons (pv 2) (pa_cons (pe_call (ok__law_raw T) (hr.mono (by decide)) rfl T.g__law_raw T.F__law_raw.kp T.b__law_raw .nil pass0 (pa_cons (pv 1) (pa_cons (pv 3) pa_nil))) pa_nil))) pa_nil))))
    (pss_cons (ps_set (i := 7) sc_law.nd rfl (Or.inl rfl) (pe_call (ok__law_plain T) (hr.mono (by decide)) rfl T.g__law_plain T.F__law_plain.kp T.b__law_plain .nil pass0 (pa_cons (pv 2) (pa_cons (pe_call (ok__law_raw T) (hr.mono (by decide)) rfl T.g__law_raw T.F__law_raw.kp T.b__law_raw .nil pass0 (pa_cons (pv 1) (pa_cons (pv 3) pa_nil))) pa_nil))))
    (pss_cons (ps_set (i := 8) sc_law.nd rfl (Or.inr rfl) (pe_call (ok__law_lower_kind T) (hr.mono (by decide)) rfl T.g__law_lower_kind T.F__law_lower_kind.kp T.b__law_lower_kind .nil pass0 (pa_cons (pv 1) (pa_cons (pv 2) pa_nil))))
    (pss_cons (ps_set (i := 9) sc_law.nd rfl (Or.inl rfl) (pe_call (ok__law_running T) (hr.mono (by decide)) rfl T.g__law_running T.F__law_running.kp T.b__law_running .nil pass0 (pa_cons (pv 2) (pa_cons (pv 4) pa_nil))))
    (pss_cons (ps_if (PW.pt (pw_or (pt_not (pt_val (pe_call (ok__law_along T) (hr.mono (by decide)) rfl T.g__law_along T.F__law_along.kp T.b__law_along .nil pass0 (pa_cons (pv 2) (pa_cons (pv 4) (pa_cons (pv 5) pa_nil)))))) (pw_or (pt_not (pt_val (pe_call (ok__law_later T) (hr.mono (by decide)) rfl T.g__law_later T.F__law_later.kp T.b__law_later .nil pass0 (pa_cons (pv 2) (pa_cons (pv 9) pa_nil))))) (pw_or1 (pt_not (pt_val (pe_call (ok__law_states T) (hr.mono (by decide)) rfl T.g__law_states T.F__law_states.kp T.b__law_states .nil pass0 (pa_cons (pv 2) (pa_cons (pv 4) (pa_cons (pv 9) (pa_cons (pv 7) pa_nil))))))))))) (pss_one (ps_ret pe_bl)) pss_nil)
    (pss_cons (ps_for PassesOwn.never rfl (pi_tup (pe_tup (pa_cons (pv 4) (pa_cons (pe_callTy call_tuple_of (by rfl) T.z_tuple (by decide +kernel) (pa_cons (pv 4) pa_nil)) pa_nil)))) (pg_name (i := 10) sc_law.nd rfl (Or.inl rfl)) (pss_one (ps_if (pt_not (pt_val (pe_call (ok__law_same_row T) (hr.mono (by decide)) rfl T.g__law_same_row T.F__law_same_row.kp T.b__law_same_row .nil pass0 (pa_cons (pe_callN (ok_steps_between T) (hr.mono (by decide)) rfl T.g_steps_between T.F_steps_between.kp T.bk_steps_between passL (pa_cons (pv 2) (pa_cons (pv 10) pa_nil)) (pk_cons (pv 6) pk_nil)) (pa_cons (pe_call (ok__law_steps T) (hr.mono (by decide)) rfl T.g__law_steps T.F__law_steps.kp T.b__law_steps .nil pass0 (pa_cons (pv 2) (pa_cons (pv 6) (pa_cons (pv 4) pa_nil)))) pa_nil))))) (pss_one (ps_ret pe_bl)) pss_nil)))
    (pss_cons (ps_setLc (i := 11) (own := [("_law_effect", 12)]) (g := gName 12) (tt := tYes) (by rfl) sc_law.nd rfl rfl (sw_true rfl rfl rfl (by decide +kernel)) (pi_list (pv 4)) (blkOk_by (own := [("_law_effect", 12)]) (N := ["_law_script", "_law_stream_here", "_law_kind_here", "_law_letters_here", "_law_row_here", "_law_twin", "_law_begin", "_law_state", "_law_narrow", "_law_due", "_law_handed", "_law_lower", "_law_effect"]) (sc := defScope s_law) (by decide +kernel)) (fun _ _ _ _ _ => (pg_name (i := 12) sc_law.nd rfl (Or.inl rfl))) (fun _ _ _ _ _ => pts_nil) (fun _ _ _ _ _ => (pe_call (ok_narrowed_effect T) (hr.mono (by decide)) rfl T.g_narrowed_effect T.F_narrowed_effect.kp T.b_narrowed_effect .nil pass0 (pa_cons (pv 8) (pa_cons (pv 12) pa_nil)))))
    (pss_cons (ps_if (pt_cmpR (op_neD hr.units) (pv 11) (pe_call (ok__law_narrowed_row T) (hr.mono (by decide)) rfl T.g__law_narrowed_row T.F__law_narrowed_row.kp T.b__law_narrowed_row .nil pass0 (pa_cons (pv 8) (pa_cons (pv 2) (pa_cons (pv 4) pa_nil)))) (nomark _)) (pss_one (ps_ret pe_bl)) pss_nil)
    (pss_cons (ps_if (pt_not (pt_val (pe_call (ok__law_same_row T) (hr.mono (by decide)) rfl T.g__law_same_row T.F__law_same_row.kp T.b__law_same_row .nil pass0 (pa_cons (pe_call (ok_running T) (hr.mono (by decide)) rfl T.g_running T.F_running.kp T.b_running .nil passL (pa_cons (pv 8) (pa_cons (pv 11) pa_nil))) (pa_cons (pe_call (ok__law_narrowed_row T) (hr.mono (by decide)) rfl T.g__law_narrowed_row T.F__law_narrowed_row.kp T.b__law_narrowed_row .nil pass0 (pa_cons (pv 8) (pa_cons (pv 2) (pa_cons (pv 9) pa_nil)))) pa_nil))))) (pss_one (ps_ret pe_bl)) pss_nil)
    (pss_one (ps_ret (pe_call (ok__law_refusals T) (hr.mono (by decide)) rfl T.g__law_refusals T.F__law_refusals.kp T.b__law_refusals .nil pass0 (pa_cons (pv 1) (pa_cons (pv 2) (pa_cons (pv 4) pa_nil)))))))))))))))))))), ?_⟩
    have two : 2 ≤ sizeLine := by decide
    refine ⟨_, rfl, a, ns, rfl, ha, hn, fun S c H1 nS s1 hS1 => ?_⟩
    refine ⟨_, rfl, S, c, rfl, hS1, fun k8 H2 e2 hS2 => ?_⟩
    refine ⟨_, rfl, S, c, rfl, hS2, fun G gs H3 nG e3 hS3 hG3 => ?_⟩
    refine ⟨_, rfl, _, rfl, _, rfl, S, c, k8, G, gs, rfl, hS3, hG3, fun p xs l H4 e4 hS4 hp4 nP hR => ?_⟩
    have hG4 := hG3.ext e4
    have ll := hR.1
    have lg := hG3.ten
    have rg := hG3.rng
    have gl : ∀ e ∈ l, Km.pl k8 e.2 = e.2 ∧ e.2.length ≤ 120 ∧ ∀ z ∈ e.2, 0 ≤ z ∧ z ≤ 999999999 := fun e he => ⟨(hR.2 e he).1, by have := (hR.2 e he).2.1; omega, fun z hz => rg z ((hR.2 e he).2.2 z hz)⟩
    have pl : ∀ e ∈ l, Km.pl k8 e.2 = e.2 := fun e he => (gl e he).1
    have lw : ∀ i, (Mt.wh k8 (l.take i)).2.length ≤ 120 := fun i => by
      have h1 := Mt.wh_len (k := k8) (l := l.take i) (n := 8) fun e he => (hR.2 e (List.mem_of_mem_take he)).2.1
      have h2 : (l.take i).length ≤ 8 := by rw [List.length_take]; omega
      have h3 : (l.take i).length * (8 + 1) ≤ 8 * 9 := Nat.mul_le_mul_right _ h2
      omega
    have mw : ∀ i, ∀ z ∈ (Mt.wh k8 (l.take i)).2, z ∈ gs := fun i => Mt.wh_mem fun e he => (hR.2 e (List.mem_of_mem_take he)).2.2
    have tw : k8 = .tails → ∀ i, (Mt.wh k8 (l.take i)).2.length ≤ 31 := fun z i => by
      subst z
      have := Mt.wh_tails (l := l.take i) (gs := gs) fun e he => (hR.2 e (List.mem_of_mem_take he)).2.2
      omega
    -- twin
    refine ⟨_, rfl, _, rfl, _, rfl, S, c, k8, p, xs, l, rfl, hS4, hp4, fun e he => ⟨(gl e he).2.1, (gl e he).1⟩, lw, by omega, fun q zs l2 H5 e5 hS5 hq5 hl2 hor => ?_⟩
    have hp5 := hp4.ext hS4 e5
    have hG5 := hG4.ext e5
    have hW : Mt.SameW k8 l l2 := Mt.twin_same hl2 hor
    have g2 : ∀ e ∈ l2, Km.pl k8 e.2 = e.2 ∧ e.2.length ≤ 120 := fun e he => by
      obtain ⟨i, hi⟩ := List.mem_iff_getElem?.mp he
      have hil : i < l.length := by have := (List.getElem?_eq_some_iff.mp hi).1; omega
      rcases hor i _ (List.getElem?_eq_getElem hil) with h | ⟨h, _⟩
      · rw [hi] at h
        cases h
        exact ⟨(gl _ (List.getElem_mem hil)).1, (gl _ (List.getElem_mem hil)).2.1⟩
      · rw [hi] at h
        cases h
        exact ⟨(Mt.wh_nrm _ _).pl, lw _⟩
    -- begin
    refine ⟨_, rfl, S, c, 10, rfl, hS5, by decide, fun r6 H6 a6 b6 _ hS6 e6 => ⟨_, _, rfl, rfl, ?_⟩⟩
    have hG6 := hG5.ext e6
    refine ⟨_, rfl, _, rfl, _, rfl, S, c, G, gs, rfl, hS6, hG6, fun v7 bs H7 e7 hS7 hv7 l7 i7 => ?_⟩
    obtain ⟨t7, rfl, ht7⟩ := w_inv hv7
    have lbs : (Km.pl k8 bs).length ≤ 8 := Nat.le_trans (Km.pl_len k8 bs) (by omega)
    refine ⟨k8, t7, bs, rfl, ht7, by omega, fun w8 H8 s8 hw8 => ⟨two, fun B nB => ?_⟩⟩
    have sB := same_new (o := .tup [.bl (decide ((4 : Int) < r6)), w8]) nB
    have hB : Ef K (upd H8 B (.tup [.bl (decide ((4 : Int) < r6)), w8])) (.ref B) (decide ((4 : Int) < r6), Km.pl k8 bs) := by
      obtain ⟨t8, rfl, ht8⟩ := w_inv hw8
      exact e_mk (.inl (.inl upd_same)) (dp_same sB (w_mk ht8))
    have hS9 := stm_same (stm_same hS7 s8) sB
    have e59 := (e6.trans e7).trans (.of (s8.trans sB))
    have hp9 := hp5.ext hS5 e59
    have hq9 := hq5.ext hS5 e59
    have hG9 := hG5.ext e59
    generalize upd H8 B (.tup [.bl (decide ((4 : Int) < r6)), w8]) = H9 at *
    clear hw8 ht7 hv7
    obtain ⟨be, hbe⟩ : ∃ be : Mt.Ev, be = (decide ((4 : Int) < r6), Km.pl k8 bs) := ⟨_, rfl⟩
    rw [← hbe] at hB
    have pb : Km.pl k8 be.2 = be.2 := by rw [hbe]; exact Km.pl_idem k8 bs
    have lb : be.2.length ≤ 8 := by rw [hbe]; exact lbs
    -- state
    refine ⟨_, rfl, _, rfl, _, rfl, S, c, G, gs, rfl, hS9, hG9, fun v10 ms0 H10 e10 hS10 hv10 l10 i10 => ?_⟩
    obtain ⟨t10, rfl, ht10⟩ := w_inv hv10
    have lms : (Km.pl k8 ms0).length ≤ 8 := Nat.le_trans (Km.pl_len k8 ms0) (by omega)
    refine ⟨k8, t10, ms0, rfl, ht10, by omega, fun v11 H11 s11 hv11 => ?_⟩
    have pms := Km.pl_idem k8 ms0
    have e911 := e10.trans (.of s11)
    have hS11 := stm_same hS10 s11
    have hp11 := hp9.ext hS9 e911
    have hq11 := hq9.ext hS9 e911
    have hB11 := e_ext hS9 e911 hB
    clear hv10 ht10
    generalize Km.pl k8 ms0 = ms at *
    -- narrow
    refine ⟨_, rfl, _, rfl, S, c, k8, rfl, hS11, fun k1 H12 e12 hS12 hu => ?_⟩
    have hp12 := hp11.ext hS11 e12
    have hq12 := hq11.ext hS11 e12
    have hB12 := e_ext hS11 e12 hB11
    have hv12 := w_ext hS11 e12 hv11
    -- due
    refine ⟨_, rfl, _, rfl, k8, p, xs, l, rfl, hp12.sq, hp12.dat, fun e he => ⟨(gl e he).2.1, (gl e he).1⟩, lw, by omega, fun R ys H13 s13 nR hR13 hy13 => ?_⟩
    have hp13 := hp12.same s13
    have hq13 := hq12.same s13
    have lr : (Mt.runs k8 l).length = l.length := Mt.runs_len k8 l
    have l22 : l2.length = l.length := hW.1
    -- along, later, states
    refine ⟨_, rfl, _, rfl, _, rfl, k8, p, q, xs, zs, l, l2, gs, rfl, hp13.sq, hq13.sq, hp13.dat, hq13.dat, lg, rg, hR, hW, g2, fun H14 s14 => ⟨_, rfl, ifF rfl ?_⟩⟩
    have hR14 := s14 _ _ hR13
    have hy14 := dpa_same s14 hy13
    refine ⟨_, rfl, _, rfl, k8, R, ys, l, rfl, SqL.of hR14, hy14, by omega, fun i => ⟨lw i, fun z => tw z i⟩, fun H15 s15 => ⟨_, rfl, ifF rfl ?_⟩⟩
    have s1315 := s14.trans s15
    have hp15 := hp13.same s1315
    refine ⟨_, rfl, _, rfl, _, rfl, _, rfl, k8, p, R, v11, xs, ys, l, ms, rfl, hp15.sq, SqL.of (s1315 _ _ hR13), hp15.dat, dpa_same s1315 hy13, dp_same (s13.trans s1315) hv12, pms, lms, by omega, fun e he => ⟨(gl e he).2.1, (gl e he).1⟩, lw, fun H16 s16 => ⟨_, rfl, ifF rfl ?_⟩⟩
    have s1316 := s1315.trans s16
    have hp16 := hp13.same s1316
    have hB16 := dp_same (s13.trans s1316) hB12
    have hR16 := s1316 _ _ hR13
    have hy16 := dpa_same s1316 hy13
    have hS16 := stm_same (stm_same hS12 s13) s1316
    have gx : ∀ e ∈ be :: l, e.2.length ≤ 120 ∧ Km.pl k8 e.2 = e.2 ∧ (k8 = .tails → e.2.length ≤ 31) := fun e he => by
      rcases List.mem_cons.mp he with rfl | he
      · exact ⟨by omega, pb, fun _ => by omega⟩
      · have := (hR.2 e he).2.1
        exact ⟨by omega, pl e he, fun _ => by omega⟩
    have lst : ∀ e, some e ∈ Mt.sts k8 be l → e.2.length ≤ 900 := fun e he => by
      obtain ⟨i, hi⟩ := List.mem_iff_getElem?.mp he
      have hl : i < l.length := by have := (List.getElem?_eq_some_iff.mp hi).1; rwa [Mt.sts_len] at this
      have hl2 : i < (be :: l).length := by rw [List.length_cons]; omega
      rw [Mt.sts_get (List.getElem?_eq_getElem hl2) (List.getElem?_eq_getElem hl)] at hi
      have hs := Option.some.inj hi
      have sb := (stp_sub (Nrm.of k8 _) (Nrm.of k8 _) hs).length_le
      have g := gl _ (List.getElem_mem hl)
      have e2 : (nrm k8 l[i]).2 = l[i].2 := g.1
      rw [e2] at sb
      omega
    -- both handed
    refine ⟨_, rfl, _, rfl, p, _, rfl, .inl ⟨hp16.sq, fun u nu => ⟨two, fun T7 nT7 => ?_⟩⟩⟩
    have su := same_new (o := .tup xs) nu
    have qu : SqT K (upd H16 u (.tup xs)) u xs := .inl (.inl upd_same)
    have sT := same_new (o := .tup [.ref p, .ref u]) nT7
    have qT : SqT K (upd (upd H16 u (.tup xs)) T7 (.tup [.ref p, .ref u])) T7 [.ref p, .ref u] := .inl (.inl upd_same)
    have qu2 := seqT_same sT qu
    have s17 := su.trans sT
    have hp17 := hp16.same s17
    have hB17 := dp_same s17 hB16
    have hR17 := s17 _ _ hR16
    have hy17 := dpa_same s17 hy16
    have hS17 := stm_same hS16 s17
    generalize upd (upd H16 u (.tup xs)) T7 (.tup [.ref p, .ref u]) = H17 at *
    refine ⟨T7, rfl, ⟨_, qT⟩, for_tup (K := K) (a := T7) (xs := [.ref p, .ref u]) (fun i σ' H' => ∃ o1, σ' = [some (.ref a), some (.ref S), some (.str (nm k8)), some (.ref G), some (.ref p), some (.ref q), some (.ref B), some v11, some (.str (nm k1)), some (.ref R), o1, none, none] ∧ Same H17 H') ⟨none, rfl, .refl _⟩ (fun i σ' H' _ ⟨_, _, s⟩ => seqT_same s qT) ?_ ?_⟩
    · rintro i v σ' H' hi ⟨o1, rfl, s⟩
      obtain ⟨P2, rfl, hP2⟩ : ∃ P2, v = .ref P2 ∧ Sq K H' P2 xs := by
        match i, hi with
        | 0, hi => cases hi; exact ⟨p, rfl, .inl (hp17.same s).sq⟩
        | 1, hi => cases hi; exact ⟨u, rfl, .inr (seqT_same s qu2)⟩
      refine ⟨_, rfl, _, rfl, _, rfl, rfl, rfl, k8, P2, .ref B, xs, effs l, rfl, hP2, (hp17.same s).dat, few_g gl, fun _ => ⟨l, be, rfl, dp_same s hB17, gx, by omega, fun W ws J1 j1 nW hW1 d1 => ?_⟩, no_bad gl⟩
      have sj := s.trans j1
      refine ⟨_, rfl, _, rfl, _, rfl, k8, .ref B, p, xs, l, be, rfl, (hp17.same sj).sq, (hp17.same sj).dat, dp_same sj hB17, fun e he => ⟨(gx e he).1, (gx e he).2.1⟩, by omega, fun W2 ws2 J2 j2 nW2 hW2 d2 => ?_⟩
      exact ⟨W, W2, ws, ws2, Mt.sts k8 be l, rfl, SqL.of (j2 _ _ hW1), SqL.of hW2, dpa_same j2 d1, d2, by rw [Mt.sts_len]; omega, lst, fun J3 j3 => ⟨_, rfl, ifF rfl ⟨_, rfl, (sj.trans j2).trans j3⟩⟩⟩
    rintro σ' H18 ⟨o1, rfl, s18⟩
    have hp18 := hp17.same s18
    have hR18 := s18 _ _ hR17
    have hy18 := dpa_same s18 hy17
    have hS18 := stm_same hS17 s18
    -- narrowed
    refine ⟨_, rfl, p, rfl, ⟨_, hp18.sq⟩, fun D nD => ?_⟩
    refine lc_list (K := K) (a := p) (xs := xs) (fun i H' => Same H18 H' ∧ ∃ ys, H' D = some (.lst ys) ∧ DpAll K H' ys (effs ((l.take i).map (nrm k1)))) ⟨same_new nD, [], upd_same, .nil⟩ (fun i H' _ hp => hp.1.seq hp18.sq) ?_ ?_
    · rintro i x H' hi ⟨s, ys2, hD, hy⟩
      obtain ⟨e, he, hE⟩ := Mt.get_eff (dpa_same s hp18.dat) hi
      have le := gl e (List.mem_of_getElem? he)
      have ly : ys2.length ≤ l.length := by
        have := dpa_len hy
        rw [Mt.effs_len, List.length_map, List.length_take] at this
        omega
      refine ⟨rfl, ?_⟩
      refine ⟨_, rfl, _, rfl, k1, x, e, rfl, hE, by omega, fun v2 J2 s2 hv2 => ?_⟩
      obtain ⟨f1, f2, f3⟩ := Mt.fillE nD s hD hy s2 hv2
      refine ⟨_, s2 _ _ hD, small1000 (by omega), f1, _, f2, ?_⟩
      rw [Mt.take1 he, List.map_append]
      exact f3
    rintro H19 ⟨s19, ys2, hD, hy⟩
    rw [hp18.len, List.take_length] at hy
    have hp19 := hp18.same s19
    have gm : ∀ e ∈ l.map (nrm k1), Km.pl k1 e.2 = e.2 ∧ e.2.length ≤ 120 ∧ ∀ z ∈ e.2, 0 ≤ z ∧ z ≤ 999999999 := fun e he => by
      obtain ⟨x, hx, rfl⟩ := List.mem_map.mp he
      have h1 : (nrm k1 x).2.length ≤ x.2.length + 1 := Km.pl_len k1 _
      have h2 := (hR.2 x hx).2.1
      exact ⟨nrm_pl k1 x, by omega, fun z hz => (gl x hx).2.2 z (Km.mem_pl hz)⟩
    have lwm : ∀ i, (Mt.wh k1 ((l.map (nrm k1)).take i)).2.length ≤ 120 := fun i => by
      have h1 := Mt.wh_len (k := k1) (l := (l.map (nrm k1)).take i) (n := 9) fun e he => by
        obtain ⟨x, hx, rfl⟩ := List.mem_map.mp (List.mem_of_mem_take he)
        have h1 : (nrm k1 x).2.length ≤ x.2.length + 1 := Km.pl_len k1 _
        have h2 := (hR.2 x hx).2.1
        omega
      have h2 : ((l.map (nrm k1)).take i).length ≤ 8 := by rw [List.length_take, List.length_map]; omega
      have h3 : ((l.map (nrm k1)).take i).length * (9 + 1) ≤ 8 * 10 := Nat.mul_le_mul_right _ h2
      omega
    refine ⟨_, rfl, _, rfl, _, rfl, _, rfl, k1, k8, p, xs, l, rfl, hp19.sq, hp19.dat, fun e he => (gl e he).2.1, hu, by omega, fun r20 y20 H20 s20 n20 h20 d20 => ?_⟩
    refine ⟨_, _, .lst (SqL.of (s20 _ _ hD)) (dpa_same s20 hy), .lst (SqL.of h20) d20, Mt.shaped_effs _, Mt.shaped_effs _, _, rfl, ?_⟩
    refine ifF (by rw [eqv_self (Mt.shaped_effs _)] <;> rfl) ?_
    have s1820 := s19.trans s20
    refine ⟨_, rfl, _, rfl, ⟨k1, D, _, effs (l.map (nrm k1)), rfl, .inl (SqL.of (s20 _ _ hD)), dpa_same s20 hy, few_g gm, fun _ => ⟨l.map (nrm k1), rfl, fun e he => (gm e he).2.1, lwm, by rw [List.length_map]; omega, fun r21 y21 H21 s21 n21 h21 d21 => ?_⟩, no_bad gm⟩⟩
    rw [runs_narrow hu] at d21
    have s1821 := s1820.trans s21
    refine ⟨_, rfl, _, rfl, _, rfl, k1, k8, R, ys, Mt.runs k8 l, rfl, SqL.of (s1821 _ _ hR18), dpa_same s1821 hy18, fun e he => ?_, hu, by omega, fun r22 y22 H22 s22 n22 h22 d22 => ?_⟩
    · obtain ⟨i, hi⟩ := List.mem_iff_getElem?.mp he
      obtain ⟨_, _, rfl⟩ := Mt.runs_at hi
      exact lw _
    refine ⟨_, _, _, _, ((Mt.runs k8 l).map (nrm k1)).map some, rfl, SqL.of (s22 _ _ h21), SqL.of h22, sm_row (dpa_same s22 d21), sm_row d22, sm_len (by rw [List.length_map]; omega), ?_, fun H23 s23 => ⟨_, rfl, ifF rfl ?_⟩⟩
    · intro e he
      obtain ⟨f, hf, z⟩ := List.mem_map.mp he
      cases z
      obtain ⟨x, hx, rfl⟩ := List.mem_map.mp hf
      obtain ⟨i, hi⟩ := List.mem_iff_getElem?.mp hx
      obtain ⟨_, _, rfl⟩ := Mt.runs_at hi
      have h1 : ∀ x : Mt.Ev, (nrm k1 x).2.length ≤ x.2.length + 1 := fun x => Km.pl_len k1 _
      have h2 := lw (i + 1)
      have h3 := h1 (Mt.wh k8 (l.take (i + 1)))
      omega
    have s1823 := (s1821.trans s22).trans s23
    exact ⟨_, rfl, _, rfl, _, rfl, S, c, k8, p, xs, l, rfl, stm_same hS18 s1823, hp18.same s1823, ll, gl, fun H => k H⟩
end
end Kx

set_option Elab.async false
set_option linter.all false
set_option maxRecDepth 100000
set_option maxHeartbeats 4000000
namespace Kx
open PySem PySem.Spec PyProof.Rows L2 Lk
/-! ### the head: what the top has left, told by names -/
def fnD0 : List He.DefD := [⟨("shown", none), "shown", "shown", defArgs s_shown, defBody s_shown, defScope s_shown, [], []⟩,
  ⟨("different", none), "different", "different", defArgs s_different, defBody s_different, defScope s_different, [], []⟩,
  ⟨("Kind", some "rest_between"), "rest_between", "Kind.rest_between", defArgs s_Kind__rest_between, defBody s_Kind__rest_between, defScope s_Kind__rest_between, [], []⟩,
  ⟨("HeadsKind", some "rest_between"), "rest_between", "Kind.rest_between", defArgs s_HeadsKind__rest_between, defBody s_HeadsKind__rest_between, defScope s_HeadsKind__rest_between, [], []⟩,
  ⟨("FirstKind", some "rest_between"), "rest_between", "Kind.rest_between", defArgs s_FirstKind__rest_between, defBody s_FirstKind__rest_between, defScope s_FirstKind__rest_between, [], []⟩,
  ⟨("BagKind", some "rest_between"), "rest_between", "BagKind.rest_between", defArgs s_BagKind__rest_between, defBody s_BagKind__rest_between, defScope s_BagKind__rest_between, [], []⟩,
  ⟨("SetKind", some "rest_between"), "rest_between", "BagKind.rest_between", defArgs s_SetKind__rest_between, defBody s_SetKind__rest_between, defScope s_SetKind__rest_between, [], []⟩,
  ⟨("TailsKind", some "rest_between"), "rest_between", "TailsKind.rest_between", defArgs s_TailsKind__rest_between, defBody s_TailsKind__rest_between, defScope s_TailsKind__rest_between, [], []⟩,
  ⟨("LastKind", some "rest_between"), "rest_between", "LastKind.rest_between", defArgs s_LastKind__rest_between, defBody s_LastKind__rest_between, defScope s_LastKind__rest_between, [], []⟩,
  ⟨("EndsKind", some "rest_between"), "rest_between", "EndsKind.rest_between", defArgs s_EndsKind__rest_between, defBody s_EndsKind__rest_between, defScope s_EndsKind__rest_between, [], []⟩,
  ⟨("is_letter", none), "is_letter", "is_letter", defArgs s_is_letter, defBody s_is_letter, defScope s_is_letter, [], []⟩,
  ⟨("check_kind", none), "check_kind", "check_kind", defArgs s_check_kind, defBody s_check_kind, defScope s_check_kind, [], []⟩,
  ⟨("row_letters", none), "row_letters", "row_letters", defArgs s_row_letters, defBody s_row_letters, defScope s_row_letters, [], []⟩,
  ⟨("row_count", none), "row_count", "row_count", defArgs s_row_count, defBody s_row_count, defScope s_row_count, [], []⟩,
  ⟨("_law_stream", none), "_law_stream", "_law_stream", defArgs s__law_stream, defBody s__law_stream, defScope s__law_stream, [], []⟩,
  ⟨("_law_mixed", none), "_law_mixed", "_law_mixed", defArgs s__law_mixed, defBody s__law_mixed, defScope s__law_mixed, [], []⟩,
  ⟨("_law_plain", none), "_law_plain", "_law_plain", defArgs s__law_plain, defBody s__law_plain, defScope s__law_plain, [], []⟩,
  ⟨("_law_normal", none), "_law_normal", "_law_normal", defArgs s__law_normal, defBody s__law_normal, defScope s__law_normal, [], []⟩,
  ⟨("_law_is_number", none), "_law_is_number", "_law_is_number", defArgs s__law_is_number, defBody s__law_is_number, defScope s__law_is_number, [], []⟩,
  ⟨("_law_sums", none), "_law_sums", "_law_sums", defArgs s__law_sums, defBody s__law_sums, defScope s__law_sums, [], []⟩,
  ⟨("Kind", some "plain"), "plain", "Kind.plain", defArgs s_Kind__plain, defBody s_Kind__plain, defScope s_Kind__plain, [], []⟩,
  ⟨("BagKind", some "plain"), "plain", "BagKind.plain", defArgs s_BagKind__plain, defBody s_BagKind__plain, defScope s_BagKind__plain, [], []⟩,
  ⟨("SetKind", some "plain"), "plain", "SetKind.plain", defArgs s_SetKind__plain, defBody s_SetKind__plain, defScope s_SetKind__plain, [], []⟩,
  ⟨("HeadsKind", some "plain"), "plain", "HeadsKind.plain", defArgs s_HeadsKind__plain, defBody s_HeadsKind__plain, defScope s_HeadsKind__plain, [], []⟩,
  ⟨("FirstKind", some "plain"), "plain", "FirstKind.plain", defArgs s_FirstKind__plain, defBody s_FirstKind__plain, defScope s_FirstKind__plain, [], []⟩,
  ⟨("TailsKind", some "plain"), "plain", "TailsKind.plain", defArgs s_TailsKind__plain, defBody s_TailsKind__plain, defScope s_TailsKind__plain, [], []⟩,
  ⟨("LastKind", some "plain"), "plain", "LastKind.plain", defArgs s_LastKind__plain, defBody s_LastKind__plain, defScope s_LastKind__plain, [], []⟩,
  ⟨("EndsKind", some "plain"), "plain", "EndsKind.plain", defArgs s_EndsKind__plain, defBody s_EndsKind__plain, defScope s_EndsKind__plain, [], []⟩,
  ⟨("kind_named", none), "kind_named", "kind_named", defArgs s_kind_named, defBody s_kind_named, defScope s_kind_named, [], []⟩,
  ⟨("is_word", none), "is_word", "is_word", defArgs s_is_word, defBody s_is_word, defScope s_is_word, [], []⟩]
def fnD1 : List He.DefD := [⟨("normal", none), "normal", "normal", defArgs s_normal, defBody s_normal, defScope s_normal, [], []⟩,
  ⟨("_law_draw", none), "_law_draw", "_law_draw", defArgs s__law_draw, defBody s__law_draw, defScope s__law_draw, [], []⟩,
  ⟨("_law_joined", none), "_law_joined", "_law_joined", defArgs s__law_joined, defBody s__law_joined, defScope s__law_joined, [], []⟩,
  ⟨("_law_is_word", none), "_law_is_word", "_law_is_word", defArgs s__law_is_word, defBody s__law_is_word, defScope s__law_is_word, [], []⟩,
  ⟨("_law_narrowed_row", none), "_law_narrowed_row", "_law_narrowed_row", defArgs s__law_narrowed_row, defBody s__law_narrowed_row, defScope s__law_narrowed_row, [], []⟩,
  ⟨("is_plain", none), "is_plain", "is_plain", defArgs s_is_plain, defBody s_is_plain, defScope s_is_plain, [], []⟩,
  ⟨("rest", none), "rest", "rest", defArgs s_rest, defBody s_rest, defScope s_rest, [], []⟩,
  ⟨("then", none), "then", "then", defArgs s_then, defBody s_then, defScope s_then, [], []⟩,
  ⟨("effect_on", none), "effect_on", "effect_on", defArgs s_effect_on, defBody s_effect_on, defScope s_effect_on, [], []⟩,
  ⟨("narrowed_effect", none), "narrowed_effect", "narrowed_effect", defArgs s_narrowed_effect, defBody s_narrowed_effect, defScope s_narrowed_effect, [], []⟩,
  ⟨("_law_pick", none), "_law_pick", "_law_pick", defArgs s__law_pick, defBody s__law_pick, defScope s__law_pick, [], []⟩,
  ⟨("_law_then", none), "_law_then", "_law_then", defArgs s__law_then, defBody s__law_then, defScope s__law_then, [], []⟩,
  ⟨("_law_on", none), "_law_on", "_law_on", defArgs s__law_on, defBody s__law_on, defScope s__law_on, [], []⟩,
  ⟨("_law_is_effect", none), "_law_is_effect", "_law_is_effect", defArgs s__law_is_effect, defBody s__law_is_effect, defScope s__law_is_effect, [], []⟩,
  ⟨("_law_rest", none), "_law_rest", "_law_rest", defArgs s__law_rest, defBody s__law_rest, defScope s__law_rest, [], []⟩,
  ⟨("is_effect", none), "is_effect", "is_effect", defArgs s_is_effect, defBody s_is_effect, defScope s_is_effect, [], []⟩,
  ⟨("step", none), "step", "step", defArgs s_step, defBody s_step, defScope s_step, [], []⟩,
  ⟨("_law_kind", none), "_law_kind", "_law_kind", defArgs s__law_kind, defBody s__law_kind, defScope s__law_kind, [], []⟩,
  ⟨("_law_letters", none), "_law_letters", "_law_letters", defArgs s__law_letters, defBody s__law_letters, defScope s__law_letters, [], []⟩,
  ⟨("_law_raw", none), "_law_raw", "_law_raw", defArgs s__law_raw, defBody s__law_raw, defScope s__law_raw, [], []⟩,
  ⟨("_law_step", none), "_law_step", "_law_step", defArgs s__law_step, defBody s__law_step, defScope s__law_step, [], []⟩,
  ⟨("_law_running", none), "_law_running", "_law_running", defArgs s__law_running, defBody s__law_running, defScope s__law_running, [], []⟩,
  ⟨("_law_same_row", none), "_law_same_row", "_law_same_row", defArgs s__law_same_row, defBody s__law_same_row, defScope s__law_same_row, [], []⟩,
  ⟨("_law_states", none), "_law_states", "_law_states", defArgs s__law_states, defBody s__law_states, defScope s__law_states, [], []⟩,
  ⟨("_law_lower_kind", none), "_law_lower_kind", "_law_lower_kind", defArgs s__law_lower_kind, defBody s__law_lower_kind, defScope s__law_lower_kind, [], []⟩,
  ⟨("under", none), "under", "under", defArgs s_under, defBody s_under, defScope s_under, [], []⟩,
  ⟨("check_effects", none), "check_effects", "check_effects", defArgs s_check_effects, defBody s_check_effects, defScope s_check_effects, [], []⟩,
  ⟨("swallowed", none), "swallowed", "swallowed", defArgs s_swallowed, defBody s_swallowed, defScope s_swallowed, [], []⟩,
  ⟨("twice_at_once", none), "twice_at_once", "twice_at_once", defArgs s_twice_at_once, defBody s_twice_at_once, defScope s_twice_at_once, [], []⟩,
  ⟨("twice_later", none), "twice_later", "twice_later", defArgs s_twice_later, defBody s_twice_later, defScope s_twice_later, [], []⟩]
def fnD2 : List He.DefD := [⟨("twice_earlier", none), "twice_earlier", "twice_earlier", defArgs s_twice_earlier, defBody s_twice_earlier, defScope s_twice_earlier, [], []⟩,
  ⟨("_law_near", none), "_law_near", "_law_near", defArgs s__law_near, defBody s__law_near, defScope s__law_near, [], []⟩,
  ⟨("_law_twin_row", none), "_law_twin_row", "_law_twin_row", defArgs s__law_twin_row, defBody s__law_twin_row, defScope s__law_twin_row, [], []⟩,
  ⟨("_law_steps", none), "_law_steps", "_law_steps", defArgs s__law_steps, defBody s__law_steps, defScope s__law_steps, [], []⟩,
  ⟨("_law_later", none), "_law_later", "_law_later", defArgs s__law_later, defBody s__law_later, defScope s__law_later, [], []⟩,
  ⟨("plain_word", none), "plain_word", "plain_word", defArgs s_plain_word, defBody s_plain_word, defScope s_plain_word, [], []⟩,
  ⟨("joined", none), "joined", "joined", defArgs s_joined, defBody s_joined, defScope s_joined, [], []⟩,
  ⟨("fresh_word", none), "fresh_word", "fresh_word", defArgs s_fresh_word, defBody s_fresh_word, defScope s_fresh_word, [], []⟩,
  ⟨("parted_words", none), "parted_words", "parted_words", defArgs s_parted_words, defBody s_parted_words, defScope s_parted_words, [], []⟩,
  ⟨("parting_state", none), "parting_state", "parting_state", defArgs s_parting_state, defBody s_parting_state, defScope s_parting_state, [], []⟩,
  ⟨("running", none), "running", "running", defArgs s_running, defBody s_running, defScope s_running, [], []⟩,
  ⟨("steps_between", none), "steps_between", "steps_between", defArgs s_steps_between, defBody s_steps_between, defScope s_steps_between, [], [("start", .glo "IDLE")]⟩,
  ⟨("parting_word", none), "parting_word", "parting_word", defArgs s_parting_word, defBody s_parting_word, defScope s_parting_word, [], []⟩,
  ⟨("_law_row", none), "_law_row", "_law_row", defArgs s__law_row, defBody s__law_row, defScope s__law_row, [], []⟩,
  ⟨("change_places", none), "change_places", "change_places", defArgs s_change_places, defBody s_change_places, defScope s_change_places, [], []⟩,
  ⟨("parting_swap", none), "parting_swap", "parting_swap", defArgs s_parting_swap, defBody s_parting_swap, defScope s_parting_swap, [], []⟩,
  ⟨("_law_along", none), "_law_along", "_law_along", defArgs s__law_along, defBody s__law_along, defScope s__law_along, [], []⟩,
  ⟨("_law_refused_row", none), "_law_refused_row", "_law_refused_row", defArgs s__law_refused_row, defBody s__law_refused_row, defScope s__law_refused_row, [], []⟩,
  ⟨("_law_word_door", none), "_law_word_door", "_law_word_door", defArgs s__law_word_door, defBody s__law_word_door, defScope s__law_word_door, [], []⟩,
  ⟨("_law_effect_door", none), "_law_effect_door", "_law_effect_door", defArgs s__law_effect_door, defBody s__law_effect_door, defScope s__law_effect_door, [], []⟩,
  ⟨("_law_refused_kind", none), "_law_refused_kind", "_law_refused_kind", defArgs s__law_refused_kind, defBody s__law_refused_kind, defScope s__law_refused_kind, [], []⟩,
  ⟨("_law_refusals", none), "_law_refusals", "_law_refusals", defArgs s__law_refusals, defBody s__law_refusals, defScope s__law_refusals, [], []⟩,
  ⟨("law", none), "law", "law", defArgs s_law, defBody s_law, defScope s_law, [], []⟩]
def fnD : List He.DefD := fnD0 ++ fnD1 ++ fnD2
def faD0 : List He.Fa := [.glo "shown",
  .glo "different",
  .glo "is_letter",
  .glo "check_kind",
  .glo "row_letters",
  .glo "row_count",
  .glo "_law_stream",
  .glo "_law_mixed",
  .glo "_law_plain",
  .glo "_law_normal",
  .glo "_law_is_number",
  .glo "_law_sums",
  .glo "kind_named",
  .glo "is_word",
  .glo "normal",
  .glo "_law_draw",
  .glo "_law_joined",
  .glo "_law_is_word",
  .glo "_law_narrowed_row",
  .glo "is_plain",
  .glo "rest",
  .glo "then",
  .glo "effect_on",
  .glo "narrowed_effect",
  .glo "_law_pick",
  .glo "_law_then",
  .glo "_law_on",
  .glo "_law_is_effect",
  .glo "_law_rest",
  .glo "is_effect"]
def faD1 : List He.Fa := [.glo "step",
  .glo "_law_kind",
  .glo "_law_letters",
  .glo "_law_raw",
  .glo "_law_step",
  .glo "_law_running",
  .glo "_law_same_row",
  .glo "_law_states",
  .glo "_law_lower_kind",
  .glo "under",
  .glo "check_effects",
  .glo "swallowed",
  .glo "twice_at_once",
  .glo "twice_later",
  .glo "twice_earlier",
  .glo "_law_near",
  .glo "_law_twin_row",
  .glo "_law_steps",
  .glo "_law_later",
  .glo "plain_word",
  .glo "joined",
  .glo "fresh_word",
  .glo "parted_words",
  .glo "parting_state",
  .glo "running",
  .glo "steps_between",
  .glo "parting_word",
  .glo "_law_row",
  .glo "change_places",
  .glo "parting_swap"]
def faD2 : List He.Fa := [.glo "_law_along",
  .glo "_law_refused_row",
  .glo "_law_word_door",
  .glo "_law_effect_door",
  .glo "_law_refused_kind",
  .glo "_law_refusals",
  .glo "law",
  .glo "StoreError",
  .glo "NameFault",
  .glo "PlaceFault",
  .glo "BadKind",
  .glo "BadName",
  .glo "BadWord",
  .glo "BadEffect",
  .glo "BadStretch",
  .glo "BadField",
  .glo "BadBatch",
  .glo "Kind",
  .glo "BagKind",
  .glo "SetKind",
  .glo "HeadsKind",
  .glo "FirstKind",
  .glo "TailsKind",
  .glo "LastKind",
  .glo "EndsKind",
  .glo "KIND_NAMES",
  .glo "IDLE",
  .cls "Kind",
  .cls "BagKind",
  .cls "SetKind"]
def faD3 : List He.Fa := [.cls "HeadsKind",
  .cls "FirstKind",
  .cls "TailsKind",
  .cls "LastKind",
  .cls "EndsKind",
  .meth "Kind" "rest_between",
  .meth "HeadsKind" "rest_between",
  .meth "FirstKind" "rest_between",
  .meth "BagKind" "rest_between",
  .meth "SetKind" "rest_between",
  .meth "TailsKind" "rest_between",
  .meth "LastKind" "rest_between",
  .meth "EndsKind" "rest_between",
  .meth "Kind" "plain",
  .meth "BagKind" "plain",
  .meth "SetKind" "plain",
  .meth "HeadsKind" "plain",
  .meth "FirstKind" "plain",
  .meth "TailsKind" "plain",
  .meth "LastKind" "plain",
  .meth "EndsKind" "plain",
  .free "abs",
  .free "all",
  .free "bool",
  .free "enumerate",
  .free "int",
  .free "isinstance",
  .free "len",
  .free "list",
  .free "max"]
def faD4 : List He.Fa := [.free "range",
  .free "repr",
  .free "set",
  .free "sorted",
  .free "str",
  .free "sum",
  .free "super",
  .free "tuple",
  .int "GREATEST_LETTER" 999999999]
def faD : List He.Fa := faD0 ++ faD1 ++ faD2 ++ faD3 ++ faD4
def iniD : List Hk.IniD := [⟨"NameFault", "NameFault.__init__", defArgs si_NameFault, defBody si_NameFault, defScope si_NameFault⟩,
  ⟨"PlaceFault", "PlaceFault.__init__", defArgs si_PlaceFault, defBody si_PlaceFault, defScope si_PlaceFault⟩]
def ceD0 : List Hk.Ce := [.sup "BadEffect" "PlaceFault" "place",
  .ini "BadEffect" "PlaceFault",
  .exd "BadEffect",
  .xf "BadEffect",
  .exm "BadEffect",
  .sup "BadKind" "NameFault" "name",
  .ini "BadKind" "NameFault",
  .exd "BadKind",
  .xf "BadKind",
  .exm "BadKind",
  .bare "Kind",
  .bare "BagKind",
  .bare "SetKind",
  .bare "HeadsKind",
  .bare "FirstKind",
  .bare "TailsKind",
  .bare "LastKind",
  .bare "EndsKind",
  .tup "KIND_NAMES" [.str "list", .str "bag", .str "set", .str "first", .str "last", .str "ends", .str "heads", .str "tails"],
  .eff "IDLE" false,
  .kit "BadEffect" "StoreError" true,
  .kit "BadEffect" "NameFault" false,
  .kit "BadEffect" "PlaceFault" true,
  .kit "BadEffect" "BadKind" false,
  .kit "BadEffect" "BadName" false,
  .kit "BadEffect" "BadWord" false,
  .kit "BadEffect" "BadStretch" false,
  .kit "BadEffect" "BadField" false,
  .kit "BadEffect" "BadBatch" false,
  .kit "BadKind" "StoreError" true]
def ceD1 : List Hk.Ce := [.kit "BadKind" "NameFault" true,
  .kit "BadKind" "PlaceFault" false,
  .kit "BadKind" "BadName" false,
  .kit "BadKind" "BadWord" false,
  .kit "BadKind" "BadEffect" false,
  .kit "BadKind" "BadStretch" false,
  .kit "BadKind" "BadField" false,
  .kit "BadKind" "BadBatch" false]
def ceD : List Hk.Ce := ceD0 ++ ceD1
def looseN0 : List Str := ["shown",
  "different",
  "is_row",
  "is_letter",
  "check_kind",
  "kind_named",
  "is_word",
  "is_plain",
  "check_word",
  "plain_word",
  "joined",
  "rest",
  "fresh_word",
  "under",
  "parted_words",
  "is_effect",
  "normal",
  "then",
  "effect_on",
  "parting_state",
  "narrowed_effect",
  "step",
  "check_effects",
  "running",
  "steps_between",
  "row_letters",
  "row_count",
  "change_places",
  "parting_swap",
  "swallowed"]
def looseN1 : List Str := ["parting_word",
  "twice_at_once",
  "twice_later",
  "twice_earlier",
  "_law_stream",
  "_law_mixed",
  "_law_draw",
  "_law_pick",
  "_law_kind",
  "_law_letters",
  "_law_raw",
  "_law_near",
  "_law_plain",
  "_law_joined",
  "_law_normal",
  "_law_then",
  "_law_on",
  "_law_is_number",
  "_law_is_word",
  "_law_is_effect",
  "_law_rest",
  "_law_step",
  "_law_row",
  "_law_running",
  "_law_twin_row",
  "_law_steps",
  "_law_same_row",
  "_law_sums",
  "_law_along",
  "_law_later"]
def looseN2 : List Str := ["_law_states",
  "_law_lower_kind",
  "_law_narrowed_row",
  "_law_refused_row",
  "_law_word_door",
  "_law_effect_door",
  "_law_refused_kind",
  "_law_refusals",
  "StoreError",
  "NameFault",
  "PlaceFault",
  "BadKind",
  "BadName",
  "BadWord",
  "BadEffect",
  "BadStretch",
  "BadField",
  "BadBatch",
  "Kind",
  "BagKind",
  "SetKind",
  "HeadsKind",
  "FirstKind",
  "TailsKind",
  "LastKind",
  "EndsKind",
  "KIND_NAMES",
  "IDEMPOTENT",
  "ABOVE",
  "PARTING_PAIRS"]
def looseN3 : List Str := ["GREATEST_LETTER",
  "IDLE"]
def looseN : List Str := looseN0 ++ looseN1 ++ looseN2 ++ looseN3
abbrev R : PySem.W.OpenRow := PySem.W.OpenLaw.row PySem.Challenge.rw_leastshelf_k08_whole_rows_of_effects
abbrev hk : PySem.W.Hook := Hq.hookK 5 faD fnD "/claim/cut.py" iniD ceD
def ob (s : PySem.W.SharedT) : Hk.AlK := Hq.obsKG 5 faD fnD "/claim/cut.py" iniD ceD (HandSHeadRun.getT s)
theorem ob_eq (s : PySem.W.SharedT) : ob s = hk.obs s.abs := Hq.obsKG_eq (HandSHeadRun.getT_eq s)
section
open PySem PySem.W PySem.Calls PyProof.Rows HandSHeadRun
abbrev q0 : PySem.Program := PySem.W.view R.prog [98]
noncomputable abbrev endR (w : World) (os : OsState) : Option SharedT := endF (stepQ (denQ tabQ) R.prog w) 8000 R.prog w os
noncomputable abbrev fA (w : World) : SharedT → Bool := fun s => looksF R.prog (boot_heap w.params) s.abs
noncomputable abbrev fB := fun (s : SharedT) => seenQ q0 looseN (importedModules R.prog.main.body) (fun s => xlAt q0 [] s && recOk R.toRowW.records s) s.abs
theorem runA_true (w : World) : ∀ os : OsState, (endR (w.withFollow "special-get-raises" true) os).map (fA (w.withFollow "special-get-raises" true)) = some true := by
  intro os
  kernel_rfl
theorem runB_true (w : World) : ∀ os : OsState, (endR (w.withFollow "special-get-raises" true) os).map fB = some (openGood q0 looseN) := by
  intro os
  kernel_rfl
theorem runC_true (w : World) : ∀ os : OsState, (endR (w.withFollow "special-get-raises" true) os).map ob = some (hk.val (w.withFollow "special-get-raises" true)) := by
  intro os
  kernel_rfl
theorem run_true (w : World) : HandSHeadRun.RunEq R q0 hk ob 8000 looseN (w.withFollow "special-get-raises" true) := fun os => Hq.map3 (runA_true w os) (runB_true w os) (runC_true w os)
theorem runA_false (w : World) : ∀ os : OsState, (endR (w.withFollow "special-get-raises" false) os).map (fA (w.withFollow "special-get-raises" false)) = some true := by
  intro os
  kernel_rfl
theorem runB_false (w : World) : ∀ os : OsState, (endR (w.withFollow "special-get-raises" false) os).map fB = some (openGood q0 looseN) := by
  intro os
  kernel_rfl
theorem runC_false (w : World) : ∀ os : OsState, (endR (w.withFollow "special-get-raises" false) os).map ob = some (hk.val (w.withFollow "special-get-raises" false)) := by
  intro os
  kernel_rfl
theorem run_false (w : World) : HandSHeadRun.RunEq R q0 hk ob 8000 looseN (w.withFollow "special-get-raises" false) := fun os => Hq.map3 (runA_false w os) (runB_false w os) (runC_false w os)
theorem run (w : World) : HandSHeadRun.RunEq R (PySem.W.view R.prog [98]) hk ob 8000 looseN w := by
  have h : HandSHeadRun.RunEq R (PySem.W.view R.prog [98]) hk ob 8000 looseN (w.withFollow "special-get-raises" (w.params.followText "special-get-raises")) := by
    cases w.params.followText "special-get-raises"
    · exact run_false w
    · exact run_true w
  rwa [World.withFollow_self] at h
end
theorem facts {P : Program} {w : World} {K : PySem.W.Frag} {h : Heap} {mg : Str → Option Value} {f0 : Addr} (X : K.In h) (G : h.Ns mainGlobals mg) (hP : P.main.file = "/claim/cut.py") (hS : (P.main.scope.names.lookup ("super" : Str)).isSome = false) (hfa : mg ("law" : Str) = some (.ref f0)) (c : Hk.Says faD fnD "/claim/cut.py" iniD ceD K) :
    ∃ fd : FuncData, (∀ (s : Shared) (v : Value), BindsTo s fd ⟨[v], []⟩ [("_law_script", v)]) ∧ ∀ base : Heap, K.In base → base.Ns mainGlobals mg → FnOk P w K mg base CX0 11 f0 fd ["_law_script"] (sp_law K) := by
  have D := c.d
  obtain ⟨fd0, F0⟩ : ∃ fd, Hk.FnM K "shown" "shown" s_shown [] (He.ga K "shown") fd := D.def_ 0 rfl
  obtain ⟨fd1, F1⟩ : ∃ fd, Hk.FnM K "different" "different" s_different [] (He.ga K "different") fd := D.def_ 1 rfl
  obtain ⟨fd2, F2⟩ : ∃ fd, Hk.FnM K "rest_between" "Kind.rest_between" s_Kind__rest_between [] (He.fAd K ("Kind", some "rest_between")) fd := D.def_ 2 rfl
  obtain ⟨fd3, F3⟩ : ∃ fd, Hk.FnM K "rest_between" "Kind.rest_between" s_HeadsKind__rest_between [] (He.fAd K ("HeadsKind", some "rest_between")) fd := D.def_ 3 rfl
  obtain ⟨fd4, F4⟩ : ∃ fd, Hk.FnM K "rest_between" "Kind.rest_between" s_FirstKind__rest_between [] (He.fAd K ("FirstKind", some "rest_between")) fd := D.def_ 4 rfl
  obtain ⟨fd5, F5⟩ : ∃ fd, Hk.FnM K "rest_between" "BagKind.rest_between" s_BagKind__rest_between [] (He.fAd K ("BagKind", some "rest_between")) fd := D.def_ 5 rfl
  obtain ⟨fd6, F6⟩ : ∃ fd, Hk.FnM K "rest_between" "BagKind.rest_between" s_SetKind__rest_between [] (He.fAd K ("SetKind", some "rest_between")) fd := D.def_ 6 rfl
  obtain ⟨fd7, F7⟩ : ∃ fd, Hk.FnM K "rest_between" "TailsKind.rest_between" s_TailsKind__rest_between [] (He.fAd K ("TailsKind", some "rest_between")) fd := D.def_ 7 rfl
  obtain ⟨fd8, F8⟩ : ∃ fd, Hk.FnM K "rest_between" "LastKind.rest_between" s_LastKind__rest_between [] (He.fAd K ("LastKind", some "rest_between")) fd := D.def_ 8 rfl
  obtain ⟨fd9, F9⟩ : ∃ fd, Hk.FnM K "rest_between" "EndsKind.rest_between" s_EndsKind__rest_between [] (He.fAd K ("EndsKind", some "rest_between")) fd := D.def_ 9 rfl
  obtain ⟨fd10, F10⟩ : ∃ fd, Hk.FnM K "is_letter" "is_letter" s_is_letter [] (He.ga K "is_letter") fd := D.def_ 10 rfl
  obtain ⟨fd11, F11⟩ : ∃ fd, Hk.FnM K "check_kind" "check_kind" s_check_kind [] (He.ga K "check_kind") fd := D.def_ 11 rfl
  obtain ⟨fd12, F12⟩ : ∃ fd, Hk.FnM K "row_letters" "row_letters" s_row_letters [] (He.ga K "row_letters") fd := D.def_ 12 rfl
  obtain ⟨fd13, F13⟩ : ∃ fd, Hk.FnM K "row_count" "row_count" s_row_count [] (He.ga K "row_count") fd := D.def_ 13 rfl
  obtain ⟨fd14, F14⟩ : ∃ fd, Hk.FnM K "_law_stream" "_law_stream" s__law_stream [] (He.ga K "_law_stream") fd := D.def_ 14 rfl
  obtain ⟨fd15, F15⟩ : ∃ fd, Hk.FnM K "_law_mixed" "_law_mixed" s__law_mixed [] (He.ga K "_law_mixed") fd := D.def_ 15 rfl
  obtain ⟨fd16, F16⟩ : ∃ fd, Hk.FnM K "_law_plain" "_law_plain" s__law_plain [] (He.ga K "_law_plain") fd := D.def_ 16 rfl
  obtain ⟨fd17, F17⟩ : ∃ fd, Hk.FnM K "_law_normal" "_law_normal" s__law_normal [] (He.ga K "_law_normal") fd := D.def_ 17 rfl
  obtain ⟨fd18, F18⟩ : ∃ fd, Hk.FnM K "_law_is_number" "_law_is_number" s__law_is_number [] (He.ga K "_law_is_number") fd := D.def_ 18 rfl
  obtain ⟨fd19, F19⟩ : ∃ fd, Hk.FnM K "_law_sums" "_law_sums" s__law_sums [] (He.ga K "_law_sums") fd := D.def_ 19 rfl
  obtain ⟨fd20, F20⟩ : ∃ fd, Hk.FnM K "plain" "Kind.plain" s_Kind__plain [] (He.fAd K ("Kind", some "plain")) fd := D.def_ 20 rfl
  obtain ⟨fd21, F21⟩ : ∃ fd, Hk.FnM K "plain" "BagKind.plain" s_BagKind__plain [] (He.fAd K ("BagKind", some "plain")) fd := D.def_ 21 rfl
  obtain ⟨fd22, F22⟩ : ∃ fd, Hk.FnM K "plain" "SetKind.plain" s_SetKind__plain [] (He.fAd K ("SetKind", some "plain")) fd := D.def_ 22 rfl
  obtain ⟨fd23, F23⟩ : ∃ fd, Hk.FnM K "plain" "HeadsKind.plain" s_HeadsKind__plain [] (He.fAd K ("HeadsKind", some "plain")) fd := D.def_ 23 rfl
  obtain ⟨fd24, F24⟩ : ∃ fd, Hk.FnM K "plain" "FirstKind.plain" s_FirstKind__plain [] (He.fAd K ("FirstKind", some "plain")) fd := D.def_ 24 rfl
  obtain ⟨fd25, F25⟩ : ∃ fd, Hk.FnM K "plain" "TailsKind.plain" s_TailsKind__plain [] (He.fAd K ("TailsKind", some "plain")) fd := D.def_ 25 rfl
  obtain ⟨fd26, F26⟩ : ∃ fd, Hk.FnM K "plain" "LastKind.plain" s_LastKind__plain [] (He.fAd K ("LastKind", some "plain")) fd := D.def_ 26 rfl
  obtain ⟨fd27, F27⟩ : ∃ fd, Hk.FnM K "plain" "EndsKind.plain" s_EndsKind__plain [] (He.fAd K ("EndsKind", some "plain")) fd := D.def_ 27 rfl
  obtain ⟨fd28, F28⟩ : ∃ fd, Hk.FnM K "kind_named" "kind_named" s_kind_named [] (He.ga K "kind_named") fd := D.def_ 28 rfl
  obtain ⟨fd29, F29⟩ : ∃ fd, Hk.FnM K "is_word" "is_word" s_is_word [] (He.ga K "is_word") fd := D.def_ 29 rfl
  obtain ⟨fd30, F30⟩ : ∃ fd, Hk.FnM K "normal" "normal" s_normal [] (He.ga K "normal") fd := D.def_ 30 rfl
  obtain ⟨fd31, F31⟩ : ∃ fd, Hk.FnM K "_law_draw" "_law_draw" s__law_draw [] (He.ga K "_law_draw") fd := D.def_ 31 rfl
  obtain ⟨fd32, F32⟩ : ∃ fd, Hk.FnM K "_law_joined" "_law_joined" s__law_joined [] (He.ga K "_law_joined") fd := D.def_ 32 rfl
  obtain ⟨fd33, F33⟩ : ∃ fd, Hk.FnM K "_law_is_word" "_law_is_word" s__law_is_word [] (He.ga K "_law_is_word") fd := D.def_ 33 rfl
  obtain ⟨fd34, F34⟩ : ∃ fd, Hk.FnM K "_law_narrowed_row" "_law_narrowed_row" s__law_narrowed_row [] (He.ga K "_law_narrowed_row") fd := D.def_ 34 rfl
  obtain ⟨fd35, F35⟩ : ∃ fd, Hk.FnM K "is_plain" "is_plain" s_is_plain [] (He.ga K "is_plain") fd := D.def_ 35 rfl
  obtain ⟨fd36, F36⟩ : ∃ fd, Hk.FnM K "rest" "rest" s_rest [] (He.ga K "rest") fd := D.def_ 36 rfl
  obtain ⟨fd37, F37⟩ : ∃ fd, Hk.FnM K "then" "then" s_then [] (He.ga K "then") fd := D.def_ 37 rfl
  obtain ⟨fd38, F38⟩ : ∃ fd, Hk.FnM K "effect_on" "effect_on" s_effect_on [] (He.ga K "effect_on") fd := D.def_ 38 rfl
  obtain ⟨fd39, F39⟩ : ∃ fd, Hk.FnM K "narrowed_effect" "narrowed_effect" s_narrowed_effect [] (He.ga K "narrowed_effect") fd := D.def_ 39 rfl
  obtain ⟨fd40, F40⟩ : ∃ fd, Hk.FnM K "_law_pick" "_law_pick" s__law_pick [] (He.ga K "_law_pick") fd := D.def_ 40 rfl
  obtain ⟨fd41, F41⟩ : ∃ fd, Hk.FnM K "_law_then" "_law_then" s__law_then [] (He.ga K "_law_then") fd := D.def_ 41 rfl
  obtain ⟨fd42, F42⟩ : ∃ fd, Hk.FnM K "_law_on" "_law_on" s__law_on [] (He.ga K "_law_on") fd := D.def_ 42 rfl
  obtain ⟨fd43, F43⟩ : ∃ fd, Hk.FnM K "_law_is_effect" "_law_is_effect" s__law_is_effect [] (He.ga K "_law_is_effect") fd := D.def_ 43 rfl
  obtain ⟨fd44, F44⟩ : ∃ fd, Hk.FnM K "_law_rest" "_law_rest" s__law_rest [] (He.ga K "_law_rest") fd := D.def_ 44 rfl
  obtain ⟨fd45, F45⟩ : ∃ fd, Hk.FnM K "is_effect" "is_effect" s_is_effect [] (He.ga K "is_effect") fd := D.def_ 45 rfl
  obtain ⟨fd46, F46⟩ : ∃ fd, Hk.FnM K "step" "step" s_step [] (He.ga K "step") fd := D.def_ 46 rfl
  obtain ⟨fd47, F47⟩ : ∃ fd, Hk.FnM K "_law_kind" "_law_kind" s__law_kind [] (He.ga K "_law_kind") fd := D.def_ 47 rfl
  obtain ⟨fd48, F48⟩ : ∃ fd, Hk.FnM K "_law_letters" "_law_letters" s__law_letters [] (He.ga K "_law_letters") fd := D.def_ 48 rfl
  obtain ⟨fd49, F49⟩ : ∃ fd, Hk.FnM K "_law_raw" "_law_raw" s__law_raw [] (He.ga K "_law_raw") fd := D.def_ 49 rfl
  obtain ⟨fd50, F50⟩ : ∃ fd, Hk.FnM K "_law_step" "_law_step" s__law_step [] (He.ga K "_law_step") fd := D.def_ 50 rfl
  obtain ⟨fd51, F51⟩ : ∃ fd, Hk.FnM K "_law_running" "_law_running" s__law_running [] (He.ga K "_law_running") fd := D.def_ 51 rfl
  obtain ⟨fd52, F52⟩ : ∃ fd, Hk.FnM K "_law_same_row" "_law_same_row" s__law_same_row [] (He.ga K "_law_same_row") fd := D.def_ 52 rfl
  obtain ⟨fd53, F53⟩ : ∃ fd, Hk.FnM K "_law_states" "_law_states" s__law_states [] (He.ga K "_law_states") fd := D.def_ 53 rfl
  obtain ⟨fd54, F54⟩ : ∃ fd, Hk.FnM K "_law_lower_kind" "_law_lower_kind" s__law_lower_kind [] (He.ga K "_law_lower_kind") fd := D.def_ 54 rfl
  obtain ⟨fd55, F55⟩ : ∃ fd, Hk.FnM K "under" "under" s_under [] (He.ga K "under") fd := D.def_ 55 rfl
  obtain ⟨fd56, F56⟩ : ∃ fd, Hk.FnM K "check_effects" "check_effects" s_check_effects [] (He.ga K "check_effects") fd := D.def_ 56 rfl
  obtain ⟨fd57, F57⟩ : ∃ fd, Hk.FnM K "swallowed" "swallowed" s_swallowed [] (He.ga K "swallowed") fd := D.def_ 57 rfl
  obtain ⟨fd58, F58⟩ : ∃ fd, Hk.FnM K "twice_at_once" "twice_at_once" s_twice_at_once [] (He.ga K "twice_at_once") fd := D.def_ 58 rfl
  obtain ⟨fd59, F59⟩ : ∃ fd, Hk.FnM K "twice_later" "twice_later" s_twice_later [] (He.ga K "twice_later") fd := D.def_ 59 rfl
  obtain ⟨fd60, F60⟩ : ∃ fd, Hk.FnM K "twice_earlier" "twice_earlier" s_twice_earlier [] (He.ga K "twice_earlier") fd := D.def_ 60 rfl
  obtain ⟨fd61, F61⟩ : ∃ fd, Hk.FnM K "_law_near" "_law_near" s__law_near [] (He.ga K "_law_near") fd := D.def_ 61 rfl
  obtain ⟨fd62, F62⟩ : ∃ fd, Hk.FnM K "_law_twin_row" "_law_twin_row" s__law_twin_row [] (He.ga K "_law_twin_row") fd := D.def_ 62 rfl
  obtain ⟨fd63, F63⟩ : ∃ fd, Hk.FnM K "_law_steps" "_law_steps" s__law_steps [] (He.ga K "_law_steps") fd := D.def_ 63 rfl
  obtain ⟨fd64, F64⟩ : ∃ fd, Hk.FnM K "_law_later" "_law_later" s__law_later [] (He.ga K "_law_later") fd := D.def_ 64 rfl
  obtain ⟨fd65, F65⟩ : ∃ fd, Hk.FnM K "plain_word" "plain_word" s_plain_word [] (He.ga K "plain_word") fd := D.def_ 65 rfl
  obtain ⟨fd66, F66⟩ : ∃ fd, Hk.FnM K "joined" "joined" s_joined [] (He.ga K "joined") fd := D.def_ 66 rfl
  obtain ⟨fd67, F67⟩ : ∃ fd, Hk.FnM K "fresh_word" "fresh_word" s_fresh_word [] (He.ga K "fresh_word") fd := D.def_ 67 rfl
  obtain ⟨fd68, F68⟩ : ∃ fd, Hk.FnM K "parted_words" "parted_words" s_parted_words [] (He.ga K "parted_words") fd := D.def_ 68 rfl
  obtain ⟨fd69, F69⟩ : ∃ fd, Hk.FnM K "parting_state" "parting_state" s_parting_state [] (He.ga K "parting_state") fd := D.def_ 69 rfl
  obtain ⟨fd70, F70⟩ : ∃ fd, Hk.FnM K "running" "running" s_running [] (He.ga K "running") fd := D.def_ 70 rfl
  obtain ⟨fd71, F71⟩ : ∃ fd, Ms.FnK K "steps_between" s_steps_between [("start", .ref (He.ga K "IDLE"))] (He.ga K "steps_between") fd := D.def_ 71 rfl
  obtain ⟨fd72, F72⟩ : ∃ fd, Hk.FnM K "parting_word" "parting_word" s_parting_word [] (He.ga K "parting_word") fd := D.def_ 72 rfl
  obtain ⟨fd73, F73⟩ : ∃ fd, Hk.FnM K "_law_row" "_law_row" s__law_row [] (He.ga K "_law_row") fd := D.def_ 73 rfl
  obtain ⟨fd74, F74⟩ : ∃ fd, Hk.FnM K "change_places" "change_places" s_change_places [] (He.ga K "change_places") fd := D.def_ 74 rfl
  obtain ⟨fd75, F75⟩ : ∃ fd, Hk.FnM K "parting_swap" "parting_swap" s_parting_swap [] (He.ga K "parting_swap") fd := D.def_ 75 rfl
  obtain ⟨fd76, F76⟩ : ∃ fd, Hk.FnM K "_law_along" "_law_along" s__law_along [] (He.ga K "_law_along") fd := D.def_ 76 rfl
  obtain ⟨fd77, F77⟩ : ∃ fd, Hk.FnM K "_law_refused_row" "_law_refused_row" s__law_refused_row [] (He.ga K "_law_refused_row") fd := D.def_ 77 rfl
  obtain ⟨fd78, F78⟩ : ∃ fd, Hk.FnM K "_law_word_door" "_law_word_door" s__law_word_door [] (He.ga K "_law_word_door") fd := D.def_ 78 rfl
  obtain ⟨fd79, F79⟩ : ∃ fd, Hk.FnM K "_law_effect_door" "_law_effect_door" s__law_effect_door [] (He.ga K "_law_effect_door") fd := D.def_ 79 rfl
  obtain ⟨fd80, F80⟩ : ∃ fd, Hk.FnM K "_law_refused_kind" "_law_refused_kind" s__law_refused_kind [] (He.ga K "_law_refused_kind") fd := D.def_ 80 rfl
  obtain ⟨fd81, F81⟩ : ∃ fd, Hk.FnM K "_law_refusals" "_law_refusals" s__law_refusals [] (He.ga K "_law_refusals") fd := D.def_ 81 rfl
  obtain ⟨fd82, F82⟩ : ∃ fd, Hk.FnM K "law" "law" s_law [] (He.ga K "law") fd := D.def_ 82 rfl
  have j0 := c.i 0 rfl
  obtain ⟨fi0, S0, B0⟩ : ∃ fd, Sup.SupF P K (He.ga K "NameFault") (He.fAd K ("NameFault", some "__init__")) "NameFault.__init__" (defArgs si_NameFault) (defBody si_NameFault) (defScope si_NameFault) fd ∧ Binds K fd ["self", "name"] [] := Hk.ini_ok hP hS j0.1 j0.2 fun _ _ _ _ _ _ _ us hl => match us, hl with | [_, _], _ => rfl
  have j1 := c.i 1 rfl
  obtain ⟨fi1, S1, B1⟩ : ∃ fd, Sup.SupF P K (He.ga K "PlaceFault") (He.fAd K ("PlaceFault", some "__init__")) "PlaceFault.__init__" (defArgs si_PlaceFault) (defBody si_PlaceFault) (defScope si_PlaceFault) fd ∧ Binds K fd ["self", "place"] [] := Hk.ini_ok hP hS j1.1 j1.2 fun _ _ _ _ _ _ _ us hl => match us, hl with | [_, _], _ => rfl
  have b0 : Binds K fd0 ["value"] [] := FunD.bindsN F0 fun _ _ _ _ _ _ us hl => match us, hl with | [_], _ => rfl
  have b1 : Binds K fd1 ["letters"] [] := FunD.bindsN F1 fun _ _ _ _ _ _ us hl => match us, hl with | [_], _ => rfl
  have b2 : Binds K fd2 ["self", "one", "other"] [] := FunD.bindsN F2 fun _ _ _ _ _ _ us hl => match us, hl with | [_, _, _], _ => rfl
  have b3 : Binds K fd3 ["self", "one", "other"] [] := FunD.bindsN F3 fun _ _ _ _ _ _ us hl => match us, hl with | [_, _, _], _ => rfl
  have b4 : Binds K fd4 ["self", "one", "other"] [] := FunD.bindsN F4 fun _ _ _ _ _ _ us hl => match us, hl with | [_, _, _], _ => rfl
  have b5 : Binds K fd5 ["self", "one", "other"] [] := FunD.bindsN F5 fun _ _ _ _ _ _ us hl => match us, hl with | [_, _, _], _ => rfl
  have b6 : Binds K fd6 ["self", "one", "other"] [] := FunD.bindsN F6 fun _ _ _ _ _ _ us hl => match us, hl with | [_, _, _], _ => rfl
  have b7 : Binds K fd7 ["self", "one", "other"] [] := FunD.bindsN F7 fun _ _ _ _ _ _ us hl => match us, hl with | [_, _, _], _ => rfl
  have b8 : Binds K fd8 ["self", "one", "other"] [] := FunD.bindsN F8 fun _ _ _ _ _ _ us hl => match us, hl with | [_, _, _], _ => rfl
  have b9 : Binds K fd9 ["self", "one", "other"] [] := FunD.bindsN F9 fun _ _ _ _ _ _ us hl => match us, hl with | [_, _, _], _ => rfl
  have b10 : Binds K fd10 ["thing"] [] := FunD.bindsN F10 fun _ _ _ _ _ _ us hl => match us, hl with | [_], _ => rfl
  have b11 : Binds K fd11 ["name"] [] := FunD.bindsN F11 fun _ _ _ _ _ _ us hl => match us, hl with | [_], _ => rfl
  have b12 : Binds K fd12 ["row"] [] := FunD.bindsN F12 fun _ _ _ _ _ _ us hl => match us, hl with | [_], _ => rfl
  have b13 : Binds K fd13 ["row"] [] := FunD.bindsN F13 fun _ _ _ _ _ _ us hl => match us, hl with | [_], _ => rfl
  have b14 : Binds K fd14 ["_law_script"] [] := FunD.bindsN F14 fun _ _ _ _ _ _ us hl => match us, hl with | [_], _ => rfl
  have b15 : Binds K fd15 ["_law_cell", "_law_place"] [] := FunD.bindsN F15 fun _ _ _ _ _ _ us hl => match us, hl with | [_, _], _ => rfl
  have b16 : Binds K fd16 ["_law_kind_here", "_law_word"] [] := FunD.bindsN F16 fun _ _ _ _ _ _ us hl => match us, hl with | [_, _], _ => rfl
  have b17 : Binds K fd17 ["_law_kind_here", "_law_effect"] [] := FunD.bindsN F17 fun _ _ _ _ _ _ us hl => match us, hl with | [_, _], _ => rfl
  have b18 : Binds K fd18 ["_law_thing"] [] := FunD.bindsN F18 fun _ _ _ _ _ _ us hl => match us, hl with | [_], _ => rfl
  have b19 : Binds K fd19 ["_law_row_here"] [] := FunD.bindsN F19 fun _ _ _ _ _ _ us hl => match us, hl with | [_], _ => rfl
  have b20 : Binds K fd20 ["self", "word"] [] := FunD.bindsN F20 fun _ _ _ _ _ _ us hl => match us, hl with | [_, _], _ => rfl
  have b21 : Binds K fd21 ["self", "word"] [] := FunD.bindsN F21 fun _ _ _ _ _ _ us hl => match us, hl with | [_, _], _ => rfl
  have b22 : Binds K fd22 ["self", "word"] [] := FunD.bindsN F22 fun _ _ _ _ _ _ us hl => match us, hl with | [_, _], _ => rfl
  have b23 : Binds K fd23 ["self", "word"] [] := FunD.bindsN F23 fun _ _ _ _ _ _ us hl => match us, hl with | [_, _], _ => rfl
  have b24 : Binds K fd24 ["self", "word"] [] := FunD.bindsN F24 fun _ _ _ _ _ _ us hl => match us, hl with | [_, _], _ => rfl
  have b25 : Binds K fd25 ["self", "word"] [] := FunD.bindsN F25 fun _ _ _ _ _ _ us hl => match us, hl with | [_, _], _ => rfl
  have b26 : Binds K fd26 ["self", "word"] [] := FunD.bindsN F26 fun _ _ _ _ _ _ us hl => match us, hl with | [_, _], _ => rfl
  have b27 : Binds K fd27 ["self", "word"] [] := FunD.bindsN F27 fun _ _ _ _ _ _ us hl => match us, hl with | [_, _], _ => rfl
  have b28 : Binds K fd28 ["name"] [] := FunD.bindsN F28 fun _ _ _ _ _ _ us hl => match us, hl with | [_], _ => rfl
  have b29 : Binds K fd29 ["thing"] [] := FunD.bindsN F29 fun _ _ _ _ _ _ us hl => match us, hl with | [_], _ => rfl
  have b30 : Binds K fd30 ["kind", "effect"] [] := FunD.bindsN F30 fun _ _ _ _ _ _ us hl => match us, hl with | [_, _], _ => rfl
  have b31 : Binds K fd31 ["_law_stream_here", "_law_many"] [] := FunD.bindsN F31 fun _ _ _ _ _ _ us hl => match us, hl with | [_, _], _ => rfl
  have b32 : Binds K fd32 ["_law_kind_here", "_law_left", "_law_right"] [] := FunD.bindsN F32 fun _ _ _ _ _ _ us hl => match us, hl with | [_, _, _], _ => rfl
  have b33 : Binds K fd33 ["_law_thing"] [] := FunD.bindsN F33 fun _ _ _ _ _ _ us hl => match us, hl with | [_], _ => rfl
  have b34 : Binds K fd34 ["_law_narrow", "_law_wide", "_law_row_here"] [] := FunD.bindsN F34 fun _ _ _ _ _ _ us hl => match us, hl with | [_, _, _], _ => rfl
  have b35 : Binds K fd35 ["kind", "thing"] [] := FunD.bindsN F35 fun _ _ _ _ _ _ us hl => match us, hl with | [_, _], _ => rfl
  have b36 : Binds K fd36 ["kind", "one", "other"] [] := FunD.bindsN F36 fun _ _ _ _ _ _ us hl => match us, hl with | [_, _, _], _ => rfl
  have b38 : Binds K fd38 ["kind", "effect", "state"] [] := FunD.bindsN F38 fun _ _ _ _ _ _ us hl => match us, hl with | [_, _, _], _ => rfl
  have b39 : Binds K fd39 ["kind", "effect"] [] := FunD.bindsN F39 fun _ _ _ _ _ _ us hl => match us, hl with | [_, _], _ => rfl
  have b40 : Binds K fd40 ["_law_stream_here", "_law_many"] [] := FunD.bindsN F40 fun _ _ _ _ _ _ us hl => match us, hl with | [_, _], _ => rfl
  have b41 : Binds K fd41 ["_law_kind_here", "_law_first", "_law_second"] [] := FunD.bindsN F41 fun _ _ _ _ _ _ us hl => match us, hl with | [_, _, _], _ => rfl
  have b42 : Binds K fd42 ["_law_kind_here", "_law_effect", "_law_state"] [] := FunD.bindsN F42 fun _ _ _ _ _ _ us hl => match us, hl with | [_, _, _], _ => rfl
  have b43 : Binds K fd43 ["_law_thing"] [] := FunD.bindsN F43 fun _ _ _ _ _ _ us hl => match us, hl with | [_], _ => rfl
  have b44 : Binds K fd44 ["_law_kind_here", "_law_one", "_law_other"] [] := FunD.bindsN F44 fun _ _ _ _ _ _ us hl => match us, hl with | [_, _, _], _ => rfl
  have b45 : Binds K fd45 ["kind", "thing"] [] := FunD.bindsN F45 fun _ _ _ _ _ _ us hl => match us, hl with | [_, _], _ => rfl
  have b46 : Binds K fd46 ["kind", "one", "other"] [] := FunD.bindsN F46 fun _ _ _ _ _ _ us hl => match us, hl with | [_, _, _], _ => rfl
  have b47 : Binds K fd47 ["_law_stream_here"] [] := FunD.bindsN F47 fun _ _ _ _ _ _ us hl => match us, hl with | [_], _ => rfl
  have b48 : Binds K fd48 ["_law_stream_here"] [] := FunD.bindsN F48 fun _ _ _ _ _ _ us hl => match us, hl with | [_], _ => rfl
  have b49 : Binds K fd49 ["_law_stream_here", "_law_letters_here"] [] := FunD.bindsN F49 fun _ _ _ _ _ _ us hl => match us, hl with | [_, _], _ => rfl
  have b50 : Binds K fd50 ["_law_kind_here", "_law_first", "_law_second"] [] := FunD.bindsN F50 fun _ _ _ _ _ _ us hl => match us, hl with | [_, _, _], _ => rfl
  have b51 : Binds K fd51 ["_law_kind_here", "_law_row_here"] [] := FunD.bindsN F51 fun _ _ _ _ _ _ us hl => match us, hl with | [_, _], _ => rfl
  have b52 : Binds K fd52 ["_law_told", "_law_due"] [] := FunD.bindsN F52 fun _ _ _ _ _ _ us hl => match us, hl with | [_, _], _ => rfl
  have b53 : Binds K fd53 ["_law_kind_here", "_law_row_here", "_law_due", "_law_state"] [] := FunD.bindsN F53 fun _ _ _ _ _ _ us hl => match us, hl with | [_, _, _, _], _ => rfl
  have b54 : Binds K fd54 ["_law_stream_here", "_law_wide"] [] := FunD.bindsN F54 fun _ _ _ _ _ _ us hl => match us, hl with | [_, _], _ => rfl
  have b55 : Binds K fd55 ["one", "other"] [] := FunD.bindsN F55 fun _ _ _ _ _ _ us hl => match us, hl with | [_, _], _ => rfl
  have b56 : Binds K fd56 ["kind", "row"] [] := FunD.bindsN F56 fun _ _ _ _ _ _ us hl => match us, hl with | [_, _], _ => rfl
  have b57 : Binds K fd57 ["kind", "small", "large"] [] := FunD.bindsN F57 fun _ _ _ _ _ _ us hl => match us, hl with | [_, _, _], _ => rfl
  have b58 : Binds K fd58 ["kind", "word"] [] := FunD.bindsN F58 fun _ _ _ _ _ _ us hl => match us, hl with | [_, _], _ => rfl
  have b59 : Binds K fd59 ["kind", "word"] [] := FunD.bindsN F59 fun _ _ _ _ _ _ us hl => match us, hl with | [_, _], _ => rfl
  have b60 : Binds K fd60 ["kind", "word"] [] := FunD.bindsN F60 fun _ _ _ _ _ _ us hl => match us, hl with | [_, _], _ => rfl
  have b61 : Binds K fd61 ["_law_stream_here", "_law_letters_here", "_law_word"] [] := FunD.bindsN F61 fun _ _ _ _ _ _ us hl => match us, hl with | [_, _, _], _ => rfl
  have b62 : Binds K fd62 ["_law_stream_here", "_law_kind_here", "_law_row_here"] [] := FunD.bindsN F62 fun _ _ _ _ _ _ us hl => match us, hl with | [_, _, _], _ => rfl
  have b63 : Binds K fd63 ["_law_kind_here", "_law_begin", "_law_row_here"] [] := FunD.bindsN F63 fun _ _ _ _ _ _ us hl => match us, hl with | [_, _, _], _ => rfl
  have b64 : Binds K fd64 ["_law_kind_here", "_law_due"] [] := FunD.bindsN F64 fun _ _ _ _ _ _ us hl => match us, hl with | [_, _], _ => rfl
  have b65 : Binds K fd65 ["kind", "word"] [] := FunD.bindsN F65 fun _ _ _ _ _ _ us hl => match us, hl with | [_, _], _ => rfl
  have b68 : Binds K fd68 ["one", "other"] [] := FunD.bindsN F68 fun _ _ _ _ _ _ us hl => match us, hl with | [_, _], _ => rfl
  have b69 : Binds K fd69 ["kind", "one", "other"] [] := FunD.bindsN F69 fun _ _ _ _ _ _ us hl => match us, hl with | [_, _, _], _ => rfl
  have b70 : Binds K fd70 ["kind", "row"] [] := FunD.bindsN F70 fun _ _ _ _ _ _ us hl => match us, hl with | [_, _], _ => rfl
  have d71_1 : ∃ ds : List Value, Binds K fd71 ["kind", "row", "start"] ds ∧ Vals [.ref (He.ga K "IDLE")] ds := by
    obtain ⟨ds, hv, hb⟩ := FunD.binds0 (ps := ["kind", "row", "start"]) F71 2 (by simp) (by rfl) fun _ _ _ _ _ _ us ks hl hk => match us, ks, hl, hk with | [_, _], [_], _, _ => ⟨_, _, _, _, _, _, rfl, rfl, rfl⟩
    exact ⟨ds, hb, hv⟩
  have bk71 : KBn K fd71 ["kind", "row", "start"] 2 ["start"] (fun us ws => us ++ ws) (fun vs zs => vs ++ zs) := Ms.kb0 F71 2 _ fun _ _ _ _ _ _ us ws hl hk => match us, ws, hl, hk with | [_, _], [_], _, _ => rfl
  have b72 : Binds K fd72 ["kind", "small", "large"] [] := FunD.bindsN F72 fun _ _ _ _ _ _ us hl => match us, hl with | [_, _, _], _ => rfl
  have b73 : Binds K fd73 ["_law_stream_here", "_law_kind_here", "_law_letters_here"] [] := FunD.bindsN F73 fun _ _ _ _ _ _ us hl => match us, hl with | [_, _, _], _ => rfl
  have b74 : Binds K fd74 ["kind", "one", "other"] [] := FunD.bindsN F74 fun _ _ _ _ _ _ us hl => match us, hl with | [_, _, _], _ => rfl
  have b75 : Binds K fd75 ["kind", "one", "other"] [] := FunD.bindsN F75 fun _ _ _ _ _ _ us hl => match us, hl with | [_, _, _], _ => rfl
  have b76 : Binds K fd76 ["_law_kind_here", "_law_row_here", "_law_twin"] [] := FunD.bindsN F76 fun _ _ _ _ _ _ us hl => match us, hl with | [_, _, _], _ => rfl
  have b77 : Binds K fd77 ["_law_kind_here", "_law_row_here", "_law_way"] [] := FunD.bindsN F77 fun _ _ _ _ _ _ us hl => match us, hl with | [_, _, _], _ => rfl
  have b78 : Binds K fd78 ["_law_at", "_law_name", "_law_word"] [] := FunD.bindsN F78 fun _ _ _ _ _ _ us hl => match us, hl with | [_, _, _], _ => rfl
  have b79 : Binds K fd79 ["_law_at", "_law_name", "_law_word", "_law_effect"] [] := FunD.bindsN F79 fun _ _ _ _ _ _ us hl => match us, hl with | [_, _, _, _], _ => rfl
  have b80 : Binds K fd80 ["_law_at", "_law_name", "_law_word", "_law_effect"] [] := FunD.bindsN F80 fun _ _ _ _ _ _ us hl => match us, hl with | [_, _, _, _], _ => rfl
  have b81 : Binds K fd81 ["_law_stream_here", "_law_kind_here", "_law_row_here"] [] := FunD.bindsN F81 fun _ _ _ _ _ _ us hl => match us, hl with | [_, _, _], _ => rfl
  have b82 : Binds K fd82 ["_law_script"] [] := FunD.bindsN F82 fun _ _ _ _ _ _ us hl => match us, hl with | [_], _ => rfl
  let A' : Ad := {
    f_shown := He.ga K "shown",
    fd_shown := fd0,
    f_different := He.ga K "different",
    fd_different := fd1,
    f_Kind__rest_between := He.fAd K ("Kind", some "rest_between"),
    fd_Kind__rest_between := fd2,
    f_HeadsKind__rest_between := He.fAd K ("HeadsKind", some "rest_between"),
    fd_HeadsKind__rest_between := fd3,
    f_FirstKind__rest_between := He.fAd K ("FirstKind", some "rest_between"),
    fd_FirstKind__rest_between := fd4,
    f_BagKind__rest_between := He.fAd K ("BagKind", some "rest_between"),
    fd_BagKind__rest_between := fd5,
    f_SetKind__rest_between := He.fAd K ("SetKind", some "rest_between"),
    fd_SetKind__rest_between := fd6,
    f_TailsKind__rest_between := He.fAd K ("TailsKind", some "rest_between"),
    fd_TailsKind__rest_between := fd7,
    f_LastKind__rest_between := He.fAd K ("LastKind", some "rest_between"),
    fd_LastKind__rest_between := fd8,
    f_EndsKind__rest_between := He.fAd K ("EndsKind", some "rest_between"),
    fd_EndsKind__rest_between := fd9,
    f_is_letter := He.ga K "is_letter",
    fd_is_letter := fd10,
    f_check_kind := He.ga K "check_kind",
    fd_check_kind := fd11,
    f_row_letters := He.ga K "row_letters",
    fd_row_letters := fd12,
    f_row_count := He.ga K "row_count",
    fd_row_count := fd13,
    f__law_stream := He.ga K "_law_stream",
    fd__law_stream := fd14,
    f__law_mixed := He.ga K "_law_mixed",
    fd__law_mixed := fd15,
    f__law_plain := He.ga K "_law_plain",
    fd__law_plain := fd16,
    f__law_normal := He.ga K "_law_normal",
    fd__law_normal := fd17,
    f__law_is_number := He.ga K "_law_is_number",
    fd__law_is_number := fd18,
    f__law_sums := He.ga K "_law_sums",
    fd__law_sums := fd19,
    f_Kind__plain := He.fAd K ("Kind", some "plain"),
    fd_Kind__plain := fd20,
    f_BagKind__plain := He.fAd K ("BagKind", some "plain"),
    fd_BagKind__plain := fd21,
    f_SetKind__plain := He.fAd K ("SetKind", some "plain"),
    fd_SetKind__plain := fd22,
    f_HeadsKind__plain := He.fAd K ("HeadsKind", some "plain"),
    fd_HeadsKind__plain := fd23,
    f_FirstKind__plain := He.fAd K ("FirstKind", some "plain"),
    fd_FirstKind__plain := fd24,
    f_TailsKind__plain := He.fAd K ("TailsKind", some "plain"),
    fd_TailsKind__plain := fd25,
    f_LastKind__plain := He.fAd K ("LastKind", some "plain"),
    fd_LastKind__plain := fd26,
    f_EndsKind__plain := He.fAd K ("EndsKind", some "plain"),
    fd_EndsKind__plain := fd27,
    f_kind_named := He.ga K "kind_named",
    fd_kind_named := fd28,
    f_is_word := He.ga K "is_word",
    fd_is_word := fd29,
    f_normal := He.ga K "normal",
    fd_normal := fd30,
    f__law_draw := He.ga K "_law_draw",
    fd__law_draw := fd31,
    f__law_joined := He.ga K "_law_joined",
    fd__law_joined := fd32,
    f__law_is_word := He.ga K "_law_is_word",
    fd__law_is_word := fd33,
    f__law_narrowed_row := He.ga K "_law_narrowed_row",
    fd__law_narrowed_row := fd34,
    f_is_plain := He.ga K "is_plain",
    fd_is_plain := fd35,
    f_rest := He.ga K "rest",
    fd_rest := fd36,
    f_then := He.ga K "then",
    fd_then := fd37,
    f_effect_on := He.ga K "effect_on",
    fd_effect_on := fd38,
    f_narrowed_effect := He.ga K "narrowed_effect",
    fd_narrowed_effect := fd39,
    f__law_pick := He.ga K "_law_pick",
    fd__law_pick := fd40,
    f__law_then := He.ga K "_law_then",
    fd__law_then := fd41,
    f__law_on := He.ga K "_law_on",
    fd__law_on := fd42,
    f__law_is_effect := He.ga K "_law_is_effect",
    fd__law_is_effect := fd43,
    f__law_rest := He.ga K "_law_rest",
    fd__law_rest := fd44,
    f_is_effect := He.ga K "is_effect",
    fd_is_effect := fd45,
    f_step := He.ga K "step",
    fd_step := fd46,
    f__law_kind := He.ga K "_law_kind",
    fd__law_kind := fd47,
    f__law_letters := He.ga K "_law_letters",
    fd__law_letters := fd48,
    f__law_raw := He.ga K "_law_raw",
    fd__law_raw := fd49,
    f__law_step := He.ga K "_law_step",
    fd__law_step := fd50,
    f__law_running := He.ga K "_law_running",
    fd__law_running := fd51,
    f__law_same_row := He.ga K "_law_same_row",
    fd__law_same_row := fd52,
    f__law_states := He.ga K "_law_states",
    fd__law_states := fd53,
    f__law_lower_kind := He.ga K "_law_lower_kind",
    fd__law_lower_kind := fd54,
    f_under := He.ga K "under",
    fd_under := fd55,
    f_check_effects := He.ga K "check_effects",
    fd_check_effects := fd56,
    f_swallowed := He.ga K "swallowed",
    fd_swallowed := fd57,
    f_twice_at_once := He.ga K "twice_at_once",
    fd_twice_at_once := fd58,
    f_twice_later := He.ga K "twice_later",
    fd_twice_later := fd59,
    f_twice_earlier := He.ga K "twice_earlier",
    fd_twice_earlier := fd60,
    f__law_near := He.ga K "_law_near",
    fd__law_near := fd61,
    f__law_twin_row := He.ga K "_law_twin_row",
    fd__law_twin_row := fd62,
    f__law_steps := He.ga K "_law_steps",
    fd__law_steps := fd63,
    f__law_later := He.ga K "_law_later",
    fd__law_later := fd64,
    f_plain_word := He.ga K "plain_word",
    fd_plain_word := fd65,
    f_joined := He.ga K "joined",
    fd_joined := fd66,
    f_fresh_word := He.ga K "fresh_word",
    fd_fresh_word := fd67,
    f_parted_words := He.ga K "parted_words",
    fd_parted_words := fd68,
    f_parting_state := He.ga K "parting_state",
    fd_parting_state := fd69,
    f_running := He.ga K "running",
    fd_running := fd70,
    f_steps_between := He.ga K "steps_between",
    fd_steps_between := fd71,
    f_parting_word := He.ga K "parting_word",
    fd_parting_word := fd72,
    f__law_row := He.ga K "_law_row",
    fd__law_row := fd73,
    f_change_places := He.ga K "change_places",
    fd_change_places := fd74,
    f_parting_swap := He.ga K "parting_swap",
    fd_parting_swap := fd75,
    f__law_along := He.ga K "_law_along",
    fd__law_along := fd76,
    f__law_refused_row := He.ga K "_law_refused_row",
    fd__law_refused_row := fd77,
    f__law_word_door := He.ga K "_law_word_door",
    fd__law_word_door := fd78,
    f__law_effect_door := He.ga K "_law_effect_door",
    fd__law_effect_door := fd79,
    f__law_refused_kind := He.ga K "_law_refused_kind",
    fd__law_refused_kind := fd80,
    f__law_refusals := He.ga K "_law_refusals",
    fd__law_refusals := fd81,
    f_law := He.ga K "law",
    fd_law := fd82,
    c_StoreError := He.ga K "StoreError",
    c_NameFault := He.ga K "NameFault",
    c_PlaceFault := He.ga K "PlaceFault",
    c_BadKind := He.ga K "BadKind",
    c_BadName := He.ga K "BadName",
    c_BadWord := He.ga K "BadWord",
    c_BadEffect := He.ga K "BadEffect",
    c_BadStretch := He.ga K "BadStretch",
    c_BadField := He.ga K "BadField",
    c_BadBatch := He.ga K "BadBatch",
    c_Kind := He.ga K "Kind",
    c_BagKind := He.ga K "BagKind",
    c_SetKind := He.ga K "SetKind",
    c_HeadsKind := He.ga K "HeadsKind",
    c_FirstKind := He.ga K "FirstKind",
    c_TailsKind := He.ga K "TailsKind",
    c_LastKind := He.ga K "LastKind",
    c_EndsKind := He.ga K "EndsKind",
    k_KIND_NAMES := He.ga K "KIND_NAMES",
    k_IDLE := He.ga K "IDLE",
    i_NameFault := He.fAd K ("NameFault", some "__init__"),
    fdi_NameFault := fi0,
    i_PlaceFault := He.fAd K ("PlaceFault", some "__init__"),
    fdi_PlaceFault := fi1 }
  have T : Txt P K mg A' := {
    F_shown := F0,
    g_shown := He.glo_ok X G (D.fact 0 (f := .glo "shown") rfl),
    b_shown := b0,
    F_different := F1,
    g_different := He.glo_ok X G (D.fact 1 (f := .glo "different") rfl),
    b_different := b1,
    F_Kind__rest_between := F2,
    me_Kind__rest_between := He.meth_ok (D.fact 95 (f := .meth "Kind" "rest_between") rfl),
    b_Kind__rest_between := b2,
    F_HeadsKind__rest_between := F3,
    me_HeadsKind__rest_between := He.meth_ok (D.fact 96 (f := .meth "HeadsKind" "rest_between") rfl),
    b_HeadsKind__rest_between := b3,
    F_FirstKind__rest_between := F4,
    me_FirstKind__rest_between := He.meth_ok (D.fact 97 (f := .meth "FirstKind" "rest_between") rfl),
    b_FirstKind__rest_between := b4,
    F_BagKind__rest_between := F5,
    me_BagKind__rest_between := He.meth_ok (D.fact 98 (f := .meth "BagKind" "rest_between") rfl),
    b_BagKind__rest_between := b5,
    F_SetKind__rest_between := F6,
    me_SetKind__rest_between := He.meth_ok (D.fact 99 (f := .meth "SetKind" "rest_between") rfl),
    b_SetKind__rest_between := b6,
    F_TailsKind__rest_between := F7,
    me_TailsKind__rest_between := He.meth_ok (D.fact 100 (f := .meth "TailsKind" "rest_between") rfl),
    b_TailsKind__rest_between := b7,
    F_LastKind__rest_between := F8,
    me_LastKind__rest_between := He.meth_ok (D.fact 101 (f := .meth "LastKind" "rest_between") rfl),
    b_LastKind__rest_between := b8,
    F_EndsKind__rest_between := F9,
    me_EndsKind__rest_between := He.meth_ok (D.fact 102 (f := .meth "EndsKind" "rest_between") rfl),
    b_EndsKind__rest_between := b9,
    F_is_letter := F10,
    g_is_letter := He.glo_ok X G (D.fact 2 (f := .glo "is_letter") rfl),
    b_is_letter := b10,
    F_check_kind := F11,
    g_check_kind := He.glo_ok X G (D.fact 3 (f := .glo "check_kind") rfl),
    b_check_kind := b11,
    F_row_letters := F12,
    g_row_letters := He.glo_ok X G (D.fact 4 (f := .glo "row_letters") rfl),
    b_row_letters := b12,
    F_row_count := F13,
    g_row_count := He.glo_ok X G (D.fact 5 (f := .glo "row_count") rfl),
    b_row_count := b13,
    F__law_stream := F14,
    g__law_stream := He.glo_ok X G (D.fact 6 (f := .glo "_law_stream") rfl),
    b__law_stream := b14,
    F__law_mixed := F15,
    g__law_mixed := He.glo_ok X G (D.fact 7 (f := .glo "_law_mixed") rfl),
    b__law_mixed := b15,
    F__law_plain := F16,
    g__law_plain := He.glo_ok X G (D.fact 8 (f := .glo "_law_plain") rfl),
    b__law_plain := b16,
    F__law_normal := F17,
    g__law_normal := He.glo_ok X G (D.fact 9 (f := .glo "_law_normal") rfl),
    b__law_normal := b17,
    F__law_is_number := F18,
    g__law_is_number := He.glo_ok X G (D.fact 10 (f := .glo "_law_is_number") rfl),
    b__law_is_number := b18,
    F__law_sums := F19,
    g__law_sums := He.glo_ok X G (D.fact 11 (f := .glo "_law_sums") rfl),
    b__law_sums := b19,
    F_Kind__plain := F20,
    me_Kind__plain := He.meth_ok (D.fact 103 (f := .meth "Kind" "plain") rfl),
    b_Kind__plain := b20,
    F_BagKind__plain := F21,
    me_BagKind__plain := He.meth_ok (D.fact 104 (f := .meth "BagKind" "plain") rfl),
    b_BagKind__plain := b21,
    F_SetKind__plain := F22,
    me_SetKind__plain := He.meth_ok (D.fact 105 (f := .meth "SetKind" "plain") rfl),
    b_SetKind__plain := b22,
    F_HeadsKind__plain := F23,
    me_HeadsKind__plain := He.meth_ok (D.fact 106 (f := .meth "HeadsKind" "plain") rfl),
    b_HeadsKind__plain := b23,
    F_FirstKind__plain := F24,
    me_FirstKind__plain := He.meth_ok (D.fact 107 (f := .meth "FirstKind" "plain") rfl),
    b_FirstKind__plain := b24,
    F_TailsKind__plain := F25,
    me_TailsKind__plain := He.meth_ok (D.fact 108 (f := .meth "TailsKind" "plain") rfl),
    b_TailsKind__plain := b25,
    F_LastKind__plain := F26,
    me_LastKind__plain := He.meth_ok (D.fact 109 (f := .meth "LastKind" "plain") rfl),
    b_LastKind__plain := b26,
    F_EndsKind__plain := F27,
    me_EndsKind__plain := He.meth_ok (D.fact 110 (f := .meth "EndsKind" "plain") rfl),
    b_EndsKind__plain := b27,
    F_kind_named := F28,
    g_kind_named := He.glo_ok X G (D.fact 12 (f := .glo "kind_named") rfl),
    b_kind_named := b28,
    F_is_word := F29,
    g_is_word := He.glo_ok X G (D.fact 13 (f := .glo "is_word") rfl),
    b_is_word := b29,
    F_normal := F30,
    g_normal := He.glo_ok X G (D.fact 14 (f := .glo "normal") rfl),
    b_normal := b30,
    F__law_draw := F31,
    g__law_draw := He.glo_ok X G (D.fact 15 (f := .glo "_law_draw") rfl),
    b__law_draw := b31,
    F__law_joined := F32,
    g__law_joined := He.glo_ok X G (D.fact 16 (f := .glo "_law_joined") rfl),
    b__law_joined := b32,
    F__law_is_word := F33,
    g__law_is_word := He.glo_ok X G (D.fact 17 (f := .glo "_law_is_word") rfl),
    b__law_is_word := b33,
    F__law_narrowed_row := F34,
    g__law_narrowed_row := He.glo_ok X G (D.fact 18 (f := .glo "_law_narrowed_row") rfl),
    b__law_narrowed_row := b34,
    F_is_plain := F35,
    g_is_plain := He.glo_ok X G (D.fact 19 (f := .glo "is_plain") rfl),
    b_is_plain := b35,
    F_rest := F36,
    g_rest := He.glo_ok X G (D.fact 20 (f := .glo "rest") rfl),
    b_rest := b36,
    F_then := F37,
    g_then := He.glo_ok X G (D.fact 21 (f := .glo "then") rfl),
    F_effect_on := F38,
    g_effect_on := He.glo_ok X G (D.fact 22 (f := .glo "effect_on") rfl),
    b_effect_on := b38,
    F_narrowed_effect := F39,
    g_narrowed_effect := He.glo_ok X G (D.fact 23 (f := .glo "narrowed_effect") rfl),
    b_narrowed_effect := b39,
    F__law_pick := F40,
    g__law_pick := He.glo_ok X G (D.fact 24 (f := .glo "_law_pick") rfl),
    b__law_pick := b40,
    F__law_then := F41,
    g__law_then := He.glo_ok X G (D.fact 25 (f := .glo "_law_then") rfl),
    b__law_then := b41,
    F__law_on := F42,
    g__law_on := He.glo_ok X G (D.fact 26 (f := .glo "_law_on") rfl),
    b__law_on := b42,
    F__law_is_effect := F43,
    g__law_is_effect := He.glo_ok X G (D.fact 27 (f := .glo "_law_is_effect") rfl),
    b__law_is_effect := b43,
    F__law_rest := F44,
    g__law_rest := He.glo_ok X G (D.fact 28 (f := .glo "_law_rest") rfl),
    b__law_rest := b44,
    F_is_effect := F45,
    g_is_effect := He.glo_ok X G (D.fact 29 (f := .glo "is_effect") rfl),
    b_is_effect := b45,
    F_step := F46,
    g_step := He.glo_ok X G (D.fact 30 (f := .glo "step") rfl),
    b_step := b46,
    F__law_kind := F47,
    g__law_kind := He.glo_ok X G (D.fact 31 (f := .glo "_law_kind") rfl),
    b__law_kind := b47,
    F__law_letters := F48,
    g__law_letters := He.glo_ok X G (D.fact 32 (f := .glo "_law_letters") rfl),
    b__law_letters := b48,
    F__law_raw := F49,
    g__law_raw := He.glo_ok X G (D.fact 33 (f := .glo "_law_raw") rfl),
    b__law_raw := b49,
    F__law_step := F50,
    g__law_step := He.glo_ok X G (D.fact 34 (f := .glo "_law_step") rfl),
    b__law_step := b50,
    F__law_running := F51,
    g__law_running := He.glo_ok X G (D.fact 35 (f := .glo "_law_running") rfl),
    b__law_running := b51,
    F__law_same_row := F52,
    g__law_same_row := He.glo_ok X G (D.fact 36 (f := .glo "_law_same_row") rfl),
    b__law_same_row := b52,
    F__law_states := F53,
    g__law_states := He.glo_ok X G (D.fact 37 (f := .glo "_law_states") rfl),
    b__law_states := b53,
    F__law_lower_kind := F54,
    g__law_lower_kind := He.glo_ok X G (D.fact 38 (f := .glo "_law_lower_kind") rfl),
    b__law_lower_kind := b54,
    F_under := F55,
    g_under := He.glo_ok X G (D.fact 39 (f := .glo "under") rfl),
    b_under := b55,
    F_check_effects := F56,
    g_check_effects := He.glo_ok X G (D.fact 40 (f := .glo "check_effects") rfl),
    b_check_effects := b56,
    F_swallowed := F57,
    g_swallowed := He.glo_ok X G (D.fact 41 (f := .glo "swallowed") rfl),
    b_swallowed := b57,
    F_twice_at_once := F58,
    g_twice_at_once := He.glo_ok X G (D.fact 42 (f := .glo "twice_at_once") rfl),
    b_twice_at_once := b58,
    F_twice_later := F59,
    g_twice_later := He.glo_ok X G (D.fact 43 (f := .glo "twice_later") rfl),
    b_twice_later := b59,
    F_twice_earlier := F60,
    g_twice_earlier := He.glo_ok X G (D.fact 44 (f := .glo "twice_earlier") rfl),
    b_twice_earlier := b60,
    F__law_near := F61,
    g__law_near := He.glo_ok X G (D.fact 45 (f := .glo "_law_near") rfl),
    b__law_near := b61,
    F__law_twin_row := F62,
    g__law_twin_row := He.glo_ok X G (D.fact 46 (f := .glo "_law_twin_row") rfl),
    b__law_twin_row := b62,
    F__law_steps := F63,
    g__law_steps := He.glo_ok X G (D.fact 47 (f := .glo "_law_steps") rfl),
    b__law_steps := b63,
    F__law_later := F64,
    g__law_later := He.glo_ok X G (D.fact 48 (f := .glo "_law_later") rfl),
    b__law_later := b64,
    F_plain_word := F65,
    g_plain_word := He.glo_ok X G (D.fact 49 (f := .glo "plain_word") rfl),
    b_plain_word := b65,
    F_joined := F66,
    g_joined := He.glo_ok X G (D.fact 50 (f := .glo "joined") rfl),
    F_fresh_word := F67,
    g_fresh_word := He.glo_ok X G (D.fact 51 (f := .glo "fresh_word") rfl),
    F_parted_words := F68,
    g_parted_words := He.glo_ok X G (D.fact 52 (f := .glo "parted_words") rfl),
    b_parted_words := b68,
    F_parting_state := F69,
    g_parting_state := He.glo_ok X G (D.fact 53 (f := .glo "parting_state") rfl),
    b_parting_state := b69,
    F_running := F70,
    g_running := He.glo_ok X G (D.fact 54 (f := .glo "running") rfl),
    b_running := b70,
    F_steps_between := F71,
    g_steps_between := He.glo_ok X G (D.fact 55 (f := .glo "steps_between") rfl),
    bk_steps_between := bk71,
    F_parting_word := F72,
    g_parting_word := He.glo_ok X G (D.fact 56 (f := .glo "parting_word") rfl),
    b_parting_word := b72,
    F__law_row := F73,
    g__law_row := He.glo_ok X G (D.fact 57 (f := .glo "_law_row") rfl),
    b__law_row := b73,
    F_change_places := F74,
    g_change_places := He.glo_ok X G (D.fact 58 (f := .glo "change_places") rfl),
    b_change_places := b74,
    F_parting_swap := F75,
    g_parting_swap := He.glo_ok X G (D.fact 59 (f := .glo "parting_swap") rfl),
    b_parting_swap := b75,
    F__law_along := F76,
    g__law_along := He.glo_ok X G (D.fact 60 (f := .glo "_law_along") rfl),
    b__law_along := b76,
    F__law_refused_row := F77,
    g__law_refused_row := He.glo_ok X G (D.fact 61 (f := .glo "_law_refused_row") rfl),
    b__law_refused_row := b77,
    F__law_word_door := F78,
    g__law_word_door := He.glo_ok X G (D.fact 62 (f := .glo "_law_word_door") rfl),
    b__law_word_door := b78,
    F__law_effect_door := F79,
    g__law_effect_door := He.glo_ok X G (D.fact 63 (f := .glo "_law_effect_door") rfl),
    b__law_effect_door := b79,
    F__law_refused_kind := F80,
    g__law_refused_kind := He.glo_ok X G (D.fact 64 (f := .glo "_law_refused_kind") rfl),
    b__law_refused_kind := b80,
    F__law_refusals := F81,
    g__law_refusals := He.glo_ok X G (D.fact 65 (f := .glo "_law_refusals") rfl),
    b__law_refusals := b81,
    F_law := F82,
    g_law := He.glo_ok X G (D.fact 66 (f := .glo "law") rfl),
    b_law := b82,
    dd1_steps_between := d71_1,
    z_abs := He.free_ok X G (D.fact 111 (f := .free "abs") rfl),
    z_all := He.free_ok X G (D.fact 112 (f := .free "all") rfl),
    z_bool := He.free_ok X G (D.fact 113 (f := .free "bool") rfl),
    z_enumerate := He.free_ok X G (D.fact 114 (f := .free "enumerate") rfl),
    z_int := He.free_ok X G (D.fact 115 (f := .free "int") rfl),
    z_isinstance := He.free_ok X G (D.fact 116 (f := .free "isinstance") rfl),
    z_len := He.free_ok X G (D.fact 117 (f := .free "len") rfl),
    z_list := He.free_ok X G (D.fact 118 (f := .free "list") rfl),
    z_max := He.free_ok X G (D.fact 119 (f := .free "max") rfl),
    z_range := He.free_ok X G (D.fact 120 (f := .free "range") rfl),
    z_repr := He.free_ok X G (D.fact 121 (f := .free "repr") rfl),
    z_set := He.free_ok X G (D.fact 122 (f := .free "set") rfl),
    z_sorted := He.free_ok X G (D.fact 123 (f := .free "sorted") rfl),
    z_str := He.free_ok X G (D.fact 124 (f := .free "str") rfl),
    z_sum := He.free_ok X G (D.fact 125 (f := .free "sum") rfl),
    z_super := He.free_ok X G (D.fact 126 (f := .free "super") rfl),
    z_tuple := He.free_ok X G (D.fact 127 (f := .free "tuple") rfl),
    c_GREATEST_LETTER := He.int_ok X G (D.fact 128 (f := .int "GREATEST_LETTER" 999999999) rfl),
    m_StoreError := He.glo_ok X G (D.fact 67 (f := .glo "StoreError") rfl),
    m_NameFault := He.glo_ok X G (D.fact 68 (f := .glo "NameFault") rfl),
    m_PlaceFault := He.glo_ok X G (D.fact 69 (f := .glo "PlaceFault") rfl),
    m_BadKind := He.glo_ok X G (D.fact 70 (f := .glo "BadKind") rfl),
    m_BadName := He.glo_ok X G (D.fact 71 (f := .glo "BadName") rfl),
    m_BadWord := He.glo_ok X G (D.fact 72 (f := .glo "BadWord") rfl),
    m_BadEffect := He.glo_ok X G (D.fact 73 (f := .glo "BadEffect") rfl),
    m_BadStretch := He.glo_ok X G (D.fact 74 (f := .glo "BadStretch") rfl),
    m_BadField := He.glo_ok X G (D.fact 75 (f := .glo "BadField") rfl),
    m_BadBatch := He.glo_ok X G (D.fact 76 (f := .glo "BadBatch") rfl),
    m_Kind := He.glo_ok X G (D.fact 77 (f := .glo "Kind") rfl),
    m_BagKind := He.glo_ok X G (D.fact 78 (f := .glo "BagKind") rfl),
    m_SetKind := He.glo_ok X G (D.fact 79 (f := .glo "SetKind") rfl),
    m_HeadsKind := He.glo_ok X G (D.fact 80 (f := .glo "HeadsKind") rfl),
    m_FirstKind := He.glo_ok X G (D.fact 81 (f := .glo "FirstKind") rfl),
    m_TailsKind := He.glo_ok X G (D.fact 82 (f := .glo "TailsKind") rfl),
    m_LastKind := He.glo_ok X G (D.fact 83 (f := .glo "LastKind") rfl),
    m_EndsKind := He.glo_ok X G (D.fact 84 (f := .glo "EndsKind") rfl),
    mk_KIND_NAMES := He.glo_ok X G (D.fact 85 (f := .glo "KIND_NAMES") rfl),
    kt_KIND_NAMES := fun H => He.tupB_ok (c.cls 18 (e := .tup "KIND_NAMES" [.str "list", .str "bag", .str "set", .str "first", .str "last", .str "ends", .str "heads", .str "tails"]) rfl) H,
    mk_IDLE := He.glo_ok X G (D.fact 86 (f := .glo "IDLE") rfl),
    ke_IDLE := Hk.eff_ok (c.cls 19 (e := .eff "IDLE" false) rfl),
    cl_Kind := He.cls_ok (D.fact 87 (f := .cls "Kind") rfl),
    bc_Kind := Kd.bareB_ok (c.cls 10 (e := .bare "Kind") rfl),
    cl_BagKind := He.cls_ok (D.fact 88 (f := .cls "BagKind") rfl),
    bc_BagKind := Kd.bareB_ok (c.cls 11 (e := .bare "BagKind") rfl),
    cl_SetKind := He.cls_ok (D.fact 89 (f := .cls "SetKind") rfl),
    bc_SetKind := Kd.bareB_ok (c.cls 12 (e := .bare "SetKind") rfl),
    cl_HeadsKind := He.cls_ok (D.fact 90 (f := .cls "HeadsKind") rfl),
    bc_HeadsKind := Kd.bareB_ok (c.cls 13 (e := .bare "HeadsKind") rfl),
    cl_FirstKind := He.cls_ok (D.fact 91 (f := .cls "FirstKind") rfl),
    bc_FirstKind := Kd.bareB_ok (c.cls 14 (e := .bare "FirstKind") rfl),
    cl_TailsKind := He.cls_ok (D.fact 92 (f := .cls "TailsKind") rfl),
    bc_TailsKind := Kd.bareB_ok (c.cls 15 (e := .bare "TailsKind") rfl),
    cl_LastKind := He.cls_ok (D.fact 93 (f := .cls "LastKind") rfl),
    bc_LastKind := Kd.bareB_ok (c.cls 16 (e := .bare "LastKind") rfl),
    cl_EndsKind := He.cls_ok (D.fact 94 (f := .cls "EndsKind") rfl),
    bc_EndsKind := Kd.bareB_ok (c.cls 17 (e := .bare "EndsKind") rfl),
    S_NameFault := S0,
    bi_NameFault := B0,
    S_PlaceFault := S1,
    bi_PlaceFault := B1,
    s_BadEffect := Hk.supB_ok (c.cls 0 (e := .sup "BadEffect" "PlaceFault" "place") rfl),
    i_BadEffect := He.eqO_ok (c.cls 1 (e := .ini "BadEffect" "PlaceFault") rfl),
    x_BadEffect := Hk.exdB_ok (c.cls 2 (e := .exd "BadEffect") rfl),
    y_BadEffect := xfB_ok (c.cls 3 (e := .xf "BadEffect") rfl),
    e_BadEffect := of_decide_eq_true (c.cls 4 (e := .exm "BadEffect") rfl),
    s_BadKind := Hk.supB_ok (c.cls 5 (e := .sup "BadKind" "NameFault" "name") rfl),
    i_BadKind := He.eqO_ok (c.cls 6 (e := .ini "BadKind" "NameFault") rfl),
    x_BadKind := Hk.exdB_ok (c.cls 7 (e := .exd "BadKind") rfl),
    y_BadKind := xfB_ok (c.cls 8 (e := .xf "BadKind") rfl),
    e_BadKind := of_decide_eq_true (c.cls 9 (e := .exm "BadKind") rfl),
    k_BadEffect_StoreError := of_decide_eq_true (c.cls 20 (e := .kit "BadEffect" "StoreError" true) rfl),
    k_BadEffect_NameFault := of_decide_eq_true (c.cls 21 (e := .kit "BadEffect" "NameFault" false) rfl),
    k_BadEffect_PlaceFault := of_decide_eq_true (c.cls 22 (e := .kit "BadEffect" "PlaceFault" true) rfl),
    k_BadEffect_BadKind := of_decide_eq_true (c.cls 23 (e := .kit "BadEffect" "BadKind" false) rfl),
    k_BadEffect_BadName := of_decide_eq_true (c.cls 24 (e := .kit "BadEffect" "BadName" false) rfl),
    k_BadEffect_BadWord := of_decide_eq_true (c.cls 25 (e := .kit "BadEffect" "BadWord" false) rfl),
    k_BadEffect_BadStretch := of_decide_eq_true (c.cls 26 (e := .kit "BadEffect" "BadStretch" false) rfl),
    k_BadEffect_BadField := of_decide_eq_true (c.cls 27 (e := .kit "BadEffect" "BadField" false) rfl),
    k_BadEffect_BadBatch := of_decide_eq_true (c.cls 28 (e := .kit "BadEffect" "BadBatch" false) rfl),
    k_BadKind_StoreError := of_decide_eq_true (c.cls 29 (e := .kit "BadKind" "StoreError" true) rfl),
    k_BadKind_NameFault := of_decide_eq_true (c.cls 30 (e := .kit "BadKind" "NameFault" true) rfl),
    k_BadKind_PlaceFault := of_decide_eq_true (c.cls 31 (e := .kit "BadKind" "PlaceFault" false) rfl),
    k_BadKind_BadName := of_decide_eq_true (c.cls 32 (e := .kit "BadKind" "BadName" false) rfl),
    k_BadKind_BadWord := of_decide_eq_true (c.cls 33 (e := .kit "BadKind" "BadWord" false) rfl),
    k_BadKind_BadEffect := of_decide_eq_true (c.cls 34 (e := .kit "BadKind" "BadEffect" false) rfl),
    k_BadKind_BadStretch := of_decide_eq_true (c.cls 35 (e := .kit "BadKind" "BadStretch" false) rfl),
    k_BadKind_BadField := of_decide_eq_true (c.cls 36 (e := .kit "BadKind" "BadField" false) rfl),
    k_BadKind_BadBatch := of_decide_eq_true (c.cls 37 (e := .kit "BadKind" "BadBatch" false) rfl) }
  have e := hfa.symm.trans (He.glo_ok X G (D.fact 66 (f := .glo "law") rfl))
  cases e
  have b := FunD.bindsA (ps := ["_law_script"]) F82 fun _ _ _ _ _ _ us hl => match us, hl with | [_], _ => rfl
  exact ⟨fd82, fun s v => b s [v] rfl, fun base _ _ => ok_law T⟩
end Kx
set_option maxHeartbeats 0
open PySem PySem.W PySem.Calls PyProof.Rows
theorem PySem.Challenge.cw_leastshelf_k08_whole_rows_of_effects_holds : PySem.Challenge.rw_leastshelf_k08_whole_rows_of_effects.Holds := by
  w_on; o_law
  refine HandSHeadRun.head_any (r := OpenLaw.row PySem.Challenge.rw_leastshelf_k08_whole_rows_of_effects) (q := view (OpenLaw.row PySem.Challenge.rw_leastshelf_k08_whole_rows_of_effects).prog [98]) (H := Kx.hk) (ob := Kx.ob) (M := 8000) (loose := Kx.looseN) (d := HandSHeadRun.topDef (OpenLaw.row PySem.Challenge.rw_leastshelf_k08_whole_rows_of_effects).prog 98) (kwd := []) Kx.ob_eq
    (by kernel_rfl) (fun s => by kernel_rfl) Kx.run (by kernel_rfl) (by kernel_rfl) (by kernel_rfl) (by rfl) (by first | assumption | decide +kernel) (by decide +kernel) ⟨rfl, rfl, rfl, rfl, rfl, by decide +kernel⟩ ?hw ?hc
  case hw => w_witness2
  case hc =>
    refine L2.walk_ofE (l := PySem.Challenge.rw_leastshelf_k08_whole_rows_of_effects) (n := 63) (k := 11) (x := "_law_script") (CX := L2.CX0) rfl (by decide) (by kernel_rfl) ⟨rfl, by decide, by decide⟩ ?F (fun _ _ _ _ z => z)
    intro w mg fa h Y G hmg0
    obtain ⟨K, KX, c⟩ := Y
    have hmg : mg ("law" : PySem.Str) = some (.ref fa) := by
      have e : (HandSHeadRun.topDef (OpenLaw.row PySem.Challenge.rw_leastshelf_k08_whole_rows_of_effects).prog 98).name = ("law" : PySem.Str) := by kernel_rfl
      rw [← e]
      exact hmg0
    obtain ⟨fd, hb, hF⟩ := Kx.facts (P := (PySem.Challenge.rw_leastshelf_k08_whole_rows_of_effects).prog) (w := w) KX G (by kernel_rfl) (by kernel_rfl) hmg c
    exact ⟨K, fd, Kx.sp_law K, KX, hb, fun H a ns hl _ hS => ⟨a, ns, rfl, hS, hl, fun _ => rfl⟩, hF⟩
